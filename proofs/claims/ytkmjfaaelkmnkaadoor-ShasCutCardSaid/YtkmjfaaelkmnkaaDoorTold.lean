/-
  shas.told: four bytes each.
-/
import Derived.Test.YtkmjfaaelkmnkaaDoorTaken
import Derived.Test.YtkmjfaaelkmnkaaDoorAbsent
import Derived.Test.YtkmjfaaelkmnkaaDoorCalls
namespace Go.Proofs.YtkmjfaaelkmnkaaDoor
open Go.RowKit
set_option linter.unusedSimpArgs false
set_option linter.unusedVariables false

theorem Rd.range {w : World} {b o n : Nat} {xs : List Value} (h : Rd w (some ⟨b, o, none⟩) n xs) : w.rangeAt b o xs := fun j v hj => by
  have hn : 0 < n := by have := (List.getElem?_eq_some_iff.1 hj).1; have := h.1; omega
  obtain ⟨b', o', e, _, hc⟩ := h.2 hn
  injection e with e
  injection e with e1 e2
  subst e1 e2
  exact hc j v hj
theorem told_step (l : List Nat) (i : Nat) (h : i < l.length) : (l.take i).flatMap (be 4) ++ be 4 (l.getD i 0) = (l.take (i + 1)).flatMap (be 4) := by
  rw [List.take_succ_eq_append_getElem h, List.flatMap_append, List.getD_eq_getElem?_getD, List.getElem?_eq_getElem h]
  simp
theorem told_len (l : List Nat) : (l.flatMap (be 4)).length = 4 * l.length := by
  induction l with
  | nil => rfl
  | cons x l ih => simp [ih, be_len]; omega

theorem arr_run (A : Option Addr) (c : Nat) (w : World) : (Instr.arrayAt 28 (.slice A 32 c)).run Tryd.prog w = .ok (.pointer A) w := by
  simp only [Instr.arrayAt, Sem.run_bind, run_underlying under_hash, Result.andThen_ok]
  simp
set_option maxRecDepth 100000 in
set_option maxHeartbeats 4000000 in
theorem told_ok (s : St) (o : s.Ok) (w : World) :
    Calls Tryd.prog 33 #[.agg (hs s.list).toArray] w fun e w' => e = .returned (.agg (bs (s.list.flatMap (be 4))).toArray) ∧ Below w.heap.size w w' := by
  have SL := Lib.hid (list_lt o)
  have SN : Hid (s.list.length = 8) := Lib.hid rfl
  have hL : Hid ((hs s.list).length = 8) := Lib.hid rfl
  generalize s.list = l at *
  have XE : Hid (∀ k, k < 8 → (hs l).toArray[k]? = some (.int .u32 (l.getD k 0 : Nat))) := Lib.hid (fun k hk => by rw [List.getElem?_toArray]; exact hs_at l k (by rw [SN.out]; exact hk))
  obtain ⟨xs, hxs⟩ : ∃ xs, hs l = xs := ⟨_, rfl⟩
  rw [hxs] at XE hL ⊢
  clear hxs o
  go_enter Tryd.func33, Tryd.ntmps33
  go_wp2_with (first | (refine law_box (d := 1) (ty := 64) xs.toArray rfl ?_; intro w1 N1) | (refine law_alloc (d := 2) (ty := 28) _ zero_hash ?_; intro w2 N2) | (refine law_load (ty := 64) w.heap.size 0 xs _ rfl (N1.at_.on N2.bel).all under_eight rfl (by rw [size_eight, hL.out]) ?_))
  have L2 := N2.at_
  have BW := bel_tr N1.bel N2.bel
  have E2 : w.heap.size ≤ w1.heap.size := N1.bel.size
  clear N1 N2
  generalize w1.heap.size = gr at *
  have M2 := Lib.hid L2
  have MB := Lib.hid BW
  clear L2 BW
  go_loopw [3, 7] (fun v s' wr => ∃ (i : Nat) (A : Option Addr), i ≤ 8 ∧ s' = .int .i64 i ∧ v = .slice A (4 * i) (4 * i) ∧ (A = none → 4 * i = 0 ∧ 4 * i = 0) ∧ Rd wr A (4 * i) (bs ((l.take i).flatMap (be 4))) ∧ At wr gr 28 (bs (List.replicate 32 0)).toArray ∧ Below w.heap.size w wr) (fun _ s' _ => 8 - (intOf s').toNat)
  case atStart => exact ⟨0, none, by omega, rfl, rfl, fun _ => ⟨rfl, rfl⟩, Rd.nil _ _, M2.out, MB.out⟩
  case round =>
    obtain ⟨i, A, hi, rfl, rfl, hA, hr, P2, PB⟩ := hrel
    clear M2 MB
    by_cases hlt : i < 8
    · have hlt' : (i : Int) < 8 := by omega
      have IX := fun w => instE i hlt xs.toArray _ (XE.out i hlt) w
      have lx := getD_lt l SL.out i
      have st := Lib.hid (told_step l i (by rw [SN.out]; exact hlt))
      generalize l.getD i 0 = x at *
      have cv : IntKind.u64.wrap (x : Int) = (x : Int) := by rw [IntKind.wrap_u64]; omega
      have C := Lib.hid (put_any A (4 * i) (4 * i) 4 x 4 _ wr (.inr (.inl ⟨by decide, by decide, rfl⟩)) (by omega) (Nat.le_refl _) hA hr (by omega))
      have Q2 := Lib.hid P2
      have QB := Lib.hid PB
      clear P2 PB hr hA
      have e4 : (4 : Int) * (i : Int) = ((4 * i : Nat) : Int) := by omega
      go_wp2_with (go_at_call 43; refine C.out.mono ?_; rintro e w' ⟨rfl, hown, hb⟩)
      go_roundw
      case rel =>
        have hR := Rd.own hown
        rw [st.out] at hR
        exact ⟨i + 1, _, by omega, by go_num, rfl, (fun h => by cases h), hR, Q2.out.on hb, bel_tr QB.out hb⟩
      case measure => simp [intOf]; omega
    · obtain rfl : i = 8 := by omega
      obtain ⟨b, off, rfl, hbs, _⟩ := hr.spot (show 0 < 4 * 8 by omega)
      rw [List.take_of_length_le (by rw [SN.out]; omega)] at hr
      have RG := Lib.hid hr.range
      have hL2 : Hid ((bs (l.flatMap (be 4))).length = 32) := Lib.hid (by rw [bs_len, told_len, SN.out])
      have ho := Lib.hid (bs_one (l.flatMap (be 4)))
      obtain ⟨ys, hys⟩ : ∃ ys, bs (l.flatMap (be 4)) = ys := ⟨_, rfl⟩
      have HYS := Lib.hid hys
      rw [hys] at RG hL2 ho
      have zz : Hid ((bs (List.replicate 32 0)).length = 32) := Lib.hid (by simp [bs_len])
      generalize bs (List.replicate 32 0) = zs at *
      have Q2 := Lib.hid P2
      have QB := Lib.hid PB
      clear P2 PB hr hA hys hi hlt
      have IA := fun w => arr_run (some ⟨b, off, none⟩) 32 w
      go_wp2_with (first | (refine law_load (ty := 28) b off ys _ rfl RG.out under_hash rfl (by rw [size_hash, hL2.out]) ?_) | (refine law_store (ty := 28) gr 0 _ _ ys rfl rfl Q2.out (by simp [hL2.out, zz.out]) (by rw [size_hash, hL2.out]) ho.out ?_; intro w7 P7))
      have L7 := P7.at_
      rw [put_all _ _ (by rw [hL2.out, zz.out])] at L7
      refine ret_cell (ty := 28) rfl gr _ ys _ rfl L7 under_hash rfl (by rw [size_hash, hL2.out]) rfl ⟨by rw [HYS.out], QB.out.grown P7.grown (by have := QB.out.size; omega) (by simp; omega)⟩
end Go.Proofs.YtkmjfaaelkmnkaaDoor
