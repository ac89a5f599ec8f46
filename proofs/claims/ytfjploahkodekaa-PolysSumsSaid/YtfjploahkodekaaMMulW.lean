/-
  limbs.Mul: all its words, lowest first.
-/
import Derived.Laws.CopyOwn
import Derived.Test.YtfjploahkodekaaMShift
import Derived.Test.YtfjploahkodekaaMShort
namespace Go.Proofs.Ytfjploahkodekaa
set_option maxRecDepth 100000
open Go.RowKit
set_option linter.unusedSimpArgs false
set_option linter.unusedVariables false
attribute [local go_sem ↓] Go.wp_at_zero Go.wp_at_succ

/-- what memory holds while Mul reckons -/
structure MW (wr : World) (w : World) (X Y : Nat) (L : List Nat) : Prop where
  a : At wr w.heap.size 24 (ws (wl X))
  b : At wr (w.heap.size + 1) 24 (ws (wl Y))
  low : At wr (w.heap.size + 1 + 1) 24 (ws [0, 0, 0, 0])
  high : At wr (w.heap.size + 1 + 1 + 1) 24 (ws [0, 0, 0, 0])
  all : At wr (w.heap.size + 1 + 1 + 1 + 1) 84 (ws L)
  len : L.length = 8
  lt : ∀ x ∈ L, x < 18446744073709551616
  bel : Below w.heap.size w wr

theorem MW.put {wr w : World} {X Y : Nat} {L : List Nat} (h : MW wr w X Y L) (k v : Nat) (hv : v < 18446744073709551616) :
    MW (wr.setCell ⟨w.heap.size + 1 + 1 + 1 + 1, k, none⟩ (.int .u64 (v : Nat))) w X Y (L.set k v) :=
  ⟨h.a.far (by show _ ≠ _; dsimp; omega) _, h.b.far (by show _ ≠ _; dsimp; omega) _, h.low.far (by show _ ≠ _; dsimp; omega) _, h.high.far (by show _ ≠ _; dsimp; omega) _, by rw [← ws_set]; exact h.all.set _ _,
    by rw [List.length_set]; exact h.len, fun x hx => by
      rcases List.mem_or_eq_of_mem_set hx with h1 | h1
      · exact h.lt x h1
      · rw [h1]; exact hv, h.bel.setCell (by dsimp; omega) _⟩
theorem MW.drew {wr w : World} {X Y : Nat} {L : List Nat} (h : MW wr w X Y L) : MW wr.drew w X Y L := ⟨h.a, h.b, h.low, h.high, h.all, h.len, h.lt, h.bel.drew⟩
theorem add_at (g o j : Nat) : (⟨g, o, none⟩ : Addr).add j = ⟨g, o + j, none⟩ := by
  unfold Addr.add
  split
  · rename_i h; rw [h]; rfl
  · rfl
theorem getD_lt {L : List Nat} {b : Nat} (h : ∀ x ∈ L, x < b) (k : Nat) (hk : k < L.length) : L.getD k 0 < b := by
  simp only [List.getD, List.getElem?_eq_getElem hk, Option.getD_some]; exact h _ (List.getElem_mem _)
theorem getD_set_far (L : List Nat) (k v m : Nat) (h : k ≠ m) : (L.set k v).getD m 0 = L.getD m 0 := by
  simp only [List.getD, List.getElem?_set_ne h]

set_option maxHeartbeats 4000000 in
theorem mul_words (X Y : Nat) (hX : X < 2 ^ 256) (hY : Y < 2 ^ 256) (w : World) :
    Calls Try.prog 48 #[num X, num Y] w fun e w' => ∃ L : List Nat, L.length = 8 ∧ (∀ x ∈ L, x < 18446744073709551616) ∧ lv 18446744073709551616 L = X * Y ∧
      e = .returned (.tuple #[.agg (ws (L.take 4)), .agg (ws (L.drop 4))]) ∧ Below w.heap.size w w' := by
  go_enter Try.func48, Try.ntmps48
  go_wp2
  go_loopw [10] (fun s wr => ∃ (i : Nat) (L : List Nat), i ≤ 4 ∧ s = .int .i64 i ∧ Hid (MW wr w X Y L ∧ (∀ k, i + 4 ≤ k → L.getD k 0 = 0) ∧ lv 18446744073709551616 L = X % 18446744073709551616 ^ i * Y)) (fun s _ => 4 - (intOf s).toNat)
  case atStart =>
    refine ⟨0, [0, 0, 0, 0, 0, 0, 0, 0], by omega, rfl, ⟨⟨?_, ?_, ?_, ?_, ?_, rfl, by simp, ?_⟩, fun k hk => ?_, ?_⟩⟩
    · exact ((((At.at_ w _ _ _ rfl).alloc _).alloc _).alloc _).alloc _
    · exact (((At.at_ (w.alloc _) _ _ _ (by simp)).alloc _).alloc _).alloc _
    · exact ((At.at_ ((w.alloc _).alloc _) _ _ _ (by simp)).alloc _).alloc _
    · exact (At.at_ (((w.alloc _).alloc _).alloc _) _ _ _ (by simp)).alloc _
    · exact At.at_ ((((w.alloc _).alloc _).alloc _).alloc _) _ _ _ (by simp)
    · repeat (first | exact Below.refl _ _ | refine gr_alloc ?_ _)
    · match k, hk with
      | 4, _ | 5, _ | 6, _ | 7, _ => rfl
      | k + 8, _ => simp
    · simp [lv, Nat.mod_one]
  case round =>
    obtain ⟨i, L, hi, rfl, hH⟩ := hrel
    by_cases hlt : i < 4
    · have hb : decide ((i : Int) < 4) = true := by simp; omega
      go_wp2
      go_loopw [8, 13] (fun c s wi => ∃ (j cc : Nat) (M : List Nat), j ≤ 4 ∧ s = .int .i64 j ∧ c = .int .u64 (cc : Nat) ∧ Hid (MW wi w X Y M ∧ cc < 18446744073709551616 ∧ (∀ k, i + 4 ≤ k → M.getD k 0 = 0) ∧
          lv 18446744073709551616 M + 18446744073709551616 ^ (i + j) * cc = X % 18446744073709551616 ^ i * Y + 18446744073709551616 ^ i * (wd X i * (Y % 18446744073709551616 ^ j)))) (fun _ s _ => 4 - (intOf s).toNat)
      case atStart => exact ⟨0, 0, L, by omega, rfl, rfl, hH.out.1, by omega, hH.out.2.1, by rw [hH.out.2.2]; simp [Nat.mod_one]⟩
      case round =>
        clear hH
        obtain ⟨j, cc, M, hj, rfl, rfl, hM⟩ := hrel
        by_cases hjt : j < 4
        · have fa : wr.drew.cell? ⟨w.heap.size, i, none⟩ = some (.int .u64 (wd X i : Nat)) := by rw [hM.out.1.a.drew.cell, ws_at _ _ (by simp [wl]; omega), wl_at X i hlt]
          have fb : wr.drew.cell? ⟨w.heap.size + 1, j, none⟩ = some (.int .u64 (wd Y j : Nat)) := by rw [hM.out.1.b.drew.cell, ws_at _ _ (by simp [wl]; omega), wl_at Y j hjt]
          have fm : wr.drew.cell? ⟨w.heap.size + 1 + 1 + 1 + 1, i + j, none⟩ = some (.int .u64 (M.getD (i + j) 0 : Nat)) := by rw [hM.out.1.all.drew.cell, ws_at _ _ (by rw [hM.out.1.len]; omega)]
          have ff : wr.drew.frozen? ⟨w.heap.size + 1 + 1 + 1 + 1, i + j, none⟩ = false := hM.out.1.all.drew.frozen _
          obtain ⟨m, hm⟩ : ∃ m, M.getD (i + j) 0 = m := ⟨_, rfl⟩
          have hml : m < 18446744073709551616 := by rw [← hm]; exact getD_lt hM.out.1.lt _ (by rw [hM.out.1.len]; omega)
          rw [hm] at fm
          obtain ⟨h, l, hh, hl, he, C⟩ := mulAdd_ex (wd X i) (wd Y j) m cc (wd_lt _ _) (wd_lt _ _) hml hM.out.2.1
          have he' := Lib.hid he
          clear he hml
          obtain ⟨s, hs⟩ : ∃ s, s = i + j := ⟨_, rfl⟩
          have hs' := Lib.hid hs
          have g1 : IntKind.i64.wrap ((i : Int) + (j : Int)) = (s : Nat) := by rw [IntKind.wrap_i64]; omega
          have g2 : s < 8 := by omega
          have g3 : (s : Int) < 8 := by omega
          have g4 : (i : Int) < 4 := by omega
          have g5 : (j : Int) < 4 := by omega
          rw [← hs] at fm ff
          clear hs
          go_wp2
          refine wp_region_still_tail 21 (by kernel_rfl) (by kernel_rfl) ?_
          simp only [List.take_succ_cons, List.take_zero, List.drop_succ_cons, List.drop_zero]
          change wpStill _ _ wr.drew (fun a' => wpList _ _ _ _ a' wr.drew) _ _
          obtain ⟨wj, hwj⟩ : ∃ wj, wr.drew = wj := ⟨_, rfl⟩
          have hwj' := Lib.hid hwj
          rw [hwj] at fa fb fm ff ⊢
          clear hwj
          repeat still_step
          still_call (C _)
          repeat still_step
          refine wpStill_nil ?_
          go_wp2
          go_roundw
          case rel =>
            have hs := hs'.out
            refine ⟨j + 1, h, M.set s l, by omega, by go_num, rfl, ?_, hh, fun k hk => ?_, ?_⟩
            · rw [← hwj'.out]; exact hM.out.1.drew.put s l hl
            · rw [getD_set_far _ _ _ _ (by omega)]; exact hM.out.2.2.1 k hk
            · rw [hs]
              refine row_step _ _ _ _ cc _ _ _ _ M (by rw [hM.out.1.len]; omega) hM.out.2.2.2 ?_
              rw [hm]; exact he'.out
          case measure => simp [intOf]; omega
        · obtain rfl : j = 4 := by omega
          have fm : wr.cell? ⟨w.heap.size + 1 + 1 + 1 + 1, i + 4, none⟩ = some (.int .u64 0) := by rw [hM.out.1.all.cell, ws_at _ _ (by rw [hM.out.1.len]; omega), hM.out.2.2.1 (i + 4) (by omega)]; rfl
          have ff : wr.frozen? ⟨w.heap.size + 1 + 1 + 1 + 1, i + 4, none⟩ = false := hM.out.1.all.frozen _
          go_wp2
          go_roundw
          case rel =>
            refine ⟨i + 1, M.set (i + 4) cc, by omega, by go_num, hM.out.1.put _ _ hM.out.2.1, fun k hk => ?_, ?_⟩
            · rw [getD_set_far _ _ _ _ (by omega)]; exact hM.out.2.2.1 k (by omega)
            · exact row_done _ X Y 4 i cc M (by omega) (by rw [hM.out.1.len]; omega) (hM.out.2.2.1 (i + 4) (by omega)) hM.out.2.2.2
          case measure => simp [intOf]; omega
    · obtain rfl : i = 4 := by omega
      obtain ⟨l0, l1, l2, l3, l4, l5, l6, l7, rfl⟩ : ∃ l0 l1 l2 l3 l4 l5 l6 l7 : Nat, L = [l0, l1, l2, l3, l4, l5, l6, l7] := by
        have := hH.out.1.len
        match L, this with
        | [l0, l1, l2, l3, l4, l5, l6, l7], _ => exact ⟨l0, l1, l2, l3, l4, l5, l6, l7, rfl⟩
      go_wp2_with fail
      refine wp_region_still_tail 2 (by kernel_rfl) (by kernel_rfl) ?_
      simp only [List.take_succ_cons, List.take_zero, List.drop_succ_cons, List.drop_zero]
      change wpStill _ _ wr.drew (fun a' => wpList _ _ _ _ a' wr.drew) _ _
      have HM := hH.out.1.drew
      have HV := Lib.hid hH.out.2.2
      clear hH
      generalize wr.drew = wj at *
      have HM' := Lib.hid HM
      clear HM
      repeat still_step
      refine wpStill_nil ?_
      refine wpList_copy_own rfl (.tmp 42) (.tmp 43) 64 64 rfl 22 Try.underlying64 (by kernel_rfl) (w.heap.size + 1 + 1) 0 4 4 ⟨w.heap.size + 1 + 1 + 1 + 1, 0, none⟩ 4 8 (by simp [Act.eval, Act.put]) (by simp [Act.eval, Act.put]) _ _ HM'.out.low
        [.int .u64 l0, .int .u64 l1, .int .u64 l2, .int .u64 l3] rfl (fun j v h => ?_) (by simp [ws]) (by simp [Value.oneCell']) ?_
      · have hs : (ws [l0, l1, l2, l3, l4, l5, l6, l7])[j]? = some v := by
          match j, h with
          | 0, h | 1, h | 2, h | 3, h => exact h
        rw [add_at, Nat.zero_add, HM'.out.all.cell, hs]
      change wpList _ _ _ _ _ (wj.setRow (w.heap.size + 1 + 1) (ws [l0, l1, l2, l3]))
      have Alow := Lib.hid (HM'.out.low.row (ws [l0, l1, l2, l3]))
      have Ahigh := Lib.hid (HM'.out.high.rowFar (g' := w.heap.size + 1 + 1) (by omega) (ws [l0, l1, l2, l3]))
      have Aall := Lib.hid (HM'.out.all.rowFar (g' := w.heap.size + 1 + 1) (by omega) (ws [l0, l1, l2, l3]))
      have B2 := Lib.hid (below_setRow (g := w.heap.size + 1 + 1) HM'.out.bel (by omega) (ws [l0, l1, l2, l3]))
      have hlt := HM'.out.lt
      have HL := Lib.hid hlt
      clear hlt HM'
      generalize wj.setRow (w.heap.size + 1 + 1) (ws [l0, l1, l2, l3]) = w2 at *
      go_wp2_with fail
      refine wp_region_still_tail 2 (by kernel_rfl) (by kernel_rfl) ?_
      simp only [List.take_succ_cons, List.take_zero, List.drop_succ_cons, List.drop_zero]
      change wpStill _ _ w2.drew (fun a' => wpList _ _ _ _ a' w2.drew) _ _
      have Alow3 := Lib.hid Alow.out.drew
      have Ahigh3 := Lib.hid Ahigh.out.drew
      have Aall3 := Lib.hid Aall.out.drew
      have B3 := Lib.hid B2.out.drew
      clear Alow Ahigh Aall B2
      generalize w2.drew = w3 at *
      repeat still_step
      refine wpStill_nil ?_
      refine wpList_copy_own rfl (.tmp 45) (.tmp 46) 64 64 rfl 22 Try.underlying64 (by kernel_rfl) (w.heap.size + 1 + 1 + 1) 0 4 4 ⟨w.heap.size + 1 + 1 + 1 + 1, 4, none⟩ 4 4 (by simp [Act.eval, Act.put]) (by simp [Act.eval, Act.put]) _ _ Ahigh3.out
        [.int .u64 l4, .int .u64 l5, .int .u64 l6, .int .u64 l7] rfl (fun j v h => ?_) (by simp [ws]) (by simp [Value.oneCell']) ?_
      · have hs : (ws [l0, l1, l2, l3, l4, l5, l6, l7])[4 + j]? = some v := by
          match j, h with
          | 0, h | 1, h | 2, h | 3, h => exact h
        rw [add_at, Aall3.out.cell, hs]
      change wpList _ _ _ _ _ (w3.setRow (w.heap.size + 1 + 1 + 1) (ws [l4, l5, l6, l7]))
      have Ah := Lib.hid (Ahigh3.out.row (ws [l4, l5, l6, l7]))
      have Al := Lib.hid (Alow3.out.rowFar (g' := w.heap.size + 1 + 1 + 1) (by omega) (ws [l4, l5, l6, l7]))
      have B4 := Lib.hid (below_setRow (g := w.heap.size + 1 + 1 + 1) B3.out (by omega) (ws [l4, l5, l6, l7]))
      clear Ahigh3 Alow3 Aall3 B3
      generalize w3.setRow (w.heap.size + 1 + 1 + 1) (ws [l4, l5, l6, l7]) = w4 at *
      have c0 : w4.cell? ⟨w.heap.size + 1 + 1, 0, none⟩ = some (.int .u64 l0) := Al.out.cell 0
      have c1 : w4.cell? ⟨w.heap.size + 1 + 1, 1, none⟩ = some (.int .u64 l1) := Al.out.cell 1
      have c2 : w4.cell? ⟨w.heap.size + 1 + 1, 2, none⟩ = some (.int .u64 l2) := Al.out.cell 2
      have c3 : w4.cell? ⟨w.heap.size + 1 + 1, 3, none⟩ = some (.int .u64 l3) := Al.out.cell 3
      have c4 : w4.cell? ⟨w.heap.size + 1 + 1 + 1, 0, none⟩ = some (.int .u64 l4) := Ah.out.cell 0
      have c5 : w4.cell? ⟨w.heap.size + 1 + 1 + 1, 1, none⟩ = some (.int .u64 l5) := Ah.out.cell 1
      have c6 : w4.cell? ⟨w.heap.size + 1 + 1 + 1, 2, none⟩ = some (.int .u64 l6) := Ah.out.cell 2
      have c7 : w4.cell? ⟨w.heap.size + 1 + 1 + 1, 3, none⟩ = some (.int .u64 l7) := Ah.out.cell 3
      have f0 : w4.frozen? ⟨w.heap.size + 1 + 1, 0, none⟩ = false := Al.out.frozen 0
      have f4 : w4.frozen? ⟨w.heap.size + 1 + 1 + 1, 0, none⟩ = false := Ah.out.frozen 0
      have s0 : w4.setCell ⟨w.heap.size + 1 + 1, 0, none⟩ (.int .u64 l0) = w4 := Al.out.again 0 _ rfl
      have s4 : w4.setCell ⟨w.heap.size + 1 + 1 + 1, 0, none⟩ (.int .u64 l4) = w4 := Ah.out.again 0 _ rfl
      have f1 : w4.frozen? ⟨w.heap.size + 1 + 1, 1, none⟩ = false := Al.out.frozen 1
      have f5 : w4.frozen? ⟨w.heap.size + 1 + 1 + 1, 1, none⟩ = false := Ah.out.frozen 1
      have s1 : w4.setCell ⟨w.heap.size + 1 + 1, 1, none⟩ (.int .u64 l1) = w4 := Al.out.again 1 _ rfl
      have s5 : w4.setCell ⟨w.heap.size + 1 + 1 + 1, 1, none⟩ (.int .u64 l5) = w4 := Ah.out.again 1 _ rfl
      have f2 : w4.frozen? ⟨w.heap.size + 1 + 1, 2, none⟩ = false := Al.out.frozen 2
      have f6 : w4.frozen? ⟨w.heap.size + 1 + 1 + 1, 2, none⟩ = false := Ah.out.frozen 2
      have s2 : w4.setCell ⟨w.heap.size + 1 + 1, 2, none⟩ (.int .u64 l2) = w4 := Al.out.again 2 _ rfl
      have s6 : w4.setCell ⟨w.heap.size + 1 + 1 + 1, 2, none⟩ (.int .u64 l6) = w4 := Ah.out.again 2 _ rfl
      have f3 : w4.frozen? ⟨w.heap.size + 1 + 1, 3, none⟩ = false := Al.out.frozen 3
      have f7 : w4.frozen? ⟨w.heap.size + 1 + 1 + 1, 3, none⟩ = false := Ah.out.frozen 3
      have s3 : w4.setCell ⟨w.heap.size + 1 + 1, 3, none⟩ (.int .u64 l3) = w4 := Al.out.again 3 _ rfl
      have s7 : w4.setCell ⟨w.heap.size + 1 + 1 + 1, 3, none⟩ (.int .u64 l7) = w4 := Ah.out.again 3 _ rfl
      go_wp2
      refine bodyPost_ret (v := .tuple #[.agg #[.int .u64 l0, .int .u64 l1, .int .u64 l2, .int .u64 l3], .agg #[.int .u64 l4, .int .u64 l5, .int .u64 l6, .int .u64 l7]]) (by simp [results, Try.results48, go_sem, *]) rfl
        ⟨[l0, l1, l2, l3, l4, l5, l6, l7], rfl, HL.out, ?_, rfl, B4.out⟩
      rw [HV.out, Nat.mod_eq_of_lt (by omega)]
end Go.Proofs.Ytfjploahkodekaa
