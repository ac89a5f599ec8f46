/-
  balefirelaw10.alive.
-/
import Derived.Deep.Cut
import Derived.Test.YtfjploahkodekaaMP10
import Derived.Test.YtfjploahkodekaaMP9
import Derived.Test.YtfjploahkodekaaMShort
namespace Go.Proofs.Ytfjploahkodekaa
set_option maxRecDepth 100000
open Go.RowKit
set_option linter.unusedSimpArgs false
set_option linter.unusedVariables false
attribute [local go_sem ↓] Go.wp_at_zero Go.wp_at_succ

section
variable {x : Operand} {dst : Option Tmp} {ty : TypeId} {pos : String} {after : Array Edge} {guard : Option (Nat × Bool)} {ρ : Operand → Value} {w : World}
theorem o_buildW (n : Nat) (h : n < 18446744073709551616) (hc : ρ (.const (.int .u64 (n : Nat))) = .int .u64 (n : Nat)) : (execOp ρ ⟨dst, .build 24 #[(0, .const (.int .u64 (n : Nat)))], ty, pos, after, guard⟩).run Try.prog w = .ok (.value (num n)) w := by
  have h0 : wd n 0 = n := by unfold wd; rw [Nat.pow_zero, Nat.div_one, Nat.mod_eq_of_lt h]
  have hk : ∀ k, wd n (k + 1) = 0 := fun k => by unfold wd; rw [Nat.div_eq_of_lt (Nat.lt_of_lt_of_le h (by rw [Nat.pow_succ]; exact Nat.le_mul_of_pos_left _ (Nat.pow_pos (by decide))))]
  have h1 := hk 0; have h2 := hk 1; have h3 := hk 2
  have e : (execOp ρ ⟨dst, .build 24 #[(0, .const (.int .u64 (n : Nat)))], ty, pos, after, guard⟩).run Try.prog w = .ok (.value (.agg #[.int .u64 (n : Nat), .int .u64 0, .int .u64 0, .int .u64 0])) w := by simp [execOp, hc, go_sem]
  rw [e]
  simp [h0, h1, h2, h3]
theorem o_buildGQ {Q : Nat} (hx : ρ x = num Q) : (execOp ρ ⟨dst, .build 26 #[(1, x)], ty, pos, after, guard⟩).run Try.prog w = .ok (.value (grp 0 Q 0 0)) w := by
  have h : (execOp ρ ⟨dst, .build 26 #[(1, x)], ty, pos, after, guard⟩).run Try.prog w = .ok (.value (.agg #[.int .u64 0, .int .u64 0, .int .u64 0, .int .u64 0, .int .u64 (wd Q 0 : Nat), .int .u64 (wd Q 1 : Nat), .int .u64 (wd Q 2 : Nat), .int .u64 (wd Q 3 : Nat), .int .u64 0, .int .u64 0, .int .u64 0, .int .u64 0, .int .u64 0, .int .u64 0, .int .u64 0, .int .u64 0])) w := by simp [execOp, hx, go_sem]
  exact h
theorem o_sliceU3 {a b c : Nat} (ha : ρ (.const (.int .u64 (a : Nat))) = .int .u64 (a : Nat)) (hb : ρ (.const (.int .u64 (b : Nat))) = .int .u64 (b : Nat)) (hc : ρ (.const (.int .u64 (c : Nat))) = .int .u64 (c : Nat)) : (execOp ρ ⟨dst, .buildSlice 64 3 #[(0, .const (.int .u64 (a : Nat))), (1, .const (.int .u64 (b : Nat))), (2, .const (.int .u64 (c : Nat)))], ty, pos, after, guard⟩).run Try.prog w = .ok (.value (.slice (some ⟨w.heap.size, 0, none⟩) 3 3)) (w.alloc (.cells (us [a, b, c]) 22)) := by
  have h : (execOp ρ ⟨dst, .buildSlice 64 3 #[(0, .const (.int .u64 (a : Nat))), (1, .const (.int .u64 (b : Nat))), (2, .const (.int .u64 (c : Nat)))], ty, pos, after, guard⟩).run Try.prog w = .ok (.value (.slice (some ⟨w.heap.size, 0, none⟩) 3 3)) (w.alloc (.cells #[.int .u64 (a : Nat), .int .u64 (b : Nat), .int .u64 (c : Nat)] 22)) := by simp [execOp, ha, hb, hc, go_sem]
  exact h
theorem o_sliceU2 {a b : Nat} (ha : ρ (.const (.int .u64 (a : Nat))) = .int .u64 (a : Nat)) (hb : ρ (.const (.int .u64 (b : Nat))) = .int .u64 (b : Nat)) : (execOp ρ ⟨dst, .buildSlice 64 2 #[(0, .const (.int .u64 (a : Nat))), (1, .const (.int .u64 (b : Nat)))], ty, pos, after, guard⟩).run Try.prog w = .ok (.value (.slice (some ⟨w.heap.size, 0, none⟩) 2 2)) (w.alloc (.cells (us [a, b]) 22)) := by
  have h : (execOp ρ ⟨dst, .buildSlice 64 2 #[(0, .const (.int .u64 (a : Nat))), (1, .const (.int .u64 (b : Nat)))], ty, pos, after, guard⟩).run Try.prog w = .ok (.value (.slice (some ⟨w.heap.size, 0, none⟩) 2 2)) (w.alloc (.cells #[.int .u64 (a : Nat), .int .u64 (b : Nat)] 22)) := by simp [execOp, ha, hb, go_sem]
  exact h
end
section
variable {P : Program} {ops : Array Oper} {Q : Exit → Act → World → Prop} {a : Act} {n0 : Nat} {w w0 : World} {rest : List Oper} {o : Oper} {N : Nat} {L : List (Nat × Value)} {df : List Deferred} {M : List (Nat × TypeId × Array Value)}
theorem lx_rowB {d l : Nat} {cs : Array Value} {t : TypeId} (F : Fr a N L df) (H : Mem n0 w0 w M) (hw : Region.wanted o (yielded ops a.tmps) = true) (hdst : o.dst = some d) (hd : Nat.blt d N = true)
    (hr : (execOp a.eval o).run P w = .ok (.value (.slice (some ⟨w.heap.size, 0, none⟩) l l)) (w.alloc (.cells cs t)))
    (h : ∀ a' w' g, Fr a' N ((d, .slice (some ⟨g, 0, none⟩) l l) :: L) df → Mem n0 w0 w' ((g, t, cs) :: M) → Below w.heap.size w w' → wpList P ops Q rest a' w') : wpList P ops Q (o :: rest) a w :=
  lx_value F hw hdst hd hr fun a' F' => h a' _ _ F' (H.new cs t) ((Below.refl _ _).alloc (Nat.le_refl _) _)
end
theorem cg_of {Q : Nat} {a b : Int} (h : a % (Q : Int) = b % (Q : Int)) : Cg Q a b := Cg.of_mod h
theorem k_at1 (a : Option Addr) (c : Nat) (w : World) (r : RN w.heap.size w a 3 c [1, 2, 3]) : Calls Try.prog 9 #[grp 0 11 0 0, .slice a 3 c, num 2] w fun e w' => e = .returned (.tuple #[num 6, .int .i64 0]) ∧ Below w.heap.size w w' := by
  have := at_yes 0 11 0 0 2 3 c a [1, 2, 3] w (by decide) (by decide) r
  rwa [show sofN 11 (evZ (zs [1, 2, 3]) ((2 : Nat) : Int)) = 6 from by decide] at this
theorem k_at2 (w : World) : Calls Try.prog 9 #[grp 0 11 0 0, .slice none 0 0, num 5] w fun e w' => e = .returned (.tuple #[num 0, .int .i64 0]) ∧ Below w.heap.size w w' := by
  have := at_yes 0 11 0 0 5 0 0 none [] w (by decide) (by decide) (RS.nil w)
  rwa [show sofN 11 (evZ (zs []) ((5 : Nat) : Int)) = 0 from by decide] at this
theorem get12 {i x : Nat} {a b : Nat} (h : [a, b][i]? = some x) : (i = 0 ∧ x = a) ∨ (i = 1 ∧ x = b) := by
  match i, h with
  | 0, h => exact Or.inl ⟨rfl, (by simpa using h.symm)⟩
  | 1, h => exact Or.inr ⟨rfl, (by simpa using h.symm)⟩
  | i + 2, h => simp at h
theorem k_w1 (a : Option Addr) (c : Nat) (w : World) (r : RN w.heap.size w a 2 c [1, 2]) : Calls Try.prog 14 #[grp 0 11 0 0, .slice a 2 c, num 0] w fun e w' => ∃ u, e = .returned u ∧ Below w.heap.size w w' ∧ ∃ gw cs, u = .tuple #[.slice (some ⟨gw, 0, none⟩) 2 2, .int .i64 0] ∧ w.heap.size ≤ gw ∧ At w' gw 24 cs ∧ Pf cs [2, 10] := by
  refine (wts_any 0 11 0 0 0 2 c a [1, 2] w (by decide) (by decide) r (by decide) (by decide)).mono fun e w' h => ?_
  have hu0 : U 11 (oth 11 [1, 2] ((1 : Nat) : Int) 0) := ⟨-1, cg_of (by decide)⟩
  have hu1 : U 11 (oth 11 [1, 2] ((2 : Nat) : Int) 1) := ⟨1, cg_of (by decide)⟩
  obtain ⟨gw, ws, rfl, hb, hg, ⟨cs, hat, hp⟩, hl, hlt, hw⟩ := h.1 fun i x hx => by
    rcases get12 hx with ⟨rfl, rfl⟩ | ⟨rfl, rfl⟩
    · exact hu0
    · exact hu1
  have e : ws = [2, 10] := by
    obtain ⟨v0, k0, c0⟩ := hw 0 1 (by decide) rfl
    obtain ⟨v1, k1, c1⟩ := hw 1 2 (by decide) rfl
    have e0 : v0 = 2 := Cg.eq (hlt _ (List.mem_of_getElem? k0)) (by decide) (U.cancel (c0.trans (cg_of (by decide))) hu0)
    have e1 : v1 = 10 := Cg.eq (hlt _ (List.mem_of_getElem? k1)) (by decide) (U.cancel (c1.trans (cg_of (by decide))) hu1)
    match ws, hl with
    | [p, q], _ => simp at k0 k1; rw [k0, k1, e0, e1]
  subst e
  exact ⟨_, rfl, hb, gw, cs, rfl, hg, hat, hp⟩
theorem k_w2 (a : Option Addr) (c : Nat) (w : World) (r : RN w.heap.size w a 2 c [1, 1]) : Calls Try.prog 14 #[grp 0 11 0 0, .slice a 2 c, num 0] w fun e w' => e = .returned (.tuple #[.slice none 0 0, .int .i64 1]) ∧ Below w.heap.size w w' := wts_no 0 11 0 0 0 2 c a [1, 1] w (by decide) (by decide) r (by decide)
theorem k_w3 (w : World) : Calls Try.prog 14 #[grp 0 11 0 0, .slice none 0 0, num 0] w fun e w' => e = .returned (.tuple #[.slice none 0 0, .int .i64 1]) ∧ Below w.heap.size w w' := wts_no 0 11 0 0 0 0 0 none [] w (by decide) (by decide) (RS.nil w) (by decide)
theorem k_t1 (a b : Option Addr) (c d : Nat) (w : World) (r : RN w.heap.size w a 3 c [1, 2, 3]) (r2 : RN w.heap.size w b 3 d [6, 6, 1]) : Calls Try.prog 8 #[grp 0 11 0 0, .slice a 3 c, .slice b 3 d] w fun e w' => ∃ u, e = .returned u ∧ Below w.heap.size w w' ∧ ∃ gw cs, u = .tuple #[.slice (some ⟨gw, 0, none⟩) 3 3, .int .i64 0] ∧ w.heap.size ≤ gw ∧ At w' gw 24 cs ∧ Pf cs [1, 2, 3] := by
  refine (thr_any 0 11 0 0 3 c 3 d a b [1, 2, 3] [6, 6, 1] w (by decide) r r2 (by decide) (by decide)).mono fun e w' h => ?_
  have hD : AllD 11 [1, 2, 3] := by
    have u1 : U 11 1 := ⟨1, cg_of (by decide)⟩
    have u2 : U 11 2 := ⟨6, cg_of (by decide)⟩
    show List.Pairwise _ [((1 : Nat) : Int), ((2 : Nat) : Int), ((3 : Nat) : Int)]
    refine List.Pairwise.cons (fun b hb => ?_) (List.Pairwise.cons (fun b hb => ?_) (List.Pairwise.cons (fun b hb => by cases hb) List.Pairwise.nil))
    · rcases List.mem_cons.1 hb with rfl | hb
      · exact u1
      · rw [List.mem_singleton.1 hb]; exact u2
    · rw [List.mem_singleton.1 hb]; exact u1
  obtain ⟨gw, ps, rfl, hb, hg, ⟨cs, hat, hp⟩, hl, hlt, hv⟩ := h.1 hD
  have e : ps = [1, 2, 3] := uniqN (Q := 11) (xs := zs [1, 2, 3]) hl (by rw [hl]; exact Nat.le_of_eq (zs_len _).symm) hlt (by decide) hD fun x hx => by
    have hx' : x ∈ [((1 : Nat) : Int), ((2 : Nat) : Int), ((3 : Nat) : Int)] := hx
    rcases List.mem_cons.1 hx' with rfl | hx'
    · exact (hv 0 1 6 rfl rfl).trans (cg_of (by decide))
    rcases List.mem_cons.1 hx' with rfl | hx'
    · exact (hv 1 2 6 rfl rfl).trans (cg_of (by decide))
    · rw [List.mem_singleton.1 hx']; exact (hv 2 3 1 rfl rfl).trans (cg_of (by decide))
  subst e
  exact ⟨_, rfl, hb, gw, cs, rfl, hg, hat, hp⟩
theorem k_t2 (a b : Option Addr) (c d : Nat) (w : World) (r : RN w.heap.size w a 2 c [0, 2]) (r2 : RN w.heap.size w b 2 d [1, 1]) : Calls Try.prog 8 #[grp 0 4 0 0, .slice a 2 c, .slice b 2 d] w fun e w' => e = .returned (.tuple #[.slice none 0 0, .int .i64 7]) ∧ Below w.heap.size w w' := by
  refine (thr_any 0 4 0 0 2 c 2 d a b [0, 2] [1, 1] w (by decide) r r2 (by decide) (by decide)).mono fun e w' h => h.2 fun hD => ?_
  have hD' : List.Pairwise _ [((0 : Nat) : Int), ((2 : Nat) : Int)] := hD
  have hu := (List.pairwise_cons.1 hD').1 _ List.mem_cons_self
  have := U.gcd (Q := 4) (A := 2) (by decide) hu
  exact absurd this (by decide)
theorem bel_lt {w : World} {M : List (Nat × TypeId × Array Value)} {n0 : Nat} {w0 : World} {g : Nat} (H : Mem n0 w0 w M) (hg : w.heap.size ≤ g) : ∀ x ∈ M, x.1 ≠ g := fun x hx => by have := H.lt x hx; omega
set_option maxRecDepth 100000 in
set_option maxHeartbeats 800000 in
theorem alive10_any (w : World) : Calls Try.prog 7 #[] w fun e w' => e = .returned (.bool true) ∧ Below w.heap.size w w' := by
  refine sx_enter (args := []) Try.func7 rfl Try.ntmps7 (by rfl) fun a F HM => ?_
  repeat (first | refine ex_then ?_ | refine ex_block ?_ | refine wp_seq ?_ | refine wp_block ?_ | refine wp_skip ?_)
  refine wp_region_lit ?_
  refine lx_value (v := .bool false) F (wanted_none rfl _) rfl (by rfl) (o_assign rfl) fun a F => ?_
  refine lx_nil ?_
  repeat (first | refine ex_then ?_ | refine ex_block ?_ | refine wp_seq ?_ | refine wp_block ?_ | refine wp_skip ?_)
  refine wp_region_lit ?_
  refine lx_value (v := num 11) F (wanted_none rfl _) rfl (by rfl) (o_buildW 11 (by decide) rfl) fun a F => ?_
  refine lx_value (v := grp 0 11 0 0) F (wanted_none rfl _) rfl (by rfl) (o_buildGQ (F.ev rfl)) fun a F => ?_
  refine lx_new F HM (wanted_none rfl _) rfl (by rfl) (o_allocG) fun a w gg F HM => ?_
  refine lx_store F HM (wanted_none rfl _) rfl (k := 0) rfl (o_storeG (F.ev rfl) (F.ev rfl) (HM.get 0 rfl)) (M2 := [(gg, 26, gcs 0 11 0 0)]) (rfl) fun w HM => ?_
  refine lx_nil ?_
  repeat (first | refine ex_then ?_ | refine ex_block ?_ | refine wp_seq ?_ | refine wp_block ?_ | refine wp_skip ?_)
  refine sx_enterR (S := fun w' => Mem _ _ w' [(gg, 26, gcs 0 11 0 0)]) HM (fun _ h => h) (by kernel_rfl) fun w HM HBW => ?_
  clear HBW
  try simp only [List.append_eq, List.cons_append, List.nil_append]
  refine sx_batch [⟨0, 19, [], .val (grp 0 11 0 0), true⟩,
      ⟨1, 20, [], .row 22 (us [1, 2, 3]) 3, false⟩,
      ⟨3, 22, [0], .val (num 2), true⟩,
      ⟨8, 2, [], .cell 24 (ncs 0), false⟩,
      ⟨2, 21, [1, 2], .two 3 (qOf 3 [1, 2, 3]) (qOf_st 3 [1, 2, 3]), false⟩,
      ⟨4, 23, [0, 2, 4], .val (.tuple #[num 6, .int .i64 0]), false⟩,
      ⟨5, 18, [5], .val (.tuple #[num 6, .int .i64 0]), true⟩,
      ⟨6, 24, [6], .val (num 6), true⟩,
      ⟨7, 25, [6, 7], .val (.int .i64 0), true⟩] 2 _ F HM (fun _ h => h.subl (by first | exact List.Sublist.refl _ | (repeat (first | exact List.Sublist.refl _ | refine List.Sublist.cons_cons _ ?_ | refine List.Sublist.cons _ ?_)))) (by kernel_rfl) (by rfl) ?_ ?_ ?_ ?_ ?_ ?_ ?_
  · kernel_rfl
  · exact of_decide_eq_true (by kernel_rfl)
  · exact all_cons ⟨_, by rfl, by rfl⟩ (all_cons ⟨_, by rfl, by rfl⟩ (all_cons ⟨_, by rfl, by rfl⟩ (all_cons ⟨_, by rfl, by rfl⟩ (all_cons ⟨_, by rfl, by rfl⟩ (all_cons ⟨_, by rfl, by rfl⟩ (all_cons ⟨_, by rfl, by rfl⟩ (all_cons ⟨_, by rfl, by rfl⟩ (all_cons ⟨_, by rfl, by rfl⟩ (all_nil)))))))))
  · kernel_rfl
  · refine all_cons ?_ (all_cons ?_ (all_cons ?_ (all_cons ?_ (all_cons ?_ (all_cons ?_ (all_cons ?_ (all_cons ?_ (all_cons ?_ (all_nil)))))))))
    · exact coreS _ _ _ _ _ _ _ (by rfl) (by rfl) (wants_none) (fun ρ w kn hs => o_loadG (kn _ _ (F.old (by rfl) rfl)) (hs.get 0 rfl))
    · exact core_pureAs _ (by rfl)
    · exact coreS _ _ _ _ _ _ _ (by rfl) (by rfl) (wants_none) (fun ρ w kn hs => o_buildW 2 (by decide) (kn _ _ (known_const _)))
    · exact core_pureAs _ (by rfl)
    · exact core_pureAs _ (by rfl)
    · exact core_pureAs _ (by rfl)
    · exact coreS _ _ _ _ _ _ _ (by rfl) (by rfl) (wants_none) (fun ρ w kn hs => o_move (kn _ _ (known_core 5 23 _ _ (of_decide_eq_true (by rfl)) (by rfl) (by rfl) (by rfl))))
    · exact coreS _ _ _ _ _ _ _ (by rfl) (by rfl) (wants_none) (fun ρ w kn hs => o_extract (kn _ _ (known_core 6 18 _ _ (of_decide_eq_true (by rfl)) (by rfl) (by rfl) (by rfl))) rfl)
    · exact coreS _ _ _ _ _ _ _ (by rfl) (by rfl) (wants_none) (fun ρ w kn hs => o_extract (kn _ _ (known_core 6 18 _ _ (of_decide_eq_true (by rfl)) (by rfl) (by rfl) (by rfl))) rfl)
  · refine all_cons ?_ (all_cons ?_ (all_cons ?_ (all_cons ?_ (all_cons ?_ (all_cons ?_ (all_cons ?_ (all_cons ?_ (all_cons ?_ (all_nil)))))))))
    · exact core_stepAs _ (by rfl)
    · exact fun _ => core_row _ _ _ _ _ _ _ _ (by rfl) (by rfl) (fun ρ w kn => o_sliceU3 (kn _ _ (known_const _)) (kn _ _ (known_const _)) (kn _ _ (known_const _)))
    · exact core_stepAs _ (by rfl)
    · exact fun _ => core_new _ _ _ _ _ _ _ _ (by rfl) (by rfl) (Nat.le_refl _) (fun ρ w => o_allocN)
    · intro _
      refine core_callTwo _ 16 _ _ [.tmp 20] _ _ _ _ 3 (qOf 3 [1, 2, 3]) (qOf_st 3 [1, 2, 3]) (by rfl) Try.func16 (by kernel_rfl) (by rfl) (by rfl) (fun vs w hl hb hp => ?_)
      obtain ⟨g20, he20, hat20⟩ := row_of hl hp 1 20 22 (us [1, 2, 3]) 3 (of_decide_eq_true (by rfl)) (by rfl) (by rfl) (by rfl)
      exact ⟨[.slice (some ⟨g20, 0, none⟩) 3 3], (mev_cons (he20) mev_nil), ofU_two _ 3 3 [1, 2, 3] w hat20 rfl (by decide) (by decide) (by decide)⟩
    · intro _
      refine coreX_call _ 9 _ _ [.tmp 19, .tmp 21, .tmp 22] _ _ _ _ _ (by rfl) Try.func9 (by kernel_rfl) (by rfl) (by rfl) (fun vs w hl hb hp => ?_)
      obtain ⟨g21, c21, he21, r21⟩ := two_of hl hp 4 21 _ 3 (qOf 3 [1, 2, 3]) (qOf_st 3 [1, 2, 3]) (of_decide_eq_true (by rfl)) (by rfl) (by rfl) (by rfl)
      exact ⟨[grp 0 11 0 0, .slice (some ⟨g21, 0, none⟩) 3 c21, num 2], (mev_cons ((known_core 0 19 _ _ (of_decide_eq_true (by rfl)) (by rfl) (by rfl) (by rfl)) vs w hl hp) (mev_cons (he21) (mev_cons ((known_core 2 22 _ _ (of_decide_eq_true (by rfl)) (by rfl) (by rfl) (by rfl)) vs w hl hp) mev_nil))), k_at1 _ c21 w r21⟩
    · exact core_stepAs _ (by rfl)
    · exact core_stepAs _ (by rfl)
    · exact core_stepAs _ (by rfl)
  intro gs rs a w hgs hrs F HM HBW HR HO HT
  obtain ⟨gr, go1, co1, rfl⟩ := nl3 rs hrs
  obtain ⟨ga, rfl⟩ := nl1 gs hgs
  have hatr := HR _ List.mem_cons_self
  clear hrs hgs HR HBW HO
  obtain ⟨ro1, -⟩ := HT
  refine sx_store (i := 9) HM (by kernel_rfl) (by rfl) rfl rfl (k := 0) rfl (o_storeN (F.ev rfl) (F.ev rfl) (HM.get 0 rfl)) (M2 := [(ga, 24, ncs 6), (gg, 26, gcs 0 11 0 0)]) (rfl) (fun _ h => h.subl (by first | exact List.Sublist.refl _ | (repeat (first | exact List.Sublist.refl _ | refine List.Sublist.cons_cons _ ?_ | refine List.Sublist.cons _ ?_)))) fun w HM => ?_
  refine sx_assign (i := 10) (d := 3) (x := .tmp 25) (v := .int .i64 0) F ((HM.subl (by first | exact List.Sublist.refl _ | (repeat (first | exact List.Sublist.refl _ | refine List.Sublist.cons_cons _ ?_ | refine List.Sublist.cons _ ?_))))) (by kernel_rfl) (by rfl) (by rfl) (F.ev rfl) fun a F => ?_
  refine sx_done (by kernel_rfl) ?_ _
  repeat (first | refine ex_then ?_ | refine ex_block ?_ | refine wp_seq ?_ | refine wp_block ?_ | refine wp_skip ?_)
  refine wp_region_lit ?_
  refine lx_value (v := grp 0 11 0 0) F (wanted_none rfl _) rfl (by rfl) (o_loadG (F.ev rfl) (HM.get 1 rfl)) fun a F => ?_
  refine lx_value (v := num 5) F (wanted_none rfl _) rfl (by rfl) (o_buildW 5 (by decide) rfl) fun a F => ?_
  refine lx_call F (wanted_none rfl _) rfl (by rfl) (run_callF Try.func9 (by kernel_rfl) (by rfl) (.cons (F.ev rfl) (.cons rfl (.cons (F.ev rfl) .nil))) _) (k_at2 _) fun a w z F => ?_
  replace HM := HM.on z
  clear z
  refine lx_value (v := .tuple #[num 0, .int .i64 0]) F (wanted_none rfl _) rfl (by rfl) (o_move (F.ev rfl)) fun a F => ?_
  refine lx_value (v := num 0) F (wanted_none rfl _) rfl (by rfl) (o_extract (F.ev rfl) rfl) fun a F => ?_
  refine lx_value (v := .int .i64 0) F (wanted_none rfl _) rfl (by rfl) (o_extract (F.ev rfl) rfl) fun a F => ?_
  refine lx_new F HM (wanted_none rfl _) rfl (by rfl) (o_allocN) fun a w gb F HM => ?_
  refine lx_store F HM (wanted_none rfl _) rfl (k := 0) rfl (o_storeN (F.ev rfl) (F.ev rfl) (HM.get 0 rfl)) (M2 := [(gb, 24, ncs 0), (ga, 24, ncs 6), (gg, 26, gcs 0 11 0 0)]) (rfl) fun w HM => ?_
  refine lx_value (v := .int .i64 0) F (wanted_none rfl _) rfl (by rfl) (o_assign (F.ev rfl)) fun a F => ?_
  refine lx_nil ?_
  repeat (first | refine ex_then ?_ | refine ex_block ?_ | refine wp_seq ?_ | refine wp_block ?_ | refine wp_skip ?_)
  refine sx_enterR (S := fun w' => Mem _ _ w' [(gb, 24, ncs 0), (ga, 24, ncs 6), (gg, 26, gcs 0 11 0 0)]) HM (fun _ h => h) (by kernel_rfl) fun w HM HBW => ?_
  clear HBW
  try simp only [List.append_eq, List.cons_append, List.nil_append]
  refine sx_batch [⟨0, 33, [], .val (grp 0 11 0 0), true⟩,
      ⟨1, 34, [], .row 22 (us [1, 2]) 2, false⟩,
      ⟨3, 36, [0], .val (num 0), true⟩,
      ⟨2, 35, [1, 2], .two 2 (qOf 2 [1, 2]) (qOf_st 2 [1, 2]), false⟩] 6 _ F HM (fun _ h => h.subl (by first | exact List.Sublist.refl _ | (repeat (first | exact List.Sublist.refl _ | refine List.Sublist.cons_cons _ ?_ | refine List.Sublist.cons _ ?_)))) (by kernel_rfl) (by rfl) ?_ ?_ ?_ ?_ ?_ ?_ ?_
  · kernel_rfl
  · exact of_decide_eq_true (by kernel_rfl)
  · exact all_cons ⟨_, by rfl, by rfl⟩ (all_cons ⟨_, by rfl, by rfl⟩ (all_cons ⟨_, by rfl, by rfl⟩ (all_cons ⟨_, by rfl, by rfl⟩ (all_nil))))
  · kernel_rfl
  · refine all_cons ?_ (all_cons ?_ (all_cons ?_ (all_cons ?_ (all_nil))))
    · exact coreS _ _ _ _ _ _ _ (by rfl) (by rfl) (wants_none) (fun ρ w kn hs => o_loadG (kn _ _ (F.old (by rfl) rfl)) (hs.get 2 rfl))
    · exact core_pureAs _ (by rfl)
    · exact coreS _ _ _ _ _ _ _ (by rfl) (by rfl) (wants_none) (fun ρ w kn hs => o_build0)
    · exact core_pureAs _ (by rfl)
  · refine all_cons ?_ (all_cons ?_ (all_cons ?_ (all_cons ?_ (all_nil))))
    · exact core_stepAs _ (by rfl)
    · exact fun _ => core_row _ _ _ _ _ _ _ _ (by rfl) (by rfl) (fun ρ w kn => o_sliceU2 (kn _ _ (known_const _)) (kn _ _ (known_const _)))
    · exact core_stepAs _ (by rfl)
    · intro _
      refine core_callTwo _ 16 _ _ [.tmp 34] _ _ _ _ 2 (qOf 2 [1, 2]) (qOf_st 2 [1, 2]) (by rfl) Try.func16 (by kernel_rfl) (by rfl) (by rfl) (fun vs w hl hb hp => ?_)
      obtain ⟨g34, he34, hat34⟩ := row_of hl hp 1 34 22 (us [1, 2]) 2 (of_decide_eq_true (by rfl)) (by rfl) (by rfl) (by rfl)
      exact ⟨[.slice (some ⟨g34, 0, none⟩) 2 2], (mev_cons (he34) mev_nil), ofU_two _ 2 2 [1, 2] w hat34 rfl (by decide) (by decide) (by decide)⟩
  intro gs rs a w hgs hrs F HM HBW HR HO HT
  obtain ⟨gr, go2, co2, rfl⟩ := nl3 rs hrs
  obtain rfl := nl0 gs hgs
  have hatr := HR _ List.mem_cons_self
  clear hrs hgs HR HBW HO
  obtain ⟨ro2, -⟩ := HT
  refine sx_call1 (i := 4) F (by kernel_rfl) (by rfl) rfl rfl (by rfl) (run_callF Try.func14 (by kernel_rfl) (by rfl) (.cons (F.ev rfl) (.cons (F.ev rfl) (.cons (F.ev rfl) .nil))) _) (k_w1 _ co2 _ ro2) (fun _ _ h => (HM.on h.1)) fun a w u hu F => ?_
  obtain ⟨z, gw, cw, rfl, hg, hat, hpw⟩ := hu
  have hne := bel_lt HM hg
  have hge := Nat.le_trans (Nat.le_trans HM.le HM.bel.size) hg
  replace HM := (HM.on z).add hge (fun x hx => hne x hx) hat
  clear hne hge hg z hat
  refine sx_batch [⟨5, 32, [], .val (.tuple #[.slice (some ⟨gw, 0, none⟩) 2 2, .int .i64 0]), true⟩,
      ⟨6, 38, [0], .val (.slice (some ⟨gw, 0, none⟩) 2 2), true⟩,
      ⟨7, 39, [0, 1], .val (.int .i64 0), true⟩] 2 _ F HM (fun _ h => h.subl (by first | exact List.Sublist.refl _ | (repeat (first | exact List.Sublist.refl _ | refine List.Sublist.cons_cons _ ?_ | refine List.Sublist.cons _ ?_)))) (by kernel_rfl) (by rfl) ?_ ?_ ?_ ?_ ?_ ?_ ?_
  · kernel_rfl
  · exact of_decide_eq_true (by kernel_rfl)
  · exact all_cons ⟨_, by rfl, by rfl⟩ (all_cons ⟨_, by rfl, by rfl⟩ (all_cons ⟨_, by rfl, by rfl⟩ (all_nil)))
  · kernel_rfl
  · refine all_cons ?_ (all_cons ?_ (all_cons ?_ (all_nil)))
    · exact coreS _ _ _ _ _ _ _ (by rfl) (by rfl) (wants_none) (fun ρ w kn hs => o_move (kn _ _ (F.old (by rfl) rfl)))
    · exact coreS _ _ _ _ _ _ _ (by rfl) (by rfl) (wants_none) (fun ρ w kn hs => o_extract (kn _ _ (known_core 0 32 _ _ (of_decide_eq_true (by rfl)) (by rfl) (by rfl) (by rfl))) rfl)
    · exact coreS _ _ _ _ _ _ _ (by rfl) (by rfl) (wants_none) (fun ρ w kn hs => o_extract (kn _ _ (known_core 0 32 _ _ (of_decide_eq_true (by rfl)) (by rfl) (by rfl) (by rfl))) rfl)
  · refine all_cons ?_ (all_cons ?_ (all_cons ?_ (all_nil)))
    · exact core_stepAs _ (by rfl)
    · exact core_stepAs _ (by rfl)
    · exact core_stepAs _ (by rfl)
  intro gs rs a w hgs hrs F HM HBW HR HO HT
  obtain rfl := nl0 rs hrs
  obtain rfl := nl0 gs hgs
  clear hrs hgs HR HBW HO
  clear HT
  refine sx_assign (i := 8) (d := 6) (x := .tmp 38) (v := .slice (some ⟨gw, 0, none⟩) 2 2) F ((HM.subl (by first | exact List.Sublist.refl _ | (repeat (first | exact List.Sublist.refl _ | refine List.Sublist.cons_cons _ ?_ | refine List.Sublist.cons _ ?_))))) (by kernel_rfl) (by rfl) (by rfl) (F.ev rfl) fun a F => ?_
  refine sx_assign (i := 9) (d := 7) (x := .tmp 39) (v := .int .i64 0) F ((HM.subl (by first | exact List.Sublist.refl _ | (repeat (first | exact List.Sublist.refl _ | refine List.Sublist.cons_cons _ ?_ | refine List.Sublist.cons _ ?_))))) (by kernel_rfl) (by rfl) (by rfl) (F.ev rfl) fun a F => ?_
  refine sx_done (by kernel_rfl) ?_ _
  repeat (first | refine ex_then ?_ | refine ex_block ?_ | refine wp_seq ?_ | refine wp_block ?_ | refine wp_skip ?_)
  refine sx_enterR (S := fun w' => Mem _ _ w' [(gw, 24, cw), (gb, 24, ncs 0), (ga, 24, ncs 6), (gg, 26, gcs 0 11 0 0)]) HM (fun _ h => h) (by kernel_rfl) fun w HM HBW => ?_
  clear HBW
  try simp only [List.append_eq, List.cons_append, List.nil_append]
  refine sx_batch [⟨0, 41, [], .val (grp 0 11 0 0), true⟩,
      ⟨1, 42, [], .row 22 (us [1, 1]) 2, false⟩,
      ⟨3, 44, [0], .val (num 0), true⟩,
      ⟨2, 43, [1, 2], .two 2 (qOf 2 [1, 1]) (qOf_st 2 [1, 1]), false⟩] 6 _ F HM (fun _ h => h.subl (by first | exact List.Sublist.refl _ | (repeat (first | exact List.Sublist.refl _ | refine List.Sublist.cons_cons _ ?_ | refine List.Sublist.cons _ ?_)))) (by kernel_rfl) (by rfl) ?_ ?_ ?_ ?_ ?_ ?_ ?_
  · kernel_rfl
  · exact of_decide_eq_true (by kernel_rfl)
  · exact all_cons ⟨_, by rfl, by rfl⟩ (all_cons ⟨_, by rfl, by rfl⟩ (all_cons ⟨_, by rfl, by rfl⟩ (all_cons ⟨_, by rfl, by rfl⟩ (all_nil))))
  · kernel_rfl
  · refine all_cons ?_ (all_cons ?_ (all_cons ?_ (all_cons ?_ (all_nil))))
    · exact coreS _ _ _ _ _ _ _ (by rfl) (by rfl) (wants_none) (fun ρ w kn hs => o_loadG (kn _ _ (F.old (by rfl) rfl)) (hs.get 3 rfl))
    · exact core_pureAs _ (by rfl)
    · exact coreS _ _ _ _ _ _ _ (by rfl) (by rfl) (wants_none) (fun ρ w kn hs => o_build0)
    · exact core_pureAs _ (by rfl)
  · refine all_cons ?_ (all_cons ?_ (all_cons ?_ (all_cons ?_ (all_nil))))
    · exact core_stepAs _ (by rfl)
    · exact fun _ => core_row _ _ _ _ _ _ _ _ (by rfl) (by rfl) (fun ρ w kn => o_sliceU2 (kn _ _ (known_const _)) (kn _ _ (known_const _)))
    · exact core_stepAs _ (by rfl)
    · intro _
      refine core_callTwo _ 16 _ _ [.tmp 42] _ _ _ _ 2 (qOf 2 [1, 1]) (qOf_st 2 [1, 1]) (by rfl) Try.func16 (by kernel_rfl) (by rfl) (by rfl) (fun vs w hl hb hp => ?_)
      obtain ⟨g42, he42, hat42⟩ := row_of hl hp 1 42 22 (us [1, 1]) 2 (of_decide_eq_true (by rfl)) (by rfl) (by rfl) (by rfl)
      exact ⟨[.slice (some ⟨g42, 0, none⟩) 2 2], (mev_cons (he42) mev_nil), ofU_two _ 2 2 [1, 1] w hat42 rfl (by decide) (by decide) (by decide)⟩
  intro gs rs a w hgs hrs F HM HBW HR HO HT
  obtain ⟨gr, go3, co3, rfl⟩ := nl3 rs hrs
  obtain rfl := nl0 gs hgs
  have hatr := HR _ List.mem_cons_self
  clear hrs hgs HR HBW HO
  obtain ⟨ro3, -⟩ := HT
  refine sx_call1M (i := 4) F (by kernel_rfl) (by rfl) rfl rfl (by rfl) (run_callF Try.func14 (by kernel_rfl) (by rfl) (.cons (F.ev rfl) (.cons (F.ev rfl) (.cons (F.ev rfl) .nil))) _) (k_w2 _ co3 _ ro3) (fun _ z => HM.on z) fun a w z F => ?_
  replace HM := HM.on z
  clear z
  refine sx_batch [⟨5, 40, [], .val (.tuple #[.slice none 0 0, .int .i64 1]), true⟩,
      ⟨6, 46, [0], .val (.slice none 0 0), true⟩,
      ⟨7, 47, [0, 1], .val (.int .i64 1), true⟩] 2 _ F HM (fun _ h => h.subl (by first | exact List.Sublist.refl _ | (repeat (first | exact List.Sublist.refl _ | refine List.Sublist.cons_cons _ ?_ | refine List.Sublist.cons _ ?_)))) (by kernel_rfl) (by rfl) ?_ ?_ ?_ ?_ ?_ ?_ ?_
  · kernel_rfl
  · exact of_decide_eq_true (by kernel_rfl)
  · exact all_cons ⟨_, by rfl, by rfl⟩ (all_cons ⟨_, by rfl, by rfl⟩ (all_cons ⟨_, by rfl, by rfl⟩ (all_nil)))
  · kernel_rfl
  · refine all_cons ?_ (all_cons ?_ (all_cons ?_ (all_nil)))
    · exact coreS _ _ _ _ _ _ _ (by rfl) (by rfl) (wants_none) (fun ρ w kn hs => o_move (kn _ _ (F.old (by rfl) rfl)))
    · exact coreS _ _ _ _ _ _ _ (by rfl) (by rfl) (wants_none) (fun ρ w kn hs => o_extract (kn _ _ (known_core 0 40 _ _ (of_decide_eq_true (by rfl)) (by rfl) (by rfl) (by rfl))) rfl)
    · exact coreS _ _ _ _ _ _ _ (by rfl) (by rfl) (wants_none) (fun ρ w kn hs => o_extract (kn _ _ (known_core 0 40 _ _ (of_decide_eq_true (by rfl)) (by rfl) (by rfl) (by rfl))) rfl)
  · refine all_cons ?_ (all_cons ?_ (all_cons ?_ (all_nil)))
    · exact core_stepAs _ (by rfl)
    · exact core_stepAs _ (by rfl)
    · exact core_stepAs _ (by rfl)
  intro gs rs a w hgs hrs F HM HBW HR HO HT
  obtain rfl := nl0 rs hrs
  obtain rfl := nl0 gs hgs
  clear hrs hgs HR HBW HO
  clear HT
  refine sx_assign (i := 8) (d := 8) (x := .tmp 46) (v := .slice none 0 0) F ((HM.subl (by first | exact List.Sublist.refl _ | (repeat (first | exact List.Sublist.refl _ | refine List.Sublist.cons_cons _ ?_ | refine List.Sublist.cons _ ?_))))) (by kernel_rfl) (by rfl) (by rfl) (F.ev rfl) fun a F => ?_
  refine sx_assign (i := 9) (d := 9) (x := .tmp 47) (v := .int .i64 1) F ((HM.subl (by first | exact List.Sublist.refl _ | (repeat (first | exact List.Sublist.refl _ | refine List.Sublist.cons_cons _ ?_ | refine List.Sublist.cons _ ?_))))) (by kernel_rfl) (by rfl) (by rfl) (F.ev rfl) fun a F => ?_
  refine sx_done (by kernel_rfl) ?_ _
  repeat (first | refine ex_then ?_ | refine ex_block ?_ | refine wp_seq ?_ | refine wp_block ?_ | refine wp_skip ?_)
  refine wp_region_lit ?_
  refine lx_value (v := grp 0 11 0 0) F (wanted_none rfl _) rfl (by rfl) (o_loadG (F.ev rfl) (HM.get 3 rfl)) fun a F => ?_
  refine lx_value (v := num 0) F (wanted_none rfl _) rfl (by rfl) (o_build0) fun a F => ?_
  refine lx_call F (wanted_none rfl _) rfl (by rfl) (run_callF Try.func14 (by kernel_rfl) (by rfl) (.cons (F.ev rfl) (.cons rfl (.cons (F.ev rfl) .nil))) _) (k_w3 _) fun a w z F => ?_
  replace HM := HM.on z
  clear z
  refine lx_value (v := .tuple #[.slice none 0 0, .int .i64 1]) F (wanted_none rfl _) rfl (by rfl) (o_move (F.ev rfl)) fun a F => ?_
  refine lx_value (v := .slice none 0 0) F (wanted_none rfl _) rfl (by rfl) (o_extract (F.ev rfl) rfl) fun a F => ?_
  refine lx_value (v := .int .i64 1) F (wanted_none rfl _) rfl (by rfl) (o_extract (F.ev rfl) rfl) fun a F => ?_
  refine lx_value (v := .slice none 0 0) F (wanted_none rfl _) rfl (by rfl) (o_assign (F.ev rfl)) fun a F => ?_
  refine lx_value (v := .int .i64 1) F (wanted_none rfl _) rfl (by rfl) (o_assign (F.ev rfl)) fun a F => ?_
  refine lx_nil ?_
  repeat (first | refine ex_then ?_ | refine ex_block ?_ | refine wp_seq ?_ | refine wp_block ?_ | refine wp_skip ?_)
  refine sx_enterR (S := fun w' => Mem _ _ w' [(gw, 24, cw), (gb, 24, ncs 0), (ga, 24, ncs 6), (gg, 26, gcs 0 11 0 0)]) HM (fun _ h => h) (by kernel_rfl) fun w HM HBW => ?_
  clear HBW
  try simp only [List.append_eq, List.cons_append, List.nil_append]
  refine sx_batch [⟨0, 55, [], .val (grp 0 11 0 0), true⟩,
      ⟨1, 56, [], .row 22 (us [1, 2, 3]) 3, false⟩,
      ⟨3, 58, [], .row 22 (us [6, 6, 1]) 3, false⟩,
      ⟨2, 57, [0, 1], .two 3 (qOf 3 [1, 2, 3]) (qOf_st 3 [1, 2, 3]), false⟩,
      ⟨4, 59, [2, 3], .two 3 (qOf 3 [6, 6, 1]) (qOf_st 3 [6, 6, 1]), false⟩] 6 _ F HM (fun _ h => h.subl (by first | exact List.Sublist.refl _ | (repeat (first | exact List.Sublist.refl _ | refine List.Sublist.cons_cons _ ?_ | refine List.Sublist.cons _ ?_)))) (by kernel_rfl) (by rfl) ?_ ?_ ?_ ?_ ?_ ?_ ?_
  · kernel_rfl
  · exact of_decide_eq_true (by kernel_rfl)
  · exact all_cons ⟨_, by rfl, by rfl⟩ (all_cons ⟨_, by rfl, by rfl⟩ (all_cons ⟨_, by rfl, by rfl⟩ (all_cons ⟨_, by rfl, by rfl⟩ (all_cons ⟨_, by rfl, by rfl⟩ (all_nil)))))
  · kernel_rfl
  · refine all_cons ?_ (all_cons ?_ (all_cons ?_ (all_cons ?_ (all_cons ?_ (all_nil)))))
    · exact coreS _ _ _ _ _ _ _ (by rfl) (by rfl) (wants_none) (fun ρ w kn hs => o_loadG (kn _ _ (F.old (by rfl) rfl)) (hs.get 3 rfl))
    · exact core_pureAs _ (by rfl)
    · exact core_pureAs _ (by rfl)
    · exact core_pureAs _ (by rfl)
    · exact core_pureAs _ (by rfl)
  · refine all_cons ?_ (all_cons ?_ (all_cons ?_ (all_cons ?_ (all_cons ?_ (all_nil)))))
    · exact core_stepAs _ (by rfl)
    · exact fun _ => core_row _ _ _ _ _ _ _ _ (by rfl) (by rfl) (fun ρ w kn => o_sliceU3 (kn _ _ (known_const _)) (kn _ _ (known_const _)) (kn _ _ (known_const _)))
    · exact fun _ => core_row _ _ _ _ _ _ _ _ (by rfl) (by rfl) (fun ρ w kn => o_sliceU3 (kn _ _ (known_const _)) (kn _ _ (known_const _)) (kn _ _ (known_const _)))
    · intro _
      refine core_callTwo _ 16 _ _ [.tmp 56] _ _ _ _ 3 (qOf 3 [1, 2, 3]) (qOf_st 3 [1, 2, 3]) (by rfl) Try.func16 (by kernel_rfl) (by rfl) (by rfl) (fun vs w hl hb hp => ?_)
      obtain ⟨g56, he56, hat56⟩ := row_of hl hp 1 56 22 (us [1, 2, 3]) 3 (of_decide_eq_true (by rfl)) (by rfl) (by rfl) (by rfl)
      exact ⟨[.slice (some ⟨g56, 0, none⟩) 3 3], (mev_cons (he56) mev_nil), ofU_two _ 3 3 [1, 2, 3] w hat56 rfl (by decide) (by decide) (by decide)⟩
    · intro _
      refine core_callTwo _ 16 _ _ [.tmp 58] _ _ _ _ 3 (qOf 3 [6, 6, 1]) (qOf_st 3 [6, 6, 1]) (by rfl) Try.func16 (by kernel_rfl) (by rfl) (by rfl) (fun vs w hl hb hp => ?_)
      obtain ⟨g58, he58, hat58⟩ := row_of hl hp 2 58 22 (us [6, 6, 1]) 3 (of_decide_eq_true (by rfl)) (by rfl) (by rfl) (by rfl)
      exact ⟨[.slice (some ⟨g58, 0, none⟩) 3 3], (mev_cons (he58) mev_nil), ofU_two _ 3 3 [6, 6, 1] w hat58 rfl (by decide) (by decide) (by decide)⟩
  intro gs rs a w hgs hrs F HM HBW HR HO HT
  obtain ⟨gr, gq, go4, co4, go5, co5, rfl⟩ := nl6 rs hrs
  obtain rfl := nl0 gs hgs
  have hatr := HR _ List.mem_cons_self
  have hatq := HR _ (List.mem_cons_of_mem _ List.mem_cons_self)
  clear hrs hgs HR HBW HO
  obtain ⟨ro4, ro5, -⟩ := HT
  refine sx_call1 (i := 5) F (by kernel_rfl) (by rfl) rfl rfl (by rfl) (run_callF Try.func8 (by kernel_rfl) (by rfl) (.cons (F.ev rfl) (.cons (F.ev rfl) (.cons (F.ev rfl) .nil))) _) (k_t1 _ _ co4 co5 _ ro4 ro5) (fun _ _ h => (HM.on h.1)) fun a w u hu F => ?_
  obtain ⟨z, gp, cp, rfl, hg, hat, hpp⟩ := hu
  have hne := bel_lt HM hg
  have hge := Nat.le_trans (Nat.le_trans HM.le HM.bel.size) hg
  replace HM := (HM.on z).add hge (fun x hx => hne x hx) hat
  clear hne hge hg z hat
  refine sx_batch [⟨6, 54, [], .val (.tuple #[.slice (some ⟨gp, 0, none⟩) 3 3, .int .i64 0]), true⟩,
      ⟨7, 61, [0], .val (.slice (some ⟨gp, 0, none⟩) 3 3), true⟩,
      ⟨8, 62, [0, 1], .val (.int .i64 0), true⟩] 2 _ F HM (fun _ h => h.subl (by first | exact List.Sublist.refl _ | (repeat (first | exact List.Sublist.refl _ | refine List.Sublist.cons_cons _ ?_ | refine List.Sublist.cons _ ?_)))) (by kernel_rfl) (by rfl) ?_ ?_ ?_ ?_ ?_ ?_ ?_
  · kernel_rfl
  · exact of_decide_eq_true (by kernel_rfl)
  · exact all_cons ⟨_, by rfl, by rfl⟩ (all_cons ⟨_, by rfl, by rfl⟩ (all_cons ⟨_, by rfl, by rfl⟩ (all_nil)))
  · kernel_rfl
  · refine all_cons ?_ (all_cons ?_ (all_cons ?_ (all_nil)))
    · exact coreS _ _ _ _ _ _ _ (by rfl) (by rfl) (wants_none) (fun ρ w kn hs => o_move (kn _ _ (F.old (by rfl) rfl)))
    · exact coreS _ _ _ _ _ _ _ (by rfl) (by rfl) (wants_none) (fun ρ w kn hs => o_extract (kn _ _ (known_core 0 54 _ _ (of_decide_eq_true (by rfl)) (by rfl) (by rfl) (by rfl))) rfl)
    · exact coreS _ _ _ _ _ _ _ (by rfl) (by rfl) (wants_none) (fun ρ w kn hs => o_extract (kn _ _ (known_core 0 54 _ _ (of_decide_eq_true (by rfl)) (by rfl) (by rfl) (by rfl))) rfl)
  · refine all_cons ?_ (all_cons ?_ (all_cons ?_ (all_nil)))
    · exact core_stepAs _ (by rfl)
    · exact core_stepAs _ (by rfl)
    · exact core_stepAs _ (by rfl)
  intro gs rs a w hgs hrs F HM HBW HR HO HT
  obtain rfl := nl0 rs hrs
  obtain rfl := nl0 gs hgs
  clear hrs hgs HR HBW HO
  clear HT
  refine sx_assign (i := 9) (d := 12) (x := .tmp 61) (v := .slice (some ⟨gp, 0, none⟩) 3 3) F ((HM.subl (by first | exact List.Sublist.refl _ | (repeat (first | exact List.Sublist.refl _ | refine List.Sublist.cons_cons _ ?_ | refine List.Sublist.cons _ ?_))))) (by kernel_rfl) (by rfl) (by rfl) (F.ev rfl) fun a F => ?_
  refine sx_assign (i := 10) (d := 13) (x := .tmp 62) (v := .int .i64 0) F ((HM.subl (by first | exact List.Sublist.refl _ | (repeat (first | exact List.Sublist.refl _ | refine List.Sublist.cons_cons _ ?_ | refine List.Sublist.cons _ ?_))))) (by kernel_rfl) (by rfl) (by rfl) (F.ev rfl) fun a F => ?_
  refine sx_done (by kernel_rfl) ?_ _
  repeat (first | refine ex_then ?_ | refine ex_block ?_ | refine wp_seq ?_ | refine wp_block ?_ | refine wp_skip ?_)
  refine wp_region_lit ?_
  refine lx_value (v := num 4) F (wanted_none rfl _) rfl (by rfl) (o_buildW 4 (by decide) rfl) fun a F => ?_
  refine lx_value (v := grp 0 4 0 0) F (wanted_none rfl _) rfl (by rfl) (o_buildGQ (F.ev rfl)) fun a F => ?_
  refine lx_rowB F HM (wanted_none rfl _) rfl (by rfl) (o_sliceU2 rfl rfl) fun a w gx F HM z => ?_
  try replace r1 := RN.call r1 z z.size
  clear z
  refine lx_callE F (wanted_none rfl _) rfl (by rfl) (run_callF Try.func16 (by kernel_rfl) (by rfl) (.cons (F.ev rfl) .nil) _) (ofU_any gx 2 2 [0, 2] _ (HM.get 0 rfl) rfl (by decide) (by decide)) fun a w u hu F => ?_
  obtain ⟨z, a1, c1, rfl, r1, -⟩ := hu
  replace HM := HM.on z
  clear z
  refine lx_rowB F HM (wanted_none rfl _) rfl (by rfl) (o_sliceU2 rfl rfl) fun a w gy F HM z => ?_
  try replace r1 := RN.call r1 z z.size
  clear z
  refine lx_callE F (wanted_none rfl _) rfl (by rfl) (run_callF Try.func16 (by kernel_rfl) (by rfl) (.cons (F.ev rfl) .nil) _) (ofU_any gy 2 2 [1, 1] _ (HM.get 0 rfl) rfl (by decide) (by decide)) fun a w u hu F => ?_
  obtain ⟨z, a2, c2, rfl, r2, -⟩ := hu
  replace HM := HM.on z
  replace r1 := RN.call r1 z z.size
  clear z
  refine lx_call F (wanted_none rfl _) rfl (by rfl) (run_callF Try.func8 (by kernel_rfl) (by rfl) (.cons (F.ev rfl) (.cons (F.ev rfl) (.cons (F.ev rfl) .nil))) _) (k_t2 a1 a2 c1 c2 _ r1 r2) fun a w z F => ?_
  replace HM := HM.on z
  clear z
  refine lx_value (v := .tuple #[.slice none 0 0, .int .i64 7]) F (wanted_none rfl _) rfl (by rfl) (o_move (F.ev rfl)) fun a F => ?_
  refine lx_value (v := .slice none 0 0) F (wanted_none rfl _) rfl (by rfl) (o_extract (F.ev rfl) rfl) fun a F => ?_
  refine lx_value (v := .int .i64 7) F (wanted_none rfl _) rfl (by rfl) (o_extract (F.ev rfl) rfl) fun a F => ?_
  refine lx_value (v := .slice none 0 0) F (wanted_none rfl _) rfl (by rfl) (o_assign (F.ev rfl)) fun a F => ?_
  refine lx_value (v := .int .i64 7) F (wanted_none rfl _) rfl (by rfl) (o_assign (F.ev rfl)) fun a F => ?_
  refine lx_nil ?_
  replace HM := HM.erase 1 (M2 := [(gy, 22, (us [1, 1])), (gp, 24, cp), (gw, 24, cw), (gb, 24, ncs 0), (ga, 24, ncs 6), (gg, 26, gcs 0 11 0 0)]) rfl
  replace HM := HM.erase 0 (M2 := [(gp, 24, cp), (gw, 24, cw), (gb, 24, ncs 0), (ga, 24, ncs 6), (gg, 26, gcs 0 11 0 0)]) rfl
  repeat (first | refine ex_then ?_ | refine ex_block ?_ | refine wp_seq ?_ | refine wp_block ?_ | refine wp_skip ?_)
  refine wp_region_lit ?_
  refine lx_value (v := .int .i64 0) F (wanted_none rfl _) rfl (by rfl) (o_move (F.ev rfl)) fun a F => ?_
  refine lx_value (v := .bool true) F (wanted_none rfl _) rfl (by rfl) (o_bin (u := .int .i64 0) (v := .int .i64 0) (fun ρ hx hy => by simp only [execOp, hx, hy]; simp [go_sem]) (F.ev rfl) rfl) fun a F => ?_
  refine lx_value (v := .bool true) F (wanted_none rfl _) rfl (by rfl) (o_move (F.ev rfl)) fun a F => ?_
  refine lx_value (v := num 6) F (F.want (t := 75) (c := true) rfl rfl rfl (by rfl) rfl) rfl (by rfl) (o_loadN (F.ev rfl) (HM.get 3 rfl)) fun a F => ?_
  refine lx_value (v := num 6) F (F.want (t := 75) (c := true) rfl rfl rfl (by rfl) rfl) rfl (by rfl) (o_buildW 6 (by decide) rfl) fun a F => ?_
  refine lx_value (v := .bool true) F (F.want (t := 75) (c := true) rfl rfl rfl (by rfl) rfl) rfl (by rfl) (o_eqlS (F.ev rfl) (F.ev rfl)) fun a F => ?_
  refine lx_value (v := .bool true) F (wanted_none rfl _) rfl (by rfl) (o_pick (b := true) (r := .bool true) (F.ev rfl) (F.ev rfl) rfl rfl) fun a F => ?_
  refine lx_value (v := .bool true) F (wanted_none rfl _) rfl (by rfl) (o_move (F.ev rfl)) fun a F => ?_
  refine lx_value (v := .int .i64 0) F (F.want (t := 80) (c := true) rfl rfl rfl (by rfl) rfl) rfl (by rfl) (o_move (F.ev rfl)) fun a F => ?_
  refine lx_value (v := .bool true) F (F.want (t := 80) (c := true) rfl rfl rfl (by rfl) rfl) rfl (by rfl) (o_bin (u := .int .i64 0) (v := .int .i64 0) (fun ρ hx hy => by simp only [execOp, hx, hy]; simp [go_sem]) (F.ev rfl) rfl) fun a F => ?_
  refine lx_value (v := .bool true) F (wanted_none rfl _) rfl (by rfl) (o_pick (b := true) (r := .bool true) (F.ev rfl) (F.ev rfl) rfl rfl) fun a F => ?_
  refine lx_value (v := .bool true) F (wanted_none rfl _) rfl (by rfl) (o_move (F.ev rfl)) fun a F => ?_
  refine lx_value (v := num 0) F (F.want (t := 84) (c := true) rfl rfl rfl (by rfl) rfl) rfl (by rfl) (o_loadN (F.ev rfl) (HM.get 2 rfl)) fun a F => ?_
  refine lx_value (v := num 0) F (F.want (t := 84) (c := true) rfl rfl rfl (by rfl) rfl) rfl (by rfl) (o_build0) fun a F => ?_
  refine lx_value (v := .bool true) F (F.want (t := 84) (c := true) rfl rfl rfl (by rfl) rfl) rfl (by rfl) (o_eqlS (F.ev rfl) (F.ev rfl)) fun a F => ?_
  refine lx_value (v := .bool true) F (wanted_none rfl _) rfl (by rfl) (o_pick (b := true) (r := .bool true) (F.ev rfl) (F.ev rfl) rfl rfl) fun a F => ?_
  refine lx_value (v := .bool true) F (wanted_none rfl _) rfl (by rfl) (o_move (F.ev rfl)) fun a F => ?_
  refine lx_value (v := .int .i64 0) F (F.want (t := 89) (c := true) rfl rfl rfl (by rfl) rfl) rfl (by rfl) (o_move (F.ev rfl)) fun a F => ?_
  refine lx_value (v := .bool true) F (F.want (t := 89) (c := true) rfl rfl rfl (by rfl) rfl) rfl (by rfl) (o_bin (u := .int .i64 0) (v := .int .i64 0) (fun ρ hx hy => by simp only [execOp, hx, hy]; simp [go_sem]) (F.ev rfl) rfl) fun a F => ?_
  refine lx_value (v := .bool true) F (wanted_none rfl _) rfl (by rfl) (o_pick (b := true) (r := .bool true) (F.ev rfl) (F.ev rfl) rfl rfl) fun a F => ?_
  refine lx_value (v := .bool true) F (wanted_none rfl _) rfl (by rfl) (o_move (F.ev rfl)) fun a F => ?_
  refine lx_value (v := .slice (some ⟨gw, 0, none⟩) 2 2) F (F.want (t := 93) (c := true) rfl rfl rfl (by rfl) rfl) rfl (by rfl) (o_move (F.ev rfl)) fun a F => ?_
  refine lx_rowM F HM (F.want (t := 93) (c := true) rfl rfl rfl (by rfl) rfl) rfl (by rfl) (o_sliceU2 rfl rfl) fun a w gx F HM => ?_
  refine lx_callE F (F.want (t := 93) (c := true) rfl rfl rfl (by rfl) rfl) rfl (by rfl) (run_callF Try.func16 (by kernel_rfl) (by rfl) (.cons (F.ev rfl) .nil) _) (ofU_any gx 2 2 [2, 10] _ (HM.get 0 rfl) rfl (by decide) (by decide)) fun a w u hu F => ?_
  obtain ⟨z, a3, c3, rfl, r3, -⟩ := hu
  replace HM := HM.on z
  clear z
  refine lx_call F (F.want (t := 93) (c := true) rfl rfl rfl (by rfl) rfl) rfl (by rfl) (run_callF Try.func10 (by kernel_rfl) (by rfl) (.cons (F.ev rfl) (.cons (F.ev rfl) .nil)) _) (same_any 2 2 2 c3 _ a3 [2, 10] [2, 10] _ (hpw.rsA (HM.get 2 rfl) rfl (by decide) (by decide) (by decide)) r3) fun a w z F => ?_
  replace HM := HM.on z
  clear z
  refine lx_value (v := .bool true) F (wanted_none rfl _) rfl (by rfl) (o_pick (b := true) (r := .bool true) (F.ev rfl) (F.ev rfl) rfl rfl) fun a F => ?_
  refine lx_value (v := .bool true) F (wanted_none rfl _) rfl (by rfl) (o_move (F.ev rfl)) fun a F => ?_
  refine lx_value (v := .int .i64 1) F (F.want (t := 99) (c := true) rfl rfl rfl (by rfl) rfl) rfl (by rfl) (o_move (F.ev rfl)) fun a F => ?_
  refine lx_value (v := .bool true) F (F.want (t := 99) (c := true) rfl rfl rfl (by rfl) rfl) rfl (by rfl) (o_bin (u := .int .i64 1) (v := .int .i64 1) (fun ρ hx hy => by simp only [execOp, hx, hy]; simp [go_sem]) (F.ev rfl) rfl) fun a F => ?_
  refine lx_value (v := .bool true) F (wanted_none rfl _) rfl (by rfl) (o_pick (b := true) (r := .bool true) (F.ev rfl) (F.ev rfl) rfl rfl) fun a F => ?_
  refine lx_value (v := .bool true) F (wanted_none rfl _) rfl (by rfl) (o_move (F.ev rfl)) fun a F => ?_
  refine lx_value (v := .int .i64 1) F (F.want (t := 103) (c := true) rfl rfl rfl (by rfl) rfl) rfl (by rfl) (o_move (F.ev rfl)) fun a F => ?_
  refine lx_value (v := .bool true) F (F.want (t := 103) (c := true) rfl rfl rfl (by rfl) rfl) rfl (by rfl) (o_bin (u := .int .i64 1) (v := .int .i64 1) (fun ρ hx hy => by simp only [execOp, hx, hy]; simp [go_sem]) (F.ev rfl) rfl) fun a F => ?_
  refine lx_value (v := .bool true) F (wanted_none rfl _) rfl (by rfl) (o_pick (b := true) (r := .bool true) (F.ev rfl) (F.ev rfl) rfl rfl) fun a F => ?_
  refine lx_value (v := .bool true) F (wanted_none rfl _) rfl (by rfl) (o_move (F.ev rfl)) fun a F => ?_
  refine lx_value (v := .int .i64 0) F (F.want (t := 107) (c := true) rfl rfl rfl (by rfl) rfl) rfl (by rfl) (o_move (F.ev rfl)) fun a F => ?_
  refine lx_value (v := .bool true) F (F.want (t := 107) (c := true) rfl rfl rfl (by rfl) rfl) rfl (by rfl) (o_bin (u := .int .i64 0) (v := .int .i64 0) (fun ρ hx hy => by simp only [execOp, hx, hy]; simp [go_sem]) (F.ev rfl) rfl) fun a F => ?_
  refine lx_value (v := .bool true) F (wanted_none rfl _) rfl (by rfl) (o_pick (b := true) (r := .bool true) (F.ev rfl) (F.ev rfl) rfl rfl) fun a F => ?_
  refine lx_value (v := .bool true) F (wanted_none rfl _) rfl (by rfl) (o_move (F.ev rfl)) fun a F => ?_
  refine lx_value (v := .slice (some ⟨gp, 0, none⟩) 3 3) F (F.want (t := 111) (c := true) rfl rfl rfl (by rfl) rfl) rfl (by rfl) (o_move (F.ev rfl)) fun a F => ?_
  refine lx_rowM F HM (F.want (t := 111) (c := true) rfl rfl rfl (by rfl) rfl) rfl (by rfl) (o_sliceU3 rfl rfl rfl) fun a w gy F HM => ?_
  refine lx_callE F (F.want (t := 111) (c := true) rfl rfl rfl (by rfl) rfl) rfl (by rfl) (run_callF Try.func16 (by kernel_rfl) (by rfl) (.cons (F.ev rfl) .nil) _) (ofU_any gy 3 3 [1, 2, 3] _ (HM.get 0 rfl) rfl (by decide) (by decide)) fun a w u hu F => ?_
  obtain ⟨z, a4, c4, rfl, r4, -⟩ := hu
  replace HM := HM.on z
  clear z
  refine lx_call F (F.want (t := 111) (c := true) rfl rfl rfl (by rfl) rfl) rfl (by rfl) (run_callF Try.func10 (by kernel_rfl) (by rfl) (.cons (F.ev rfl) (.cons (F.ev rfl) .nil)) _) (same_any 3 3 3 c4 _ a4 [1, 2, 3] [1, 2, 3] _ (hpp.rsA (HM.get 2 rfl) rfl (by decide) (by decide) (by decide)) r4) fun a w z F => ?_
  replace HM := HM.on z
  clear z
  refine lx_value (v := .bool true) F (wanted_none rfl _) rfl (by rfl) (o_pick (b := true) (r := .bool true) (F.ev rfl) (F.ev rfl) rfl rfl) fun a F => ?_
  refine lx_value (v := .bool true) F (wanted_none rfl _) rfl (by rfl) (o_move (F.ev rfl)) fun a F => ?_
  refine lx_value (v := .int .i64 7) F (F.want (t := 117) (c := true) rfl rfl rfl (by rfl) rfl) rfl (by rfl) (o_move (F.ev rfl)) fun a F => ?_
  refine lx_value (v := .bool true) F (F.want (t := 117) (c := true) rfl rfl rfl (by rfl) rfl) rfl (by rfl) (o_bin (u := .int .i64 7) (v := .int .i64 7) (fun ρ hx hy => by simp only [execOp, hx, hy]; simp [go_sem]) (F.ev rfl) rfl) fun a F => ?_
  refine lx_value (v := .bool true) F (wanted_none rfl _) rfl (by rfl) (o_pick (b := true) (r := .bool true) (F.ev rfl) (F.ev rfl) rfl rfl) fun a F => ?_
  refine lx_value (v := .bool true) F (wanted_none rfl _) rfl (by rfl) (o_assign (F.ev rfl)) fun a F => ?_
  refine lx_nil ?_
  repeat (first | refine ex_then ?_ | refine ex_block ?_ | refine wp_seq ?_ | refine wp_block ?_ | refine wp_skip ?_)
  refine wp_ret ?_
  repeat (first | refine ex_thenR ?_ | refine ex_blockR ?_)
  exact sx_ret F HM (res_tmp F rfl (s := 0) rfl)

end Go.Proofs.Ytfjploahkodekaa
