/-
  The walk of DividesWide: it answers true, and nothing that was there is changed.
-/
import Derived.Test.YtgfgicpffajgdaaAlive3
namespace Go.Proofs.Ytgfgicpffajgdaa
open Go.RowKit
attribute [local go_sem ↓] Go.wp_at_zero Go.wp_at_succ

theorem index2_run (dst : Option Tmp) (ty : TypeId) (pos : String) (after : Array Edge) (gd : Option (Nat × Bool)) (x : Operand) (ρ : Operand → Value) (w : World) (g : Nat) (hx : ρ x = .pointer (some ⟨g, 0, none⟩)) (hc : ρ (.const (.int .i64 2)) = .int .i64 2) :
    (execOp ρ ⟨dst, .indexAddr 36 x (.const (.int .i64 2)), ty, pos, after, gd⟩).run Try.prog w = .ok (.value (.pointer (some ⟨g, 8, none⟩))) w := by
  simp [execOp, hx, hc, go_sem]
theorem load8_run (x : Operand) (dst : Option Tmp) (ty : TypeId) (pos : String) (after : Array Edge) (gd : Option (Nat × Bool)) (ρ : Operand → Value) (w : World) (g : Nat) (a0 a1 a2 a3 b0 b1 b2 b3 u0 u1 u2 u3 : Value)
    (hx : ρ x = .pointer (some ⟨g, 8, none⟩)) (h : At w g 36 #[a0, a1, a2, a3, b0, b1, b2, b3, u0, u1, u2, u3]) :
    (execOp ρ ⟨dst, .load 24 x, ty, pos, after, gd⟩).run Try.prog w = .ok (.value (.agg #[u0, u1, u2, u3])) w := by
  have c0 : w.cell? ⟨g, 8, none⟩ = some u0 := h.cell 8
  have c1 : w.cell? ⟨g, 9, none⟩ = some u1 := h.cell 9
  have c2 : w.cell? ⟨g, 10, none⟩ = some u2 := h.cell 10
  have c3 : w.cell? ⟨g, 11, none⟩ = some u3 := h.cell 11
  simp [execOp, hx, go_sem, c0, c1, c2, c3]

set_option maxRecDepth 100000 in
set_option maxHeartbeats 8000000 in
theorem widelaw_zero (Y V Z : Nat)
    (O : ∀ w, Calls Try.prog 36 #[.int .u64 0] w fun e w' => e = .returned (num Z) ∧ Below w.heap.size w w')
    (w : World) : Calls Try.prog 7 #[.agg #[.int .u64 (wd Z 0 : Nat), .int .u64 (wd Z 1 : Nat), .int .u64 (wd Z 2 : Nat), .int .u64 (wd Z 3 : Nat), .int .u64 (wd Y 0 : Nat), .int .u64 (wd Y 1 : Nat), .int .u64 (wd Y 2 : Nat), .int .u64 (wd Y 3 : Nat), .int .u64 (wd V 0 : Nat), .int .u64 (wd V 1 : Nat), .int .u64 (wd V 2 : Nat), .int .u64 (wd V 3 : Nat)]] w fun e w' => e = .returned (.bool true) ∧ Below w.heap.size w w' := by
  have HO := Lib.hid O
  clear O
  go_enter Try.func7, Try.ntmps7
  go_wp2_with fail
  have BW := Lib.hid (Below.refl w.heap.size w)
  have Narr : At ((w.alloc (.cells #[.int .u64 (wd Z 0 : Nat), .int .u64 (wd Z 1 : Nat), .int .u64 (wd Z 2 : Nat), .int .u64 (wd Z 3 : Nat), .int .u64 (wd Y 0 : Nat), .int .u64 (wd Y 1 : Nat), .int .u64 (wd Y 2 : Nat), .int .u64 (wd Y 3 : Nat), .int .u64 (wd V 0 : Nat), .int .u64 (wd V 1 : Nat), .int .u64 (wd V 2 : Nat), .int .u64 (wd V 3 : Nat)] 36)).alloc (.cells #[.int .u64 (wd Z 0 : Nat), .int .u64 (wd Z 1 : Nat), .int .u64 (wd Z 2 : Nat), .int .u64 (wd Z 3 : Nat)] 24)) (w.heap.size) 36 #[.int .u64 (wd Z 0 : Nat), .int .u64 (wd Z 1 : Nat), .int .u64 (wd Z 2 : Nat), .int .u64 (wd Z 3 : Nat), .int .u64 (wd Y 0 : Nat), .int .u64 (wd Y 1 : Nat), .int .u64 (wd Y 2 : Nat), .int .u64 (wd Y 3 : Nat), .int .u64 (wd V 0 : Nat), .int .u64 (wd V 1 : Nat), .int .u64 (wd V 2 : Nat), .int .u64 (wd V 3 : Nat)] := (At.at_ _ _ _ _ (by simp)).alloc _
  have Nm : At ((w.alloc (.cells #[.int .u64 (wd Z 0 : Nat), .int .u64 (wd Z 1 : Nat), .int .u64 (wd Z 2 : Nat), .int .u64 (wd Z 3 : Nat), .int .u64 (wd Y 0 : Nat), .int .u64 (wd Y 1 : Nat), .int .u64 (wd Y 2 : Nat), .int .u64 (wd Y 3 : Nat), .int .u64 (wd V 0 : Nat), .int .u64 (wd V 1 : Nat), .int .u64 (wd V 2 : Nat), .int .u64 (wd V 3 : Nat)] 36)).alloc (.cells #[.int .u64 (wd Z 0 : Nat), .int .u64 (wd Z 1 : Nat), .int .u64 (wd Z 2 : Nat), .int .u64 (wd Z 3 : Nat)] 24)) (w.heap.size + 1) 24 #[.int .u64 (wd Z 0 : Nat), .int .u64 (wd Z 1 : Nat), .int .u64 (wd Z 2 : Nat), .int .u64 (wd Z 3 : Nat)] := At.at_ _ _ _ _ (by simp)
  have NB : Below w.heap.size w ((w.alloc (.cells #[.int .u64 (wd Z 0 : Nat), .int .u64 (wd Z 1 : Nat), .int .u64 (wd Z 2 : Nat), .int .u64 (wd Z 3 : Nat), .int .u64 (wd Y 0 : Nat), .int .u64 (wd Y 1 : Nat), .int .u64 (wd Y 2 : Nat), .int .u64 (wd Y 3 : Nat), .int .u64 (wd V 0 : Nat), .int .u64 (wd V 1 : Nat), .int .u64 (wd V 2 : Nat), .int .u64 (wd V 3 : Nat)] 36)).alloc (.cells #[.int .u64 (wd Z 0 : Nat), .int .u64 (wd Z 1 : Nat), .int .u64 (wd Z 2 : Nat), .int .u64 (wd Z 3 : Nat)] 24)) := gr_alloc (gr_alloc BW.out _) _
  clear BW 
  generalize ((w.alloc (.cells #[.int .u64 (wd Z 0 : Nat), .int .u64 (wd Z 1 : Nat), .int .u64 (wd Z 2 : Nat), .int .u64 (wd Z 3 : Nat), .int .u64 (wd Y 0 : Nat), .int .u64 (wd Y 1 : Nat), .int .u64 (wd Y 2 : Nat), .int .u64 (wd Y 3 : Nat), .int .u64 (wd V 0 : Nat), .int .u64 (wd V 1 : Nat), .int .u64 (wd V 2 : Nat), .int .u64 (wd V 3 : Nat)] 36)).alloc (.cells #[.int .u64 (wd Z 0 : Nat), .int .u64 (wd Z 1 : Nat), .int .u64 (wd Z 2 : Nat), .int .u64 (wd Z 3 : Nat)] 24)) = W1 at *
  generalize w.heap.size + 1 = gm at *
  obtain ⟨garr, hg0⟩ : ∃ g, g = w.heap.size := ⟨_, rfl⟩
  rw [← hg0] at Narr ⊢
  clear hg0
  have Farr := Lib.hid Narr
  have Fm := Lib.hid Nm
  have BW := Lib.hid NB
  clear NB Narr Nm
  try simp only [List.append_eq, List.cons_append, List.nil_append]
  refine wp_region_noPanic ?_
  refine wp_region_held_drew (S := fun w' => At w' gm 24 #[.int .u64 (wd Z 0 : Nat), .int .u64 (wd Z 1 : Nat), .int .u64 (wd Z 2 : Nat), .int .u64 (wd Z 3 : Nat)]) (by kernel_rfl) (Fm.out.drew) (fun _ => ?_)
  refine wpAnyH_cores (fuel := 0) (⟨0, 18, [], Kind.val (.agg #[.int .u64 (wd Z 0 : Nat), .int .u64 (wd Z 1 : Nat), .int .u64 (wd Z 2 : Nat), .int .u64 (wd Z 3 : Nat)]), true⟩ :: ⟨1, 19, [0], Kind.val (.agg #[.int .u64 (wd Z 0 : Nat), .int .u64 (wd Z 1 : Nat), .int .u64 (wd Z 2 : Nat), .int .u64 (wd Z 3 : Nat)]), false⟩ :: ⟨2, 20, [0, 1], Kind.val (.bool true), true⟩ :: []) _ _ W1 _ ?_ ?_ ?_ ?_ ?_ ?_ ?_ ?_ ?_ ?_ ?_
  · rfl
  · kernel_rfl
  · exact of_decide_eq_true (by kernel_rfl)
  · exact all_cons ⟨_, by rfl, by rfl⟩ (all_cons ⟨_, by rfl, by rfl⟩ (all_cons ⟨_, by rfl, by rfl⟩ (all_nil)))
  · exact fun _ hb => Fm.out.on hb
  · exact (Below.refl _ _).drew
  · kernel_rfl
  · exact fun _ _ _ _ _ h => h
  · refine all_cons ?_ (all_cons ?_ (all_cons ?_ (all_nil)))
    · exact coreG_loadP _ _ _ _ _ _ gm _ _ _ _ (by rfl) (by rfl) (wants_none) (known_old 3 _ (of_decide_eq_true (by rfl)) (by rfl)) (fun _ hs => hs)
    · exact core_pureAs _ (by rfl)
    · exact coreG_bin _ _ _ _ _ _ _ _ _ _ _ _ _ (by rfl) (by rfl) (wants_none) (known_core 0 18 _ _ (of_decide_eq_true (by rfl)) (by rfl) (by rfl) (by rfl)) (known_core 1 19 _ _ (of_decide_eq_true (by rfl)) (by rfl) (by rfl) (by rfl)) (eql_run true _ _ _ _ _ _ _ _ _ _ _ _ _ _ _ (eqY Z))
  · refine all_cons ?_ (all_cons ?_ (all_cons ?_ (all_nil)))
    · exact core_stepAs _ (by rfl)
    · exact fun _ => coreG_call _ 36 _ _ [.const (.int .u64 0)] _ _ _ _ _ _ _ (by rfl) Try.func36 (by kernel_rfl) (by rfl) (by rfl) (wants_none) (.cons (known_const _) .nil) (HO.out)
    · exact core_stepAs _ (by rfl)
  intro vs y2 hc
  obtain ⟨vv0, vv1, vv2, rfl⟩ := len3 vs hc.lv
  have qq0 : vv0 = .agg #[.int .u64 (wd Z 0 : Nat), .int .u64 (wd Z 1 : Nat), .int .u64 (wd Z 2 : Nat), .int .u64 (wd Z 3 : Nat)] := by obtain ⟨xx, hx, hy⟩ := hc.ok 0 _ rfl rfl; exact (Option.some.inj (show some vv0 = some xx from hx)).trans hy
  have qq1 : vv1 = .agg #[.int .u64 (wd Z 0 : Nat), .int .u64 (wd Z 1 : Nat), .int .u64 (wd Z 2 : Nat), .int .u64 (wd Z 3 : Nat)] := by obtain ⟨xx, hx, hy⟩ := hc.ok 1 _ rfl rfl; exact (Option.some.inj (show some vv1 = some xx from hx)).trans hy
  have qq2 : vv2 = .bool true := by obtain ⟨xx, hx, hy⟩ := hc.ok 2 _ rfl rfl; exact (Option.some.inj (show some vv2 = some xx from hx)).trans hy
  have BZ := hc.bel
  clear hc
  have Narr := Farr.out.on BZ
  have Nm := Fm.out.on BZ
  have NB := bel_tr BW.out BZ
  clear BW BZ Farr Fm
  subst qq0 qq1 qq2
  simp only [List.map_cons, List.map_nil, over, Act.put, List.setIfInBounds_toArray, List.set_cons_zero, List.set_cons_succ]
  refine wpAnyH_done (by kernel_rfl) ?_ _
  refine NoPanic.normal ?_
  have Farr := Lib.hid Narr
  have Fm := Lib.hid Nm
  have BW := Lib.hid NB
  clear NB Narr Nm
  go_wp2_with fail
  refine (alive3_any _).mono ?_
  rintro e v3 ⟨rfl, z3⟩
  have Narr := Lib.hid (Farr.out.on z3)
  have Nm := Lib.hid (Fm.out.on z3)
  have NB := Lib.hid (bel_tr BW.out z3)
  clear BW z3 Farr Fm
  have Farr := Narr
  have Fm := Nm
  have BW := NB
  clear NB Narr Nm
  go_wp2_with fail
  go_ret
  exact ⟨rfl, BW.out⟩

set_option maxRecDepth 100000 in
set_option maxHeartbeats 8000000 in
theorem widelaw_some (X Y V Z q r L H S more H2 : Nat)
    (O : ∀ w, Calls Try.prog 36 #[.int .u64 0] w fun e w' => e = .returned (num Z) ∧ Below w.heap.size w w')
    (OM : ∀ w, Calls Try.prog 36 #[.int .u64 (more : Nat)] w fun e w' => e = .returned (num more) ∧ Below w.heap.size w w')
    (E : ∀ w : World, (Op.equalIn 10000 24 (num X) (num Z)).run Try.prog w = .ok false w)
    (D : ∀ w, Calls Try.prog 30 #[num V, num X] w fun e w' => e = .returned (.tuple #[num q, num r, .int .i64 0]) ∧ Below w.heap.size w w')
    (M : ∀ w, Calls Try.prog 15 #[num X, num Y] w fun e w' => e = .returned (.tuple #[num L, num H]) ∧ Below w.heap.size w w')
    (AD : ∀ w, Calls Try.prog 13 #[num L, num r] w fun e w' => e = .returned (.tuple #[num S, .int .u64 (more : Nat)]) ∧ Below w.heap.size w w')
    (A2 : ∀ w, Calls Try.prog 13 #[num H, num more] w fun e w' => e = .returned (.tuple #[num H2, .int .u64 ((0 : Nat) : Int)]) ∧ Below w.heap.size w w')
    (W1 : ∀ w, Calls Try.prog 32 #[num S, num H2, num X] w fun e w' => e = .returned (.tuple #[num r, .int .i64 0]) ∧ Below w.heap.size w w')
    (W2 : ∀ w, Calls Try.prog 32 #[num V, num Z, num X] w fun e w' => e = .returned (.tuple #[num r, .int .i64 0]) ∧ Below w.heap.size w w')
    (W3 : ∀ w, Calls Try.prog 32 #[num Z, num X, num X] w fun e w' => e = .returned (.tuple #[num Z, .int .i64 0]) ∧ Below w.heap.size w w')
    (w : World) : Calls Try.prog 7 #[.agg #[.int .u64 (wd X 0 : Nat), .int .u64 (wd X 1 : Nat), .int .u64 (wd X 2 : Nat), .int .u64 (wd X 3 : Nat), .int .u64 (wd Y 0 : Nat), .int .u64 (wd Y 1 : Nat), .int .u64 (wd Y 2 : Nat), .int .u64 (wd Y 3 : Nat), .int .u64 (wd V 0 : Nat), .int .u64 (wd V 1 : Nat), .int .u64 (wd V 2 : Nat), .int .u64 (wd V 3 : Nat)]] w fun e w' => e = .returned (.bool true) ∧ Below w.heap.size w w' := by
  have HO := Lib.hid O
  have HOM := Lib.hid OM
  have HE := Lib.hid E
  have HD := Lib.hid D
  have HM := Lib.hid M
  have HAD := Lib.hid AD
  have HA2 := Lib.hid A2
  have HW1 := Lib.hid W1
  have HW2 := Lib.hid W2
  have HW3 := Lib.hid W3
  clear O OM E D M AD A2 W1 W2 W3
  go_enter Try.func7, Try.ntmps7
  go_wp2_with fail
  have BW := Lib.hid (Below.refl w.heap.size w)
  have Narr : At ((w.alloc (.cells #[.int .u64 (wd X 0 : Nat), .int .u64 (wd X 1 : Nat), .int .u64 (wd X 2 : Nat), .int .u64 (wd X 3 : Nat), .int .u64 (wd Y 0 : Nat), .int .u64 (wd Y 1 : Nat), .int .u64 (wd Y 2 : Nat), .int .u64 (wd Y 3 : Nat), .int .u64 (wd V 0 : Nat), .int .u64 (wd V 1 : Nat), .int .u64 (wd V 2 : Nat), .int .u64 (wd V 3 : Nat)] 36)).alloc (.cells #[.int .u64 (wd X 0 : Nat), .int .u64 (wd X 1 : Nat), .int .u64 (wd X 2 : Nat), .int .u64 (wd X 3 : Nat)] 24)) (w.heap.size) 36 #[.int .u64 (wd X 0 : Nat), .int .u64 (wd X 1 : Nat), .int .u64 (wd X 2 : Nat), .int .u64 (wd X 3 : Nat), .int .u64 (wd Y 0 : Nat), .int .u64 (wd Y 1 : Nat), .int .u64 (wd Y 2 : Nat), .int .u64 (wd Y 3 : Nat), .int .u64 (wd V 0 : Nat), .int .u64 (wd V 1 : Nat), .int .u64 (wd V 2 : Nat), .int .u64 (wd V 3 : Nat)] := (At.at_ _ _ _ _ (by simp)).alloc _
  have Nm : At ((w.alloc (.cells #[.int .u64 (wd X 0 : Nat), .int .u64 (wd X 1 : Nat), .int .u64 (wd X 2 : Nat), .int .u64 (wd X 3 : Nat), .int .u64 (wd Y 0 : Nat), .int .u64 (wd Y 1 : Nat), .int .u64 (wd Y 2 : Nat), .int .u64 (wd Y 3 : Nat), .int .u64 (wd V 0 : Nat), .int .u64 (wd V 1 : Nat), .int .u64 (wd V 2 : Nat), .int .u64 (wd V 3 : Nat)] 36)).alloc (.cells #[.int .u64 (wd X 0 : Nat), .int .u64 (wd X 1 : Nat), .int .u64 (wd X 2 : Nat), .int .u64 (wd X 3 : Nat)] 24)) (w.heap.size + 1) 24 #[.int .u64 (wd X 0 : Nat), .int .u64 (wd X 1 : Nat), .int .u64 (wd X 2 : Nat), .int .u64 (wd X 3 : Nat)] := At.at_ _ _ _ _ (by simp)
  have NB : Below w.heap.size w ((w.alloc (.cells #[.int .u64 (wd X 0 : Nat), .int .u64 (wd X 1 : Nat), .int .u64 (wd X 2 : Nat), .int .u64 (wd X 3 : Nat), .int .u64 (wd Y 0 : Nat), .int .u64 (wd Y 1 : Nat), .int .u64 (wd Y 2 : Nat), .int .u64 (wd Y 3 : Nat), .int .u64 (wd V 0 : Nat), .int .u64 (wd V 1 : Nat), .int .u64 (wd V 2 : Nat), .int .u64 (wd V 3 : Nat)] 36)).alloc (.cells #[.int .u64 (wd X 0 : Nat), .int .u64 (wd X 1 : Nat), .int .u64 (wd X 2 : Nat), .int .u64 (wd X 3 : Nat)] 24)) := gr_alloc (gr_alloc BW.out _) _
  clear BW 
  generalize ((w.alloc (.cells #[.int .u64 (wd X 0 : Nat), .int .u64 (wd X 1 : Nat), .int .u64 (wd X 2 : Nat), .int .u64 (wd X 3 : Nat), .int .u64 (wd Y 0 : Nat), .int .u64 (wd Y 1 : Nat), .int .u64 (wd Y 2 : Nat), .int .u64 (wd Y 3 : Nat), .int .u64 (wd V 0 : Nat), .int .u64 (wd V 1 : Nat), .int .u64 (wd V 2 : Nat), .int .u64 (wd V 3 : Nat)] 36)).alloc (.cells #[.int .u64 (wd X 0 : Nat), .int .u64 (wd X 1 : Nat), .int .u64 (wd X 2 : Nat), .int .u64 (wd X 3 : Nat)] 24)) = W1 at *
  generalize w.heap.size + 1 = gm at *
  obtain ⟨garr, hg0⟩ : ∃ g, g = w.heap.size := ⟨_, rfl⟩
  rw [← hg0] at Narr ⊢
  clear hg0
  have Farr := Lib.hid Narr
  have Fm := Lib.hid Nm
  have BW := Lib.hid NB
  clear NB Narr Nm
  try simp only [List.append_eq, List.cons_append, List.nil_append]
  refine wp_region_noPanic ?_
  refine wp_region_held_drew (S := fun w' => At w' gm 24 #[.int .u64 (wd X 0 : Nat), .int .u64 (wd X 1 : Nat), .int .u64 (wd X 2 : Nat), .int .u64 (wd X 3 : Nat)]) (by kernel_rfl) (Fm.out.drew) (fun _ => ?_)
  refine wpAnyH_cores (fuel := 0) (⟨0, 18, [], Kind.val (.agg #[.int .u64 (wd X 0 : Nat), .int .u64 (wd X 1 : Nat), .int .u64 (wd X 2 : Nat), .int .u64 (wd X 3 : Nat)]), true⟩ :: ⟨1, 19, [0], Kind.val (.agg #[.int .u64 (wd Z 0 : Nat), .int .u64 (wd Z 1 : Nat), .int .u64 (wd Z 2 : Nat), .int .u64 (wd Z 3 : Nat)]), false⟩ :: ⟨2, 20, [0, 1], Kind.val (.bool false), true⟩ :: []) _ _ W1 _ ?_ ?_ ?_ ?_ ?_ ?_ ?_ ?_ ?_ ?_ ?_
  · rfl
  · kernel_rfl
  · exact of_decide_eq_true (by kernel_rfl)
  · exact all_cons ⟨_, by rfl, by rfl⟩ (all_cons ⟨_, by rfl, by rfl⟩ (all_cons ⟨_, by rfl, by rfl⟩ (all_nil)))
  · exact fun _ hb => Fm.out.on hb
  · exact (Below.refl _ _).drew
  · kernel_rfl
  · exact fun _ _ _ _ _ h => h
  · refine all_cons ?_ (all_cons ?_ (all_cons ?_ (all_nil)))
    · exact coreG_loadP _ _ _ _ _ _ gm _ _ _ _ (by rfl) (by rfl) (wants_none) (known_old 3 _ (of_decide_eq_true (by rfl)) (by rfl)) (fun _ hs => hs)
    · exact core_pureAs _ (by rfl)
    · exact coreG_bin _ _ _ _ _ _ _ _ _ _ _ _ _ (by rfl) (by rfl) (wants_none) (known_core 0 18 _ _ (of_decide_eq_true (by rfl)) (by rfl) (by rfl) (by rfl)) (known_core 1 19 _ _ (of_decide_eq_true (by rfl)) (by rfl) (by rfl) (by rfl)) (eql_run false _ _ _ _ _ _ _ _ _ _ _ _ _ _ _ (HE.out))
  · refine all_cons ?_ (all_cons ?_ (all_cons ?_ (all_nil)))
    · exact core_stepAs _ (by rfl)
    · exact fun _ => coreG_call _ 36 _ _ [.const (.int .u64 0)] _ _ _ _ _ _ _ (by rfl) Try.func36 (by kernel_rfl) (by rfl) (by rfl) (wants_none) (.cons (known_const _) .nil) (HO.out)
    · exact core_stepAs _ (by rfl)
  intro vs y2 hc
  obtain ⟨vv0, vv1, vv2, rfl⟩ := len3 vs hc.lv
  have qq0 : vv0 = .agg #[.int .u64 (wd X 0 : Nat), .int .u64 (wd X 1 : Nat), .int .u64 (wd X 2 : Nat), .int .u64 (wd X 3 : Nat)] := by obtain ⟨xx, hx, hy⟩ := hc.ok 0 _ rfl rfl; exact (Option.some.inj (show some vv0 = some xx from hx)).trans hy
  have qq1 : vv1 = .agg #[.int .u64 (wd Z 0 : Nat), .int .u64 (wd Z 1 : Nat), .int .u64 (wd Z 2 : Nat), .int .u64 (wd Z 3 : Nat)] := by obtain ⟨xx, hx, hy⟩ := hc.ok 1 _ rfl rfl; exact (Option.some.inj (show some vv1 = some xx from hx)).trans hy
  have qq2 : vv2 = .bool false := by obtain ⟨xx, hx, hy⟩ := hc.ok 2 _ rfl rfl; exact (Option.some.inj (show some vv2 = some xx from hx)).trans hy
  have BZ := hc.bel
  clear hc
  have Narr := Farr.out.on BZ
  have Nm := Fm.out.on BZ
  have NB := bel_tr BW.out BZ
  clear BW BZ Farr Fm
  subst qq0 qq1 qq2
  simp only [List.map_cons, List.map_nil, over, Act.put, List.setIfInBounds_toArray, List.set_cons_zero, List.set_cons_succ]
  refine wpAnyH_done (by kernel_rfl) ?_ _
  refine NoPanic.normal ?_
  have Farr := Lib.hid Narr
  have Fm := Lib.hid Nm
  have BW := Lib.hid NB
  clear NB Narr Nm
  have Larr := Farr.out.lt
  have carr0 : y2.cell? ⟨garr, 0, none⟩ = some (.int .u64 (wd X 0 : Nat)) := Farr.out.cell 0
  have carr1 : y2.cell? ⟨garr, 1, none⟩ = some (.int .u64 (wd X 1 : Nat)) := Farr.out.cell 1
  have carr2 : y2.cell? ⟨garr, 2, none⟩ = some (.int .u64 (wd X 2 : Nat)) := Farr.out.cell 2
  have carr3 : y2.cell? ⟨garr, 3, none⟩ = some (.int .u64 (wd X 3 : Nat)) := Farr.out.cell 3
  have carr4 : y2.cell? ⟨garr, 4, none⟩ = some (.int .u64 (wd Y 0 : Nat)) := Farr.out.cell 4
  have carr5 : y2.cell? ⟨garr, 5, none⟩ = some (.int .u64 (wd Y 1 : Nat)) := Farr.out.cell 5
  have carr6 : y2.cell? ⟨garr, 6, none⟩ = some (.int .u64 (wd Y 2 : Nat)) := Farr.out.cell 6
  have carr7 : y2.cell? ⟨garr, 7, none⟩ = some (.int .u64 (wd Y 3 : Nat)) := Farr.out.cell 7
  have carr8 : y2.cell? ⟨garr, 8, none⟩ = some (.int .u64 (wd V 0 : Nat)) := Farr.out.cell 8
  have carr9 : y2.cell? ⟨garr, 9, none⟩ = some (.int .u64 (wd V 1 : Nat)) := Farr.out.cell 9
  have carr10 : y2.cell? ⟨garr, 10, none⟩ = some (.int .u64 (wd V 2 : Nat)) := Farr.out.cell 10
  have carr11 : y2.cell? ⟨garr, 11, none⟩ = some (.int .u64 (wd V 3 : Nat)) := Farr.out.cell 11
  have Lm := Fm.out.lt
  have cm0 : y2.cell? ⟨gm, 0, none⟩ = some (.int .u64 (wd X 0 : Nat)) := Fm.out.cell 0
  have cm1 : y2.cell? ⟨gm, 1, none⟩ = some (.int .u64 (wd X 1 : Nat)) := Fm.out.cell 1
  have cm2 : y2.cell? ⟨gm, 2, none⟩ = some (.int .u64 (wd X 2 : Nat)) := Fm.out.cell 2
  have cm3 : y2.cell? ⟨gm, 3, none⟩ = some (.int .u64 (wd X 3 : Nat)) := Fm.out.cell 3
  go_wp2_with fail
  clear Larr carr0 carr1 carr2 carr3 carr4 carr5 carr6 carr7 carr8 carr9 carr10 carr11 Lm cm0 cm1 cm2 cm3
  refine (HD.out _).mono ?_
  rintro e v3 ⟨rfl, z3⟩
  have Narr := Lib.hid (Farr.out.on z3)
  have Nm := Lib.hid (Fm.out.on z3)
  have NB := Lib.hid (bel_tr BW.out z3)
  clear BW z3 Farr Fm
  have Farr := Narr
  have Fm := Nm
  have BW := NB
  clear NB Narr Nm
  have Lm := Fm.out.lt
  have cm0 : v3.cell? ⟨gm, 0, none⟩ = some (.int .u64 (wd X 0 : Nat)) := Fm.out.cell 0
  have cm1 : v3.cell? ⟨gm, 1, none⟩ = some (.int .u64 (wd X 1 : Nat)) := Fm.out.cell 1
  have cm2 : v3.cell? ⟨gm, 2, none⟩ = some (.int .u64 (wd X 2 : Nat)) := Fm.out.cell 2
  have cm3 : v3.cell? ⟨gm, 3, none⟩ = some (.int .u64 (wd X 3 : Nat)) := Fm.out.cell 3
  have Larr := Farr.out.lt
  have carr0 : v3.cell? ⟨garr, 0, none⟩ = some (.int .u64 (wd X 0 : Nat)) := Farr.out.cell 0
  have carr1 : v3.cell? ⟨garr, 1, none⟩ = some (.int .u64 (wd X 1 : Nat)) := Farr.out.cell 1
  have carr2 : v3.cell? ⟨garr, 2, none⟩ = some (.int .u64 (wd X 2 : Nat)) := Farr.out.cell 2
  have carr3 : v3.cell? ⟨garr, 3, none⟩ = some (.int .u64 (wd X 3 : Nat)) := Farr.out.cell 3
  have carr4 : v3.cell? ⟨garr, 4, none⟩ = some (.int .u64 (wd Y 0 : Nat)) := Farr.out.cell 4
  have carr5 : v3.cell? ⟨garr, 5, none⟩ = some (.int .u64 (wd Y 1 : Nat)) := Farr.out.cell 5
  have carr6 : v3.cell? ⟨garr, 6, none⟩ = some (.int .u64 (wd Y 2 : Nat)) := Farr.out.cell 6
  have carr7 : v3.cell? ⟨garr, 7, none⟩ = some (.int .u64 (wd Y 3 : Nat)) := Farr.out.cell 7
  have carr8 : v3.cell? ⟨garr, 8, none⟩ = some (.int .u64 (wd V 0 : Nat)) := Farr.out.cell 8
  have carr9 : v3.cell? ⟨garr, 9, none⟩ = some (.int .u64 (wd V 1 : Nat)) := Farr.out.cell 9
  have carr10 : v3.cell? ⟨garr, 10, none⟩ = some (.int .u64 (wd V 2 : Nat)) := Farr.out.cell 10
  have carr11 : v3.cell? ⟨garr, 11, none⟩ = some (.int .u64 (wd V 3 : Nat)) := Farr.out.cell 11
  go_wp2_with fail
  clear Lm cm0 cm1 cm2 cm3 Larr carr0 carr1 carr2 carr3 carr4 carr5 carr6 carr7 carr8 carr9 carr10 carr11
  have Nq : At ((v3.alloc (.cells #[.int .u64 (wd q 0 : Nat), .int .u64 (wd q 1 : Nat), .int .u64 (wd q 2 : Nat), .int .u64 (wd q 3 : Nat)] 24)).alloc (.cells #[.int .u64 (wd r 0 : Nat), .int .u64 (wd r 1 : Nat), .int .u64 (wd r 2 : Nat), .int .u64 (wd r 3 : Nat)] 24)) (v3.heap.size) 24 #[.int .u64 (wd q 0 : Nat), .int .u64 (wd q 1 : Nat), .int .u64 (wd q 2 : Nat), .int .u64 (wd q 3 : Nat)] := (At.at_ _ _ _ _ (by simp)).alloc _
  have Nr : At ((v3.alloc (.cells #[.int .u64 (wd q 0 : Nat), .int .u64 (wd q 1 : Nat), .int .u64 (wd q 2 : Nat), .int .u64 (wd q 3 : Nat)] 24)).alloc (.cells #[.int .u64 (wd r 0 : Nat), .int .u64 (wd r 1 : Nat), .int .u64 (wd r 2 : Nat), .int .u64 (wd r 3 : Nat)] 24)) (v3.heap.size + 1) 24 #[.int .u64 (wd r 0 : Nat), .int .u64 (wd r 1 : Nat), .int .u64 (wd r 2 : Nat), .int .u64 (wd r 3 : Nat)] := At.at_ _ _ _ _ (by simp)
  have Narr : At ((v3.alloc (.cells #[.int .u64 (wd q 0 : Nat), .int .u64 (wd q 1 : Nat), .int .u64 (wd q 2 : Nat), .int .u64 (wd q 3 : Nat)] 24)).alloc (.cells #[.int .u64 (wd r 0 : Nat), .int .u64 (wd r 1 : Nat), .int .u64 (wd r 2 : Nat), .int .u64 (wd r 3 : Nat)] 24)) garr 36 #[.int .u64 (wd X 0 : Nat), .int .u64 (wd X 1 : Nat), .int .u64 (wd X 2 : Nat), .int .u64 (wd X 3 : Nat), .int .u64 (wd Y 0 : Nat), .int .u64 (wd Y 1 : Nat), .int .u64 (wd Y 2 : Nat), .int .u64 (wd Y 3 : Nat), .int .u64 (wd V 0 : Nat), .int .u64 (wd V 1 : Nat), .int .u64 (wd V 2 : Nat), .int .u64 (wd V 3 : Nat)] := (Farr.out.alloc _).alloc _
  have Nm : At ((v3.alloc (.cells #[.int .u64 (wd q 0 : Nat), .int .u64 (wd q 1 : Nat), .int .u64 (wd q 2 : Nat), .int .u64 (wd q 3 : Nat)] 24)).alloc (.cells #[.int .u64 (wd r 0 : Nat), .int .u64 (wd r 1 : Nat), .int .u64 (wd r 2 : Nat), .int .u64 (wd r 3 : Nat)] 24)) gm 24 #[.int .u64 (wd X 0 : Nat), .int .u64 (wd X 1 : Nat), .int .u64 (wd X 2 : Nat), .int .u64 (wd X 3 : Nat)] := (Fm.out.alloc _).alloc _
  have NB : Below w.heap.size w ((v3.alloc (.cells #[.int .u64 (wd q 0 : Nat), .int .u64 (wd q 1 : Nat), .int .u64 (wd q 2 : Nat), .int .u64 (wd q 3 : Nat)] 24)).alloc (.cells #[.int .u64 (wd r 0 : Nat), .int .u64 (wd r 1 : Nat), .int .u64 (wd r 2 : Nat), .int .u64 (wd r 3 : Nat)] 24)) := gr_alloc (gr_alloc BW.out _) _
  clear BW Farr Fm
  generalize ((v3.alloc (.cells #[.int .u64 (wd q 0 : Nat), .int .u64 (wd q 1 : Nat), .int .u64 (wd q 2 : Nat), .int .u64 (wd q 3 : Nat)] 24)).alloc (.cells #[.int .u64 (wd r 0 : Nat), .int .u64 (wd r 1 : Nat), .int .u64 (wd r 2 : Nat), .int .u64 (wd r 3 : Nat)] 24)) = W4 at *
  generalize v3.heap.size + 1 = gr at *
  generalize v3.heap.size = gq at *
  have Farr := Lib.hid Narr
  have Fm := Lib.hid Nm
  have Fq := Lib.hid Nq
  have Fr := Lib.hid Nr
  have BW := Lib.hid NB
  clear NB Narr Nm Nq Nr
  refine (HM.out _).mono ?_
  rintro e v5 ⟨rfl, z5⟩
  have Narr := Lib.hid (Farr.out.on z5)
  have Nm := Lib.hid (Fm.out.on z5)
  have Nq := Lib.hid (Fq.out.on z5)
  have Nr := Lib.hid (Fr.out.on z5)
  have NB := Lib.hid (bel_tr BW.out z5)
  clear BW z5 Farr Fm Fq Fr
  have Farr := Narr
  have Fm := Nm
  have Fq := Nq
  have Fr := Nr
  have BW := NB
  clear NB Narr Nm Nq Nr
  have Lr := Fr.out.lt
  have cr0 : v5.cell? ⟨gr, 0, none⟩ = some (.int .u64 (wd r 0 : Nat)) := Fr.out.cell 0
  have cr1 : v5.cell? ⟨gr, 1, none⟩ = some (.int .u64 (wd r 1 : Nat)) := Fr.out.cell 1
  have cr2 : v5.cell? ⟨gr, 2, none⟩ = some (.int .u64 (wd r 2 : Nat)) := Fr.out.cell 2
  have cr3 : v5.cell? ⟨gr, 3, none⟩ = some (.int .u64 (wd r 3 : Nat)) := Fr.out.cell 3
  go_wp2_with fail
  clear Lr cr0 cr1 cr2 cr3
  have Nlo : At ((v5.alloc (.cells #[.int .u64 (wd L 0 : Nat), .int .u64 (wd L 1 : Nat), .int .u64 (wd L 2 : Nat), .int .u64 (wd L 3 : Nat)] 24)).alloc (.cells #[.int .u64 (wd H 0 : Nat), .int .u64 (wd H 1 : Nat), .int .u64 (wd H 2 : Nat), .int .u64 (wd H 3 : Nat)] 24)) (v5.heap.size) 24 #[.int .u64 (wd L 0 : Nat), .int .u64 (wd L 1 : Nat), .int .u64 (wd L 2 : Nat), .int .u64 (wd L 3 : Nat)] := (At.at_ _ _ _ _ (by simp)).alloc _
  have Elo : w.heap.size ≤ v5.heap.size := by have := BW.out.size; omega
  have Darrlo : garr ≠ v5.heap.size := by have := Farr.out.lt; omega
  have Dmlo : gm ≠ v5.heap.size := by have := Fm.out.lt; omega
  have Dqlo : gq ≠ v5.heap.size := by have := Fq.out.lt; omega
  have Drlo : gr ≠ v5.heap.size := by have := Fr.out.lt; omega
  have Nhi : At ((v5.alloc (.cells #[.int .u64 (wd L 0 : Nat), .int .u64 (wd L 1 : Nat), .int .u64 (wd L 2 : Nat), .int .u64 (wd L 3 : Nat)] 24)).alloc (.cells #[.int .u64 (wd H 0 : Nat), .int .u64 (wd H 1 : Nat), .int .u64 (wd H 2 : Nat), .int .u64 (wd H 3 : Nat)] 24)) (v5.heap.size + 1) 24 #[.int .u64 (wd H 0 : Nat), .int .u64 (wd H 1 : Nat), .int .u64 (wd H 2 : Nat), .int .u64 (wd H 3 : Nat)] := At.at_ _ _ _ _ (by simp)
  have Ehi : w.heap.size ≤ v5.heap.size + 1 := by have := BW.out.size; omega
  have Darrhi : garr ≠ v5.heap.size + 1 := by have := Farr.out.lt; omega
  have Dmhi : gm ≠ v5.heap.size + 1 := by have := Fm.out.lt; omega
  have Dqhi : gq ≠ v5.heap.size + 1 := by have := Fq.out.lt; omega
  have Drhi : gr ≠ v5.heap.size + 1 := by have := Fr.out.lt; omega
  have Dlohi : v5.heap.size ≠ v5.heap.size + 1 := by omega
  have Narr : At ((v5.alloc (.cells #[.int .u64 (wd L 0 : Nat), .int .u64 (wd L 1 : Nat), .int .u64 (wd L 2 : Nat), .int .u64 (wd L 3 : Nat)] 24)).alloc (.cells #[.int .u64 (wd H 0 : Nat), .int .u64 (wd H 1 : Nat), .int .u64 (wd H 2 : Nat), .int .u64 (wd H 3 : Nat)] 24)) garr 36 #[.int .u64 (wd X 0 : Nat), .int .u64 (wd X 1 : Nat), .int .u64 (wd X 2 : Nat), .int .u64 (wd X 3 : Nat), .int .u64 (wd Y 0 : Nat), .int .u64 (wd Y 1 : Nat), .int .u64 (wd Y 2 : Nat), .int .u64 (wd Y 3 : Nat), .int .u64 (wd V 0 : Nat), .int .u64 (wd V 1 : Nat), .int .u64 (wd V 2 : Nat), .int .u64 (wd V 3 : Nat)] := (Farr.out.alloc _).alloc _
  have Nm : At ((v5.alloc (.cells #[.int .u64 (wd L 0 : Nat), .int .u64 (wd L 1 : Nat), .int .u64 (wd L 2 : Nat), .int .u64 (wd L 3 : Nat)] 24)).alloc (.cells #[.int .u64 (wd H 0 : Nat), .int .u64 (wd H 1 : Nat), .int .u64 (wd H 2 : Nat), .int .u64 (wd H 3 : Nat)] 24)) gm 24 #[.int .u64 (wd X 0 : Nat), .int .u64 (wd X 1 : Nat), .int .u64 (wd X 2 : Nat), .int .u64 (wd X 3 : Nat)] := (Fm.out.alloc _).alloc _
  have Nq : At ((v5.alloc (.cells #[.int .u64 (wd L 0 : Nat), .int .u64 (wd L 1 : Nat), .int .u64 (wd L 2 : Nat), .int .u64 (wd L 3 : Nat)] 24)).alloc (.cells #[.int .u64 (wd H 0 : Nat), .int .u64 (wd H 1 : Nat), .int .u64 (wd H 2 : Nat), .int .u64 (wd H 3 : Nat)] 24)) gq 24 #[.int .u64 (wd q 0 : Nat), .int .u64 (wd q 1 : Nat), .int .u64 (wd q 2 : Nat), .int .u64 (wd q 3 : Nat)] := (Fq.out.alloc _).alloc _
  have Nr : At ((v5.alloc (.cells #[.int .u64 (wd L 0 : Nat), .int .u64 (wd L 1 : Nat), .int .u64 (wd L 2 : Nat), .int .u64 (wd L 3 : Nat)] 24)).alloc (.cells #[.int .u64 (wd H 0 : Nat), .int .u64 (wd H 1 : Nat), .int .u64 (wd H 2 : Nat), .int .u64 (wd H 3 : Nat)] 24)) gr 24 #[.int .u64 (wd r 0 : Nat), .int .u64 (wd r 1 : Nat), .int .u64 (wd r 2 : Nat), .int .u64 (wd r 3 : Nat)] := (Fr.out.alloc _).alloc _
  have NB : Below w.heap.size w ((v5.alloc (.cells #[.int .u64 (wd L 0 : Nat), .int .u64 (wd L 1 : Nat), .int .u64 (wd L 2 : Nat), .int .u64 (wd L 3 : Nat)] 24)).alloc (.cells #[.int .u64 (wd H 0 : Nat), .int .u64 (wd H 1 : Nat), .int .u64 (wd H 2 : Nat), .int .u64 (wd H 3 : Nat)] 24)) := gr_alloc (gr_alloc BW.out _) _
  clear BW Farr Fm Fq Fr
  generalize ((v5.alloc (.cells #[.int .u64 (wd L 0 : Nat), .int .u64 (wd L 1 : Nat), .int .u64 (wd L 2 : Nat), .int .u64 (wd L 3 : Nat)] 24)).alloc (.cells #[.int .u64 (wd H 0 : Nat), .int .u64 (wd H 1 : Nat), .int .u64 (wd H 2 : Nat), .int .u64 (wd H 3 : Nat)] 24)) = W6 at *
  generalize v5.heap.size + 1 = ghi at *
  generalize v5.heap.size = glo at *
  have Farr := Lib.hid Narr
  have Fm := Lib.hid Nm
  have Fq := Lib.hid Nq
  have Fr := Lib.hid Nr
  have Flo := Lib.hid Nlo
  have Fhi := Lib.hid Nhi
  have BW := Lib.hid NB
  clear NB Narr Nm Nq Nr Nlo Nhi
  refine (HAD.out _).mono ?_
  rintro e v7 ⟨rfl, z7⟩
  have Narr := Lib.hid (Farr.out.on z7)
  have Nm := Lib.hid (Fm.out.on z7)
  have Nq := Lib.hid (Fq.out.on z7)
  have Nr := Lib.hid (Fr.out.on z7)
  have Nlo := Lib.hid (Flo.out.on z7)
  have Nhi := Lib.hid (Fhi.out.on z7)
  have NB := Lib.hid (bel_tr BW.out z7)
  clear BW z7 Farr Fm Fq Fr Flo Fhi
  have Farr := Narr
  have Fm := Nm
  have Fq := Nq
  have Fr := Nr
  have Flo := Nlo
  have Fhi := Nhi
  have BW := NB
  clear NB Narr Nm Nq Nr Nlo Nhi
  clear Fq
  have Llo := Flo.out.lt
  have clo0 : v7.cell? ⟨glo, 0, none⟩ = some (.int .u64 (wd L 0 : Nat)) := Flo.out.cell 0
  have clo1 : v7.cell? ⟨glo, 1, none⟩ = some (.int .u64 (wd L 1 : Nat)) := Flo.out.cell 1
  have clo2 : v7.cell? ⟨glo, 2, none⟩ = some (.int .u64 (wd L 2 : Nat)) := Flo.out.cell 2
  have clo3 : v7.cell? ⟨glo, 3, none⟩ = some (.int .u64 (wd L 3 : Nat)) := Flo.out.cell 3
  have flo0 : v7.frozen? ⟨glo, 0, none⟩ = false := Flo.out.frozen 0
  have flo1 : v7.frozen? ⟨glo, 1, none⟩ = false := Flo.out.frozen 1
  have flo2 : v7.frozen? ⟨glo, 2, none⟩ = false := Flo.out.frozen 2
  have flo3 : v7.frozen? ⟨glo, 3, none⟩ = false := Flo.out.frozen 3
  go_wp2_with fail
  clear Llo clo0 clo1 clo2 clo3 flo0 flo1 flo2 flo3
  have Narr_0 : At ((((v7.setCell ⟨glo, 0, none⟩ (.int .u64 (wd S 0 : Nat))).setCell ⟨glo, 1, none⟩ (.int .u64 (wd S 1 : Nat))).setCell ⟨glo, 2, none⟩ (.int .u64 (wd S 2 : Nat))).setCell ⟨glo, 3, none⟩ (.int .u64 (wd S 3 : Nat))) garr 36 #[.int .u64 (wd X 0 : Nat), .int .u64 (wd X 1 : Nat), .int .u64 (wd X 2 : Nat), .int .u64 (wd X 3 : Nat), .int .u64 (wd Y 0 : Nat), .int .u64 (wd Y 1 : Nat), .int .u64 (wd Y 2 : Nat), .int .u64 (wd Y 3 : Nat), .int .u64 (wd V 0 : Nat), .int .u64 (wd V 1 : Nat), .int .u64 (wd V 2 : Nat), .int .u64 (wd V 3 : Nat)] := (Farr.out).far4 Darrlo _ _ _ _
  have Nm_0 : At ((((v7.setCell ⟨glo, 0, none⟩ (.int .u64 (wd S 0 : Nat))).setCell ⟨glo, 1, none⟩ (.int .u64 (wd S 1 : Nat))).setCell ⟨glo, 2, none⟩ (.int .u64 (wd S 2 : Nat))).setCell ⟨glo, 3, none⟩ (.int .u64 (wd S 3 : Nat))) gm 24 #[.int .u64 (wd X 0 : Nat), .int .u64 (wd X 1 : Nat), .int .u64 (wd X 2 : Nat), .int .u64 (wd X 3 : Nat)] := (Fm.out).far4 Dmlo _ _ _ _
  have Nr_0 : At ((((v7.setCell ⟨glo, 0, none⟩ (.int .u64 (wd S 0 : Nat))).setCell ⟨glo, 1, none⟩ (.int .u64 (wd S 1 : Nat))).setCell ⟨glo, 2, none⟩ (.int .u64 (wd S 2 : Nat))).setCell ⟨glo, 3, none⟩ (.int .u64 (wd S 3 : Nat))) gr 24 #[.int .u64 (wd r 0 : Nat), .int .u64 (wd r 1 : Nat), .int .u64 (wd r 2 : Nat), .int .u64 (wd r 3 : Nat)] := (Fr.out).far4 Drlo _ _ _ _
  have Nlo_0 : At ((((v7.setCell ⟨glo, 0, none⟩ (.int .u64 (wd S 0 : Nat))).setCell ⟨glo, 1, none⟩ (.int .u64 (wd S 1 : Nat))).setCell ⟨glo, 2, none⟩ (.int .u64 (wd S 2 : Nat))).setCell ⟨glo, 3, none⟩ (.int .u64 (wd S 3 : Nat))) glo 24 #[.int .u64 (wd S 0 : Nat), .int .u64 (wd S 1 : Nat), .int .u64 (wd S 2 : Nat), .int .u64 (wd S 3 : Nat)] := (Flo.out).put4 _ _ _ _
  have Nhi_0 : At ((((v7.setCell ⟨glo, 0, none⟩ (.int .u64 (wd S 0 : Nat))).setCell ⟨glo, 1, none⟩ (.int .u64 (wd S 1 : Nat))).setCell ⟨glo, 2, none⟩ (.int .u64 (wd S 2 : Nat))).setCell ⟨glo, 3, none⟩ (.int .u64 (wd S 3 : Nat))) ghi 24 #[.int .u64 (wd H 0 : Nat), .int .u64 (wd H 1 : Nat), .int .u64 (wd H 2 : Nat), .int .u64 (wd H 3 : Nat)] := (Fhi.out).far4 Dlohi.symm _ _ _ _
  have NB_0 : Below w.heap.size w ((((v7.setCell ⟨glo, 0, none⟩ (.int .u64 (wd S 0 : Nat))).setCell ⟨glo, 1, none⟩ (.int .u64 (wd S 1 : Nat))).setCell ⟨glo, 2, none⟩ (.int .u64 (wd S 2 : Nat))).setCell ⟨glo, 3, none⟩ (.int .u64 (wd S 3 : Nat))) := ((((BW.out).setCell Elo _).setCell Elo _).setCell Elo _).setCell Elo _
  have Narr := Narr_0
  have Nm := Nm_0
  have Nr := Nr_0
  have Nlo := Nlo_0
  have Nhi := Nhi_0
  have NB := NB_0
  clear BW Farr Fm Fr Flo Fhi Narr_0 Nm_0 Nr_0 Nlo_0 Nhi_0 NB_0
  generalize ((((v7.setCell ⟨glo, 0, none⟩ (.int .u64 (wd S 0 : Nat))).setCell ⟨glo, 1, none⟩ (.int .u64 (wd S 1 : Nat))).setCell ⟨glo, 2, none⟩ (.int .u64 (wd S 2 : Nat))).setCell ⟨glo, 3, none⟩ (.int .u64 (wd S 3 : Nat))) = W8 at *
  have Farr := Lib.hid Narr
  have Fm := Lib.hid Nm
  have Fr := Lib.hid Nr
  have Flo := Lib.hid Nlo
  have Fhi := Lib.hid Nhi
  have BW := Lib.hid NB
  clear NB Narr Nm Nr Nlo Nhi
  try simp only [List.append_eq, List.cons_append, List.nil_append]
  refine wp_region_noPanic ?_
  refine wp_region_held_drew (S := fun w' => True) (by kernel_rfl) (trivial) (fun _ => ?_)
  refine wpAnyH_cores (fuel := 1) (⟨0, 44, [], Kind.val (.agg #[.int .u64 (wd H 0 : Nat), .int .u64 (wd H 1 : Nat), .int .u64 (wd H 2 : Nat), .int .u64 (wd H 3 : Nat)]), false⟩ :: ⟨1, 45, [], Kind.val (.int .u64 (more : Nat)), true⟩ :: ⟨2, 46, [1], Kind.val (.agg #[.int .u64 (wd more 0 : Nat), .int .u64 (wd more 1 : Nat), .int .u64 (wd more 2 : Nat), .int .u64 (wd more 3 : Nat)]), false⟩ :: ⟨3, 47, [0, 2], Kind.val (.tuple #[.agg #[.int .u64 (wd H2 0 : Nat), .int .u64 (wd H2 1 : Nat), .int .u64 (wd H2 2 : Nat), .int .u64 (wd H2 3 : Nat)], .int .u64 ((0 : Nat) : Int)]), false⟩ :: ⟨4, 43, [3], Kind.val (.tuple #[.agg #[.int .u64 (wd H2 0 : Nat), .int .u64 (wd H2 1 : Nat), .int .u64 (wd H2 2 : Nat), .int .u64 (wd H2 3 : Nat)], .int .u64 ((0 : Nat) : Int)]), true⟩ :: ⟨5, 48, [4], Kind.val (.agg #[.int .u64 (wd H2 0 : Nat), .int .u64 (wd H2 1 : Nat), .int .u64 (wd H2 2 : Nat), .int .u64 (wd H2 3 : Nat)]), true⟩ :: ⟨6, 49, [4], Kind.val (.int .u64 ((0 : Nat) : Int)), true⟩ :: []) _ _ W8 _ ?_ ?_ ?_ ?_ ?_ ?_ ?_ ?_ ?_ ?_ ?_
  · rfl
  · kernel_rfl
  · exact of_decide_eq_true rfl
  · exact all_cons ⟨_, rfl, rfl⟩ (all_cons ⟨_, rfl, rfl⟩ (all_cons ⟨_, rfl, rfl⟩ (all_cons ⟨_, rfl, rfl⟩ (all_cons ⟨_, rfl, rfl⟩ (all_cons ⟨_, rfl, rfl⟩ (all_cons ⟨_, rfl, rfl⟩ (all_nil)))))))
  · exact fun _ hb => trivial
  · exact (Below.refl _ _).drew
  · kernel_rfl
  · exact fun _ _ _ _ _ h => h
  · refine all_cons ?_ (all_cons ?_ (all_cons ?_ (all_cons ?_ (all_cons ?_ (all_cons ?_ (all_cons ?_ (all_nil)))))))
    · exact core_pureAs _ (by rfl)
    · exact core_move _ _ _ _ _ _ (by rfl) (by rfl) (known_old 9 _ (of_decide_eq_true (by rfl)) (by rfl))
    · exact core_pureAs _ (by rfl)
    · exact core_pureAs _ (by rfl)
    · exact core_move _ _ _ _ _ _ (by rfl) (by rfl) (known_core 3 47 _ _ (of_decide_eq_true (by rfl)) (by rfl) (by rfl) (by rfl))
    · exact core_extract _ _ 0 _ _ _ _ _ (by rfl) (by rfl) (known_core 4 43 _ _ (of_decide_eq_true (by rfl)) (by rfl) (by rfl) (by rfl)) (by rfl)
    · exact core_extract _ _ 1 _ _ _ _ _ (by rfl) (by rfl) (known_core 4 43 _ _ (of_decide_eq_true (by rfl)) (by rfl) (by rfl) (by rfl)) (by rfl)
  · refine all_cons ?_ (all_cons ?_ (all_cons ?_ (all_cons ?_ (all_cons ?_ (all_cons ?_ (all_cons ?_ (all_nil)))))))
    · exact fun _ => core_load _ _ _ _ _ ghi _ _ _ _ (by rfl) (by rfl) (known_old 8 _ (of_decide_eq_true (by rfl)) (by rfl)) Fhi.out
    · exact core_stepAs _ (by rfl)
    · exact fun _ => core_call _ 36 _ _ [.tmp 45] _ _ _ _ _ _ (by rfl) Try.func36 (by kernel_rfl) (by rfl) (by rfl) (.cons (known_core 1 45 _ _ (of_decide_eq_true (by rfl)) (by rfl) (by rfl) (by rfl)) .nil) (HOM.out)
    · exact fun _ => core_call _ 13 _ _ [.tmp 44, .tmp 46] _ _ _ _ _ _ (by rfl) Try.func13 (by kernel_rfl) (by rfl) (by rfl) (.cons (known_core 0 44 _ _ (of_decide_eq_true (by rfl)) (by rfl) (by rfl) (by rfl)) (.cons (known_core 2 46 _ _ (of_decide_eq_true (by rfl)) (by rfl) (by rfl) (by rfl)) .nil)) (HA2.out)
    · exact core_stepAs _ (by rfl)
    · exact core_stepAs _ (by rfl)
    · exact core_stepAs _ (by rfl)
  intro vs y9 hc
  obtain ⟨vv0, vv1, vv2, vv3, vv4, vv5, vv6, rfl⟩ := len7 vs hc.lv
  have qq0 : vv0 = .agg #[.int .u64 (wd H 0 : Nat), .int .u64 (wd H 1 : Nat), .int .u64 (wd H 2 : Nat), .int .u64 (wd H 3 : Nat)] := by obtain ⟨xx, hx, hy⟩ := hc.ok 0 _ rfl rfl; exact (Option.some.inj (show some vv0 = some xx from hx)).trans hy
  have qq1 : vv1 = .int .u64 (more : Nat) := by obtain ⟨xx, hx, hy⟩ := hc.ok 1 _ rfl rfl; exact (Option.some.inj (show some vv1 = some xx from hx)).trans hy
  have qq2 : vv2 = .agg #[.int .u64 (wd more 0 : Nat), .int .u64 (wd more 1 : Nat), .int .u64 (wd more 2 : Nat), .int .u64 (wd more 3 : Nat)] := by obtain ⟨xx, hx, hy⟩ := hc.ok 2 _ rfl rfl; exact (Option.some.inj (show some vv2 = some xx from hx)).trans hy
  have qq3 : vv3 = .tuple #[.agg #[.int .u64 (wd H2 0 : Nat), .int .u64 (wd H2 1 : Nat), .int .u64 (wd H2 2 : Nat), .int .u64 (wd H2 3 : Nat)], .int .u64 ((0 : Nat) : Int)] := by obtain ⟨xx, hx, hy⟩ := hc.ok 3 _ rfl rfl; exact (Option.some.inj (show some vv3 = some xx from hx)).trans hy
  have qq4 : vv4 = .tuple #[.agg #[.int .u64 (wd H2 0 : Nat), .int .u64 (wd H2 1 : Nat), .int .u64 (wd H2 2 : Nat), .int .u64 (wd H2 3 : Nat)], .int .u64 ((0 : Nat) : Int)] := by obtain ⟨xx, hx, hy⟩ := hc.ok 4 _ rfl rfl; exact (Option.some.inj (show some vv4 = some xx from hx)).trans hy
  have qq5 : vv5 = .agg #[.int .u64 (wd H2 0 : Nat), .int .u64 (wd H2 1 : Nat), .int .u64 (wd H2 2 : Nat), .int .u64 (wd H2 3 : Nat)] := by obtain ⟨xx, hx, hy⟩ := hc.ok 5 _ rfl rfl; exact (Option.some.inj (show some vv5 = some xx from hx)).trans hy
  have qq6 : vv6 = .int .u64 ((0 : Nat) : Int) := by obtain ⟨xx, hx, hy⟩ := hc.ok 6 _ rfl rfl; exact (Option.some.inj (show some vv6 = some xx from hx)).trans hy
  have BZ := hc.bel
  clear hc
  have Narr := Farr.out.on BZ
  have Nm := Fm.out.on BZ
  have Nr := Fr.out.on BZ
  have Nlo := Flo.out.on BZ
  have Nhi := Fhi.out.on BZ
  have HSZ9 := BW.out.size
  have NB := bel_tr BW.out BZ
  clear BW BZ Farr Fm Fr Flo Fhi
  subst qq0 qq1 qq2 qq3 qq4 qq5 qq6
  simp only [List.map_cons, List.map_nil, over, Act.put, List.setIfInBounds_toArray, List.set_cons_zero, List.set_cons_succ]
  have OLD := Nhi
  replace Narr := put4_far Narr Darrhi (.int .u64 (wd H2 0 : Nat)) (.int .u64 (wd H2 1 : Nat)) (.int .u64 (wd H2 2 : Nat)) (.int .u64 (wd H2 3 : Nat))
  replace Nm := put4_far Nm Dmhi (.int .u64 (wd H2 0 : Nat)) (.int .u64 (wd H2 1 : Nat)) (.int .u64 (wd H2 2 : Nat)) (.int .u64 (wd H2 3 : Nat))
  replace Nr := put4_far Nr Drhi (.int .u64 (wd H2 0 : Nat)) (.int .u64 (wd H2 1 : Nat)) (.int .u64 (wd H2 2 : Nat)) (.int .u64 (wd H2 3 : Nat))
  replace Nlo := put4_far Nlo Dlohi (.int .u64 (wd H2 0 : Nat)) (.int .u64 (wd H2 1 : Nat)) (.int .u64 (wd H2 2 : Nat)) (.int .u64 (wd H2 3 : Nat))
  replace Nhi := put4_at Nhi (.int .u64 (wd H2 0 : Nat)) (.int .u64 (wd H2 1 : Nat)) (.int .u64 (wd H2 2 : Nat)) (.int .u64 (wd H2 3 : Nat))
  replace NB := put4_below NB Ehi (.int .u64 (wd H2 0 : Nat)) (.int .u64 (wd H2 1 : Nat)) (.int .u64 (wd H2 2 : Nat)) (.int .u64 (wd H2 3 : Nat))
  refine store_one (i := 7) _ _ _ _ _ ghi _ _ _ _ _ _ _ _ (by kernel_rfl) (by rfl) (by rfl) (by rfl) OLD (trivial) ?_
  clear OLD
  generalize (put4 y9 ghi (.int .u64 (wd H2 0 : Nat)) (.int .u64 (wd H2 1 : Nat)) (.int .u64 (wd H2 2 : Nat)) (.int .u64 (wd H2 3 : Nat))) = y9_7 at *
  refine wpAnyH_done (by kernel_rfl) ?_ _
  refine NoPanic.normal ?_
  have Farr := Lib.hid Narr
  have Fm := Lib.hid Nm
  have Fr := Lib.hid Nr
  have Flo := Lib.hid Nlo
  have Fhi := Lib.hid Nhi
  have BW := Lib.hid NB
  clear NB Narr Nm Nr Nlo Nhi
  clear HSZ9
  have Llo := Flo.out.lt
  have clo0 : y9_7.cell? ⟨glo, 0, none⟩ = some (.int .u64 (wd S 0 : Nat)) := Flo.out.cell 0
  have clo1 : y9_7.cell? ⟨glo, 1, none⟩ = some (.int .u64 (wd S 1 : Nat)) := Flo.out.cell 1
  have clo2 : y9_7.cell? ⟨glo, 2, none⟩ = some (.int .u64 (wd S 2 : Nat)) := Flo.out.cell 2
  have clo3 : y9_7.cell? ⟨glo, 3, none⟩ = some (.int .u64 (wd S 3 : Nat)) := Flo.out.cell 3
  have Lhi := Fhi.out.lt
  have chi0 : y9_7.cell? ⟨ghi, 0, none⟩ = some (.int .u64 (wd H2 0 : Nat)) := Fhi.out.cell 0
  have chi1 : y9_7.cell? ⟨ghi, 1, none⟩ = some (.int .u64 (wd H2 1 : Nat)) := Fhi.out.cell 1
  have chi2 : y9_7.cell? ⟨ghi, 2, none⟩ = some (.int .u64 (wd H2 2 : Nat)) := Fhi.out.cell 2
  have chi3 : y9_7.cell? ⟨ghi, 3, none⟩ = some (.int .u64 (wd H2 3 : Nat)) := Fhi.out.cell 3
  have Lm := Fm.out.lt
  have cm0 : y9_7.cell? ⟨gm, 0, none⟩ = some (.int .u64 (wd X 0 : Nat)) := Fm.out.cell 0
  have cm1 : y9_7.cell? ⟨gm, 1, none⟩ = some (.int .u64 (wd X 1 : Nat)) := Fm.out.cell 1
  have cm2 : y9_7.cell? ⟨gm, 2, none⟩ = some (.int .u64 (wd X 2 : Nat)) := Fm.out.cell 2
  have cm3 : y9_7.cell? ⟨gm, 3, none⟩ = some (.int .u64 (wd X 3 : Nat)) := Fm.out.cell 3
  go_wp2_with fail
  clear Llo clo0 clo1 clo2 clo3 Lhi chi0 chi1 chi2 chi3 Lm cm0 cm1 cm2 cm3
  refine (HW1.out _).mono ?_
  rintro e v10 ⟨rfl, z10⟩
  have Narr := Lib.hid (Farr.out.on z10)
  have Nm := Lib.hid (Fm.out.on z10)
  have Nr := Lib.hid (Fr.out.on z10)
  have Nlo := Lib.hid (Flo.out.on z10)
  have Nhi := Lib.hid (Fhi.out.on z10)
  have NB := Lib.hid (bel_tr BW.out z10)
  clear BW z10 Farr Fm Fr Flo Fhi
  have Farr := Narr
  have Fm := Nm
  have Fr := Nr
  have Flo := Nlo
  have Fhi := Nhi
  have BW := NB
  clear NB Narr Nm Nr Nlo Nhi
  go_wp2_with fail
  have Nx : At (v10.alloc (.cells #[.int .u64 (wd r 0 : Nat), .int .u64 (wd r 1 : Nat), .int .u64 (wd r 2 : Nat), .int .u64 (wd r 3 : Nat)] 24)) (v10.heap.size) 24 #[.int .u64 (wd r 0 : Nat), .int .u64 (wd r 1 : Nat), .int .u64 (wd r 2 : Nat), .int .u64 (wd r 3 : Nat)] := At.at_ _ _ _ _ (by simp)
  have Dlox : glo ≠ v10.heap.size := by have := Flo.out.lt; omega
  have Dhix : ghi ≠ v10.heap.size := by have := Fhi.out.lt; omega
  have Narr : At (v10.alloc (.cells #[.int .u64 (wd r 0 : Nat), .int .u64 (wd r 1 : Nat), .int .u64 (wd r 2 : Nat), .int .u64 (wd r 3 : Nat)] 24)) garr 36 #[.int .u64 (wd X 0 : Nat), .int .u64 (wd X 1 : Nat), .int .u64 (wd X 2 : Nat), .int .u64 (wd X 3 : Nat), .int .u64 (wd Y 0 : Nat), .int .u64 (wd Y 1 : Nat), .int .u64 (wd Y 2 : Nat), .int .u64 (wd Y 3 : Nat), .int .u64 (wd V 0 : Nat), .int .u64 (wd V 1 : Nat), .int .u64 (wd V 2 : Nat), .int .u64 (wd V 3 : Nat)] := Farr.out.alloc _
  have Nm : At (v10.alloc (.cells #[.int .u64 (wd r 0 : Nat), .int .u64 (wd r 1 : Nat), .int .u64 (wd r 2 : Nat), .int .u64 (wd r 3 : Nat)] 24)) gm 24 #[.int .u64 (wd X 0 : Nat), .int .u64 (wd X 1 : Nat), .int .u64 (wd X 2 : Nat), .int .u64 (wd X 3 : Nat)] := Fm.out.alloc _
  have Nr : At (v10.alloc (.cells #[.int .u64 (wd r 0 : Nat), .int .u64 (wd r 1 : Nat), .int .u64 (wd r 2 : Nat), .int .u64 (wd r 3 : Nat)] 24)) gr 24 #[.int .u64 (wd r 0 : Nat), .int .u64 (wd r 1 : Nat), .int .u64 (wd r 2 : Nat), .int .u64 (wd r 3 : Nat)] := Fr.out.alloc _
  have Nlo : At (v10.alloc (.cells #[.int .u64 (wd r 0 : Nat), .int .u64 (wd r 1 : Nat), .int .u64 (wd r 2 : Nat), .int .u64 (wd r 3 : Nat)] 24)) glo 24 #[.int .u64 (wd S 0 : Nat), .int .u64 (wd S 1 : Nat), .int .u64 (wd S 2 : Nat), .int .u64 (wd S 3 : Nat)] := Flo.out.alloc _
  have Nhi : At (v10.alloc (.cells #[.int .u64 (wd r 0 : Nat), .int .u64 (wd r 1 : Nat), .int .u64 (wd r 2 : Nat), .int .u64 (wd r 3 : Nat)] 24)) ghi 24 #[.int .u64 (wd H2 0 : Nat), .int .u64 (wd H2 1 : Nat), .int .u64 (wd H2 2 : Nat), .int .u64 (wd H2 3 : Nat)] := Fhi.out.alloc _
  have NB : Below w.heap.size w (v10.alloc (.cells #[.int .u64 (wd r 0 : Nat), .int .u64 (wd r 1 : Nat), .int .u64 (wd r 2 : Nat), .int .u64 (wd r 3 : Nat)] 24)) := gr_alloc BW.out _
  clear BW Farr Fm Fr Flo Fhi
  generalize (v10.alloc (.cells #[.int .u64 (wd r 0 : Nat), .int .u64 (wd r 1 : Nat), .int .u64 (wd r 2 : Nat), .int .u64 (wd r 3 : Nat)] 24)) = W11 at *
  generalize v10.heap.size = gx at *
  have Farr := Lib.hid Narr
  have Fm := Lib.hid Nm
  have Fr := Lib.hid Nr
  have Flo := Lib.hid Nlo
  have Fhi := Lib.hid Nhi
  have Fx := Lib.hid Nx
  have BW := Lib.hid NB
  clear NB Narr Nm Nr Nlo Nhi Nx
  clear Flo
  clear Fhi
  try simp only [List.append_eq, List.cons_append, List.nil_append]
  refine wp_region_noPanic ?_
  refine wp_region_held_drew (S := fun w' => At w' garr 36 #[.int .u64 (wd X 0 : Nat), .int .u64 (wd X 1 : Nat), .int .u64 (wd X 2 : Nat), .int .u64 (wd X 3 : Nat), .int .u64 (wd Y 0 : Nat), .int .u64 (wd Y 1 : Nat), .int .u64 (wd Y 2 : Nat), .int .u64 (wd Y 3 : Nat), .int .u64 (wd V 0 : Nat), .int .u64 (wd V 1 : Nat), .int .u64 (wd V 2 : Nat), .int .u64 (wd V 3 : Nat)]) (by kernel_rfl) (Farr.out.drew) (fun _ => ?_)
  refine wpAnyH_cores (fuel := 2) (⟨0, 58, [], Kind.val (.pointer (some ⟨garr, 8, none⟩)), true⟩ :: ⟨1, 59, [0], Kind.val (.agg #[.int .u64 (wd V 0 : Nat), .int .u64 (wd V 1 : Nat), .int .u64 (wd V 2 : Nat), .int .u64 (wd V 3 : Nat)]), true⟩ :: ⟨2, 60, [], Kind.val (.agg #[.int .u64 (wd Z 0 : Nat), .int .u64 (wd Z 1 : Nat), .int .u64 (wd Z 2 : Nat), .int .u64 (wd Z 3 : Nat)]), false⟩ :: ⟨3, 61, [], Kind.val (.agg #[.int .u64 (wd X 0 : Nat), .int .u64 (wd X 1 : Nat), .int .u64 (wd X 2 : Nat), .int .u64 (wd X 3 : Nat)]), false⟩ :: ⟨4, 62, [1, 2, 3], Kind.val (.tuple #[.agg #[.int .u64 (wd r 0 : Nat), .int .u64 (wd r 1 : Nat), .int .u64 (wd r 2 : Nat), .int .u64 (wd r 3 : Nat)], .int .i64 0]), false⟩ :: ⟨5, 57, [4], Kind.val (.tuple #[.agg #[.int .u64 (wd r 0 : Nat), .int .u64 (wd r 1 : Nat), .int .u64 (wd r 2 : Nat), .int .u64 (wd r 3 : Nat)], .int .i64 0]), true⟩ :: ⟨6, 63, [5], Kind.val (.agg #[.int .u64 (wd r 0 : Nat), .int .u64 (wd r 1 : Nat), .int .u64 (wd r 2 : Nat), .int .u64 (wd r 3 : Nat)]), true⟩ :: ⟨7, 64, [5], Kind.val (.int .i64 0), true⟩ :: ⟨8, 12, [], Kind.cell W11.heap.size 24 #[.int .u64 0, .int .u64 0, .int .u64 0, .int .u64 0], false⟩ :: []) _ _ W11 _ ?_ ?_ ?_ ?_ ?_ ?_ ?_ ?_ ?_ ?_ ?_
  · rfl
  · kernel_rfl
  · exact of_decide_eq_true rfl
  · exact all_cons ⟨_, rfl, rfl⟩ (all_cons ⟨_, rfl, rfl⟩ (all_cons ⟨_, rfl, rfl⟩ (all_cons ⟨_, rfl, rfl⟩ (all_cons ⟨_, rfl, rfl⟩ (all_cons ⟨_, rfl, rfl⟩ (all_cons ⟨_, rfl, rfl⟩ (all_cons ⟨_, rfl, rfl⟩ (all_cons ⟨_, rfl, rfl⟩ (all_nil)))))))))
  · exact fun _ hb => Farr.out.on hb
  · exact (Below.refl _ _).drew
  · kernel_rfl
  · exact fun _ _ _ _ _ h => h
  · refine all_cons ?_ (all_cons ?_ (all_cons ?_ (all_cons ?_ (all_cons ?_ (all_cons ?_ (all_cons ?_ (all_cons ?_ (all_cons ?_ (all_nil)))))))))
    · exact coreG_pure _ _ _ _ _ _ _ (by rfl) (by rfl) wants_none (fun vs w hl hp w' _ => index2_run _ _ _ _ _ _ _ w' garr ((show Known _ _ [] (.tmp 1) (.pointer (some ⟨garr, 0, none⟩)) from known_old 1 _ (of_decide_eq_true (by rfl)) (by rfl)) vs w hl (fun _ h => by cases h)) rfl)
    · exact coreG_pure _ _ _ _ _ _ _ (by rfl) (by rfl) wants_none (fun vs w hl hp w' hs => load8_run _ _ _ _ _ _ _ w' garr _ _ _ _ _ _ _ _ _ _ _ _ ((show Known _ _ [0] (.tmp 58) (.pointer (some ⟨garr, 8, none⟩)) from known_core 0 58 _ _ (of_decide_eq_true (by rfl)) (by rfl) (by rfl) (by rfl)) vs w hl hp) hs)
    · exact core_pureAs _ (by rfl)
    · exact core_pureAs _ (by rfl)
    · exact core_pureAs _ (by rfl)
    · exact core_move _ _ _ _ _ _ (by rfl) (by rfl) (known_core 4 62 _ _ (of_decide_eq_true (by rfl)) (by rfl) (by rfl) (by rfl))
    · exact core_extract _ _ 0 _ _ _ _ _ (by rfl) (by rfl) (known_core 5 57 _ _ (of_decide_eq_true (by rfl)) (by rfl) (by rfl) (by rfl)) (by rfl)
    · exact core_extract _ _ 1 _ _ _ _ _ (by rfl) (by rfl) (known_core 5 57 _ _ (of_decide_eq_true (by rfl)) (by rfl) (by rfl) (by rfl)) (by rfl)
    · exact core_pureAs _ (by rfl)
  · refine all_cons ?_ (all_cons ?_ (all_cons ?_ (all_cons ?_ (all_cons ?_ (all_cons ?_ (all_cons ?_ (all_cons ?_ (all_cons ?_ (all_nil)))))))))
    · exact core_stepAs _ (by rfl)
    · exact core_stepAs _ (by rfl)
    · exact fun _ => core_call _ 36 _ _ [.const (.int .u64 0)] _ _ _ _ _ _ (by rfl) Try.func36 (by kernel_rfl) (by rfl) (by rfl) (.cons (known_const _) .nil) (HO.out)
    · exact fun _ => core_load _ _ _ _ _ gm _ _ _ _ (by rfl) (by rfl) (known_old 3 _ (of_decide_eq_true (by rfl)) (by rfl)) Fm.out
    · exact fun _ => core_call _ 32 _ _ [.tmp 59, .tmp 60, .tmp 61] _ _ _ _ _ _ (by rfl) Try.func32 (by kernel_rfl) (by rfl) (by rfl) (.cons (known_core 1 59 _ _ (of_decide_eq_true (by rfl)) (by rfl) (by rfl) (by rfl)) (.cons (known_core 2 60 _ _ (of_decide_eq_true (by rfl)) (by rfl) (by rfl) (by rfl)) (.cons (known_core 3 61 _ _ (of_decide_eq_true (by rfl)) (by rfl) (by rfl) (by rfl)) .nil))) (HW2.out)
    · exact core_stepAs _ (by rfl)
    · exact core_stepAs _ (by rfl)
    · exact core_stepAs _ (by rfl)
    · exact fun _ => core_alloc _ _ _ _ _ (by rfl) (by rfl) (Nat.le_refl _)
  intro vs y12 hc
  obtain ⟨vv0, vv1, vv2, vv3, vv4, vv5, vv6, vv7, vv8, rfl⟩ := len9 vs hc.lv
  have qq0 : vv0 = .pointer (some ⟨garr, 8, none⟩) := by obtain ⟨xx, hx, hy⟩ := hc.ok 0 _ rfl rfl; exact (Option.some.inj (show some vv0 = some xx from hx)).trans hy
  have qq1 : vv1 = .agg #[.int .u64 (wd V 0 : Nat), .int .u64 (wd V 1 : Nat), .int .u64 (wd V 2 : Nat), .int .u64 (wd V 3 : Nat)] := by obtain ⟨xx, hx, hy⟩ := hc.ok 1 _ rfl rfl; exact (Option.some.inj (show some vv1 = some xx from hx)).trans hy
  have qq2 : vv2 = .agg #[.int .u64 (wd Z 0 : Nat), .int .u64 (wd Z 1 : Nat), .int .u64 (wd Z 2 : Nat), .int .u64 (wd Z 3 : Nat)] := by obtain ⟨xx, hx, hy⟩ := hc.ok 2 _ rfl rfl; exact (Option.some.inj (show some vv2 = some xx from hx)).trans hy
  have qq3 : vv3 = .agg #[.int .u64 (wd X 0 : Nat), .int .u64 (wd X 1 : Nat), .int .u64 (wd X 2 : Nat), .int .u64 (wd X 3 : Nat)] := by obtain ⟨xx, hx, hy⟩ := hc.ok 3 _ rfl rfl; exact (Option.some.inj (show some vv3 = some xx from hx)).trans hy
  have qq4 : vv4 = .tuple #[.agg #[.int .u64 (wd r 0 : Nat), .int .u64 (wd r 1 : Nat), .int .u64 (wd r 2 : Nat), .int .u64 (wd r 3 : Nat)], .int .i64 0] := by obtain ⟨xx, hx, hy⟩ := hc.ok 4 _ rfl rfl; exact (Option.some.inj (show some vv4 = some xx from hx)).trans hy
  have qq5 : vv5 = .tuple #[.agg #[.int .u64 (wd r 0 : Nat), .int .u64 (wd r 1 : Nat), .int .u64 (wd r 2 : Nat), .int .u64 (wd r 3 : Nat)], .int .i64 0] := by obtain ⟨xx, hx, hy⟩ := hc.ok 5 _ rfl rfl; exact (Option.some.inj (show some vv5 = some xx from hx)).trans hy
  have qq6 : vv6 = .agg #[.int .u64 (wd r 0 : Nat), .int .u64 (wd r 1 : Nat), .int .u64 (wd r 2 : Nat), .int .u64 (wd r 3 : Nat)] := by obtain ⟨xx, hx, hy⟩ := hc.ok 6 _ rfl rfl; exact (Option.some.inj (show some vv6 = some xx from hx)).trans hy
  have qq7 : vv7 = .int .i64 0 := by obtain ⟨xx, hx, hy⟩ := hc.ok 7 _ rfl rfl; exact (Option.some.inj (show some vv7 = some xx from hx)).trans hy
  obtain ⟨xx, hx, gy, hv, Ey, Ay⟩ := hc.ok 8 _ rfl rfl
  have qq8 : vv8 = .pointer (some ⟨gy, 0, none⟩) := (Option.some.inj (show some vv8 = some xx from hx)).trans hv
  clear hx hv
  have BZ := hc.bel
  clear hc
  have Narr := Farr.out.on BZ
  have Nm := Fm.out.on BZ
  have Nr := Fr.out.on BZ
  have Nx := Fx.out.on BZ
  have Darry : garr ≠ gy := by have := Farr.out.lt; omega
  have Dmy : gm ≠ gy := by have := Fm.out.lt; omega
  have Dry : gr ≠ gy := by have := Fr.out.lt; omega
  have Dxy : gx ≠ gy := by have := Fx.out.lt; omega
  have HSZ12 := BW.out.size
  have NB := bel_tr BW.out BZ
  clear BW BZ Farr Fm Fr Fx
  subst qq0 qq1 qq2 qq3 qq4 qq5 qq6 qq7 qq8
  simp only [List.map_cons, List.map_nil, over, Act.put, List.setIfInBounds_toArray, List.set_cons_zero, List.set_cons_succ]
  have OLD := Ay
  replace Narr := put4_far Narr Darry (.int .u64 (wd r 0 : Nat)) (.int .u64 (wd r 1 : Nat)) (.int .u64 (wd r 2 : Nat)) (.int .u64 (wd r 3 : Nat))
  replace Nm := put4_far Nm Dmy (.int .u64 (wd r 0 : Nat)) (.int .u64 (wd r 1 : Nat)) (.int .u64 (wd r 2 : Nat)) (.int .u64 (wd r 3 : Nat))
  replace Nr := put4_far Nr Dry (.int .u64 (wd r 0 : Nat)) (.int .u64 (wd r 1 : Nat)) (.int .u64 (wd r 2 : Nat)) (.int .u64 (wd r 3 : Nat))
  replace Nx := put4_far Nx Dxy (.int .u64 (wd r 0 : Nat)) (.int .u64 (wd r 1 : Nat)) (.int .u64 (wd r 2 : Nat)) (.int .u64 (wd r 3 : Nat))
  replace Ay := put4_at Ay (.int .u64 (wd r 0 : Nat)) (.int .u64 (wd r 1 : Nat)) (.int .u64 (wd r 2 : Nat)) (.int .u64 (wd r 3 : Nat))
  replace NB := put4_below NB (Nat.le_trans HSZ12 Ey) (.int .u64 (wd r 0 : Nat)) (.int .u64 (wd r 1 : Nat)) (.int .u64 (wd r 2 : Nat)) (.int .u64 (wd r 3 : Nat))
  refine store_one (i := 9) _ _ _ _ _ gy _ _ _ _ _ _ _ _ (by kernel_rfl) (by rfl) (by rfl) (by rfl) OLD (Narr) ?_
  clear OLD
  generalize (put4 y12 gy (.int .u64 (wd r 0 : Nat)) (.int .u64 (wd r 1 : Nat)) (.int .u64 (wd r 2 : Nat)) (.int .u64 (wd r 3 : Nat))) = y12_9 at *
  refine assign_one (i := 10) _ 13 _ _ _ _ (by kernel_rfl) (by rfl) (by rfl) (Narr) ?_
  try simp only [Act.put, List.setIfInBounds_toArray, List.set_cons_zero, List.set_cons_succ]
  refine wpAnyH_done (by kernel_rfl) ?_ _
  refine NoPanic.normal ?_
  have Farr := Lib.hid Narr
  have Fm := Lib.hid Nm
  have Fr := Lib.hid Nr
  have Fx := Lib.hid Nx
  have Fy := Lib.hid Ay
  have BW := Lib.hid NB
  clear NB Narr Nm Nr Nx Ay
  clear Ey
  clear HSZ12
  go_wp2_with fail
  try simp only [List.append_eq, List.cons_append, List.nil_append]
  refine wp_region_noPanic ?_
  refine wp_region_held_drew (S := fun w' => True) (by kernel_rfl) (trivial) (fun _ => ?_)
  refine wpAnyH_cores (fuel := 2) (⟨0, 66, [], Kind.val (.agg #[.int .u64 (wd Z 0 : Nat), .int .u64 (wd Z 1 : Nat), .int .u64 (wd Z 2 : Nat), .int .u64 (wd Z 3 : Nat)]), false⟩ :: ⟨1, 67, [], Kind.val (.agg #[.int .u64 (wd X 0 : Nat), .int .u64 (wd X 1 : Nat), .int .u64 (wd X 2 : Nat), .int .u64 (wd X 3 : Nat)]), false⟩ :: ⟨2, 68, [], Kind.val (.agg #[.int .u64 (wd X 0 : Nat), .int .u64 (wd X 1 : Nat), .int .u64 (wd X 2 : Nat), .int .u64 (wd X 3 : Nat)]), false⟩ :: ⟨3, 69, [0, 1, 2], Kind.val (.tuple #[.agg #[.int .u64 (wd Z 0 : Nat), .int .u64 (wd Z 1 : Nat), .int .u64 (wd Z 2 : Nat), .int .u64 (wd Z 3 : Nat)], .int .i64 0]), false⟩ :: ⟨4, 65, [3], Kind.val (.tuple #[.agg #[.int .u64 (wd Z 0 : Nat), .int .u64 (wd Z 1 : Nat), .int .u64 (wd Z 2 : Nat), .int .u64 (wd Z 3 : Nat)], .int .i64 0]), true⟩ :: ⟨5, 70, [4], Kind.val (.agg #[.int .u64 (wd Z 0 : Nat), .int .u64 (wd Z 1 : Nat), .int .u64 (wd Z 2 : Nat), .int .u64 (wd Z 3 : Nat)]), true⟩ :: ⟨6, 71, [4], Kind.val (.int .i64 0), true⟩ :: ⟨7, 14, [], Kind.cell y12_9.heap.size 24 #[.int .u64 0, .int .u64 0, .int .u64 0, .int .u64 0], false⟩ :: []) _ _ y12_9 _ ?_ ?_ ?_ ?_ ?_ ?_ ?_ ?_ ?_ ?_ ?_
  · rfl
  · kernel_rfl
  · exact of_decide_eq_true rfl
  · exact all_cons ⟨_, rfl, rfl⟩ (all_cons ⟨_, rfl, rfl⟩ (all_cons ⟨_, rfl, rfl⟩ (all_cons ⟨_, rfl, rfl⟩ (all_cons ⟨_, rfl, rfl⟩ (all_cons ⟨_, rfl, rfl⟩ (all_cons ⟨_, rfl, rfl⟩ (all_cons ⟨_, rfl, rfl⟩ (all_nil))))))))
  · exact fun _ hb => trivial
  · exact (Below.refl _ _).drew
  · kernel_rfl
  · exact fun _ _ _ _ _ h => h
  · refine all_cons ?_ (all_cons ?_ (all_cons ?_ (all_cons ?_ (all_cons ?_ (all_cons ?_ (all_cons ?_ (all_cons ?_ (all_nil))))))))
    · exact core_pureAs _ (by rfl)
    · exact core_pureAs _ (by rfl)
    · exact core_pureAs _ (by rfl)
    · exact core_pureAs _ (by rfl)
    · exact core_move _ _ _ _ _ _ (by rfl) (by rfl) (known_core 3 69 _ _ (of_decide_eq_true (by rfl)) (by rfl) (by rfl) (by rfl))
    · exact core_extract _ _ 0 _ _ _ _ _ (by rfl) (by rfl) (known_core 4 65 _ _ (of_decide_eq_true (by rfl)) (by rfl) (by rfl) (by rfl)) (by rfl)
    · exact core_extract _ _ 1 _ _ _ _ _ (by rfl) (by rfl) (known_core 4 65 _ _ (of_decide_eq_true (by rfl)) (by rfl) (by rfl) (by rfl)) (by rfl)
    · exact core_pureAs _ (by rfl)
  · refine all_cons ?_ (all_cons ?_ (all_cons ?_ (all_cons ?_ (all_cons ?_ (all_cons ?_ (all_cons ?_ (all_cons ?_ (all_nil))))))))
    · exact fun _ => core_call _ 36 _ _ [.const (.int .u64 0)] _ _ _ _ _ _ (by rfl) Try.func36 (by kernel_rfl) (by rfl) (by rfl) (.cons (known_const _) .nil) (HO.out)
    · exact fun _ => core_load _ _ _ _ _ gm _ _ _ _ (by rfl) (by rfl) (known_old 3 _ (of_decide_eq_true (by rfl)) (by rfl)) Fm.out
    · exact fun _ => core_load _ _ _ _ _ gm _ _ _ _ (by rfl) (by rfl) (known_old 3 _ (of_decide_eq_true (by rfl)) (by rfl)) Fm.out
    · exact fun _ => core_call _ 32 _ _ [.tmp 66, .tmp 67, .tmp 68] _ _ _ _ _ _ (by rfl) Try.func32 (by kernel_rfl) (by rfl) (by rfl) (.cons (known_core 0 66 _ _ (of_decide_eq_true (by rfl)) (by rfl) (by rfl) (by rfl)) (.cons (known_core 1 67 _ _ (of_decide_eq_true (by rfl)) (by rfl) (by rfl) (by rfl)) (.cons (known_core 2 68 _ _ (of_decide_eq_true (by rfl)) (by rfl) (by rfl) (by rfl)) .nil))) (HW3.out)
    · exact core_stepAs _ (by rfl)
    · exact core_stepAs _ (by rfl)
    · exact core_stepAs _ (by rfl)
    · exact fun _ => core_alloc _ _ _ _ _ (by rfl) (by rfl) (Nat.le_refl _)
  intro vs y13 hc
  obtain ⟨vv0, vv1, vv2, vv3, vv4, vv5, vv6, vv7, rfl⟩ := len8 vs hc.lv
  have qq0 : vv0 = .agg #[.int .u64 (wd Z 0 : Nat), .int .u64 (wd Z 1 : Nat), .int .u64 (wd Z 2 : Nat), .int .u64 (wd Z 3 : Nat)] := by obtain ⟨xx, hx, hy⟩ := hc.ok 0 _ rfl rfl; exact (Option.some.inj (show some vv0 = some xx from hx)).trans hy
  have qq1 : vv1 = .agg #[.int .u64 (wd X 0 : Nat), .int .u64 (wd X 1 : Nat), .int .u64 (wd X 2 : Nat), .int .u64 (wd X 3 : Nat)] := by obtain ⟨xx, hx, hy⟩ := hc.ok 1 _ rfl rfl; exact (Option.some.inj (show some vv1 = some xx from hx)).trans hy
  have qq2 : vv2 = .agg #[.int .u64 (wd X 0 : Nat), .int .u64 (wd X 1 : Nat), .int .u64 (wd X 2 : Nat), .int .u64 (wd X 3 : Nat)] := by obtain ⟨xx, hx, hy⟩ := hc.ok 2 _ rfl rfl; exact (Option.some.inj (show some vv2 = some xx from hx)).trans hy
  have qq3 : vv3 = .tuple #[.agg #[.int .u64 (wd Z 0 : Nat), .int .u64 (wd Z 1 : Nat), .int .u64 (wd Z 2 : Nat), .int .u64 (wd Z 3 : Nat)], .int .i64 0] := by obtain ⟨xx, hx, hy⟩ := hc.ok 3 _ rfl rfl; exact (Option.some.inj (show some vv3 = some xx from hx)).trans hy
  have qq4 : vv4 = .tuple #[.agg #[.int .u64 (wd Z 0 : Nat), .int .u64 (wd Z 1 : Nat), .int .u64 (wd Z 2 : Nat), .int .u64 (wd Z 3 : Nat)], .int .i64 0] := by obtain ⟨xx, hx, hy⟩ := hc.ok 4 _ rfl rfl; exact (Option.some.inj (show some vv4 = some xx from hx)).trans hy
  have qq5 : vv5 = .agg #[.int .u64 (wd Z 0 : Nat), .int .u64 (wd Z 1 : Nat), .int .u64 (wd Z 2 : Nat), .int .u64 (wd Z 3 : Nat)] := by obtain ⟨xx, hx, hy⟩ := hc.ok 5 _ rfl rfl; exact (Option.some.inj (show some vv5 = some xx from hx)).trans hy
  have qq6 : vv6 = .int .i64 0 := by obtain ⟨xx, hx, hy⟩ := hc.ok 6 _ rfl rfl; exact (Option.some.inj (show some vv6 = some xx from hx)).trans hy
  obtain ⟨xx, hx, gz, hv, Ez, Az⟩ := hc.ok 7 _ rfl rfl
  have qq7 : vv7 = .pointer (some ⟨gz, 0, none⟩) := (Option.some.inj (show some vv7 = some xx from hx)).trans hv
  clear hx hv
  have BZ := hc.bel
  clear hc
  have Narr := Farr.out.on BZ
  have Nm := Fm.out.on BZ
  have Nr := Fr.out.on BZ
  have Nx := Fx.out.on BZ
  have Ny := Fy.out.on BZ
  have Darrz : garr ≠ gz := by have := Farr.out.lt; omega
  have Dmz : gm ≠ gz := by have := Fm.out.lt; omega
  have Drz : gr ≠ gz := by have := Fr.out.lt; omega
  have Dxz : gx ≠ gz := by have := Fx.out.lt; omega
  have Dyz : gy ≠ gz := by have := Fy.out.lt; omega
  have HSZ13 := BW.out.size
  have NB := bel_tr BW.out BZ
  clear BW BZ Farr Fm Fr Fx Fy
  subst qq0 qq1 qq2 qq3 qq4 qq5 qq6 qq7
  simp only [List.map_cons, List.map_nil, over, Act.put, List.setIfInBounds_toArray, List.set_cons_zero, List.set_cons_succ]
  have OLD := Az
  replace Narr := put4_far Narr Darrz (.int .u64 (wd Z 0 : Nat)) (.int .u64 (wd Z 1 : Nat)) (.int .u64 (wd Z 2 : Nat)) (.int .u64 (wd Z 3 : Nat))
  replace Nm := put4_far Nm Dmz (.int .u64 (wd Z 0 : Nat)) (.int .u64 (wd Z 1 : Nat)) (.int .u64 (wd Z 2 : Nat)) (.int .u64 (wd Z 3 : Nat))
  replace Nr := put4_far Nr Drz (.int .u64 (wd Z 0 : Nat)) (.int .u64 (wd Z 1 : Nat)) (.int .u64 (wd Z 2 : Nat)) (.int .u64 (wd Z 3 : Nat))
  replace Nx := put4_far Nx Dxz (.int .u64 (wd Z 0 : Nat)) (.int .u64 (wd Z 1 : Nat)) (.int .u64 (wd Z 2 : Nat)) (.int .u64 (wd Z 3 : Nat))
  replace Ny := put4_far Ny Dyz (.int .u64 (wd Z 0 : Nat)) (.int .u64 (wd Z 1 : Nat)) (.int .u64 (wd Z 2 : Nat)) (.int .u64 (wd Z 3 : Nat))
  replace Az := put4_at Az (.int .u64 (wd Z 0 : Nat)) (.int .u64 (wd Z 1 : Nat)) (.int .u64 (wd Z 2 : Nat)) (.int .u64 (wd Z 3 : Nat))
  replace NB := put4_below NB (Nat.le_trans HSZ13 Ez) (.int .u64 (wd Z 0 : Nat)) (.int .u64 (wd Z 1 : Nat)) (.int .u64 (wd Z 2 : Nat)) (.int .u64 (wd Z 3 : Nat))
  refine store_one (i := 8) _ _ _ _ _ gz _ _ _ _ _ _ _ _ (by kernel_rfl) (by rfl) (by rfl) (by rfl) OLD (trivial) ?_
  clear OLD
  generalize (put4 y13 gz (.int .u64 (wd Z 0 : Nat)) (.int .u64 (wd Z 1 : Nat)) (.int .u64 (wd Z 2 : Nat)) (.int .u64 (wd Z 3 : Nat))) = y13_8 at *
  refine assign_one (i := 9) _ 15 _ _ _ _ (by kernel_rfl) (by rfl) (by rfl) (trivial) ?_
  try simp only [Act.put, List.setIfInBounds_toArray, List.set_cons_zero, List.set_cons_succ]
  refine wpAnyH_done (by kernel_rfl) ?_ _
  refine NoPanic.normal ?_
  have Farr := Lib.hid Narr
  have Fm := Lib.hid Nm
  have Fr := Lib.hid Nr
  have Fx := Lib.hid Nx
  have Fy := Lib.hid Ny
  have Fz := Lib.hid Az
  have BW := Lib.hid NB
  clear NB Narr Nm Nr Nx Ny Az
  clear Ez
  clear HSZ13
  go_wp2_with fail
  clear Farr
  clear Fm
  try simp only [List.append_eq, List.cons_append, List.nil_append]
  refine wp_region_noPanic ?_
  refine wp_region_held_drew (S := fun w' => At w' gx 24 #[.int .u64 (wd r 0 : Nat), .int .u64 (wd r 1 : Nat), .int .u64 (wd r 2 : Nat), .int .u64 (wd r 3 : Nat)] ∧ At w' gr 24 #[.int .u64 (wd r 0 : Nat), .int .u64 (wd r 1 : Nat), .int .u64 (wd r 2 : Nat), .int .u64 (wd r 3 : Nat)] ∧ At w' gy 24 #[.int .u64 (wd r 0 : Nat), .int .u64 (wd r 1 : Nat), .int .u64 (wd r 2 : Nat), .int .u64 (wd r 3 : Nat)] ∧ At w' gz 24 #[.int .u64 (wd Z 0 : Nat), .int .u64 (wd Z 1 : Nat), .int .u64 (wd Z 2 : Nat), .int .u64 (wd Z 3 : Nat)]) (by kernel_rfl) (⟨Fx.out.drew, Fr.out.drew, Fy.out.drew, Fz.out.drew⟩) (fun _ => ?_)
  refine wpAnyH_cores (fuel := 1) (⟨0, 72, [], Kind.val (.bool true), false⟩ :: ⟨1, 73, [0], Kind.val (.bool true), true⟩ :: ⟨2, 74, [1], Kind.val (.int .i64 0), true⟩ :: ⟨3, 75, [1, 2], Kind.val (.bool true), true⟩ :: ⟨4, 76, [1, 3], Kind.val (.bool true), true⟩ :: ⟨5, 77, [4], Kind.val (.bool true), true⟩ :: ⟨6, 78, [5], Kind.val (.int .i64 0), true⟩ :: ⟨7, 79, [5, 6], Kind.val (.bool true), true⟩ :: ⟨8, 80, [5, 7], Kind.val (.bool true), true⟩ :: ⟨9, 81, [8], Kind.val (.bool true), true⟩ :: ⟨10, 82, [9], Kind.val (.agg #[.int .u64 (wd r 0 : Nat), .int .u64 (wd r 1 : Nat), .int .u64 (wd r 2 : Nat), .int .u64 (wd r 3 : Nat)]), true⟩ :: ⟨11, 83, [9, 10], Kind.val (.agg #[.int .u64 (wd r 0 : Nat), .int .u64 (wd r 1 : Nat), .int .u64 (wd r 2 : Nat), .int .u64 (wd r 3 : Nat)]), true⟩ :: ⟨12, 84, [9, 10, 11], Kind.val (.bool true), true⟩ :: ⟨13, 85, [9, 12], Kind.val (.bool true), true⟩ :: ⟨14, 86, [13], Kind.val (.bool true), true⟩ :: ⟨15, 87, [14], Kind.val (.int .i64 0), true⟩ :: ⟨16, 88, [14, 15], Kind.val (.bool true), true⟩ :: ⟨17, 89, [14, 16], Kind.val (.bool true), true⟩ :: ⟨18, 90, [17], Kind.val (.bool true), true⟩ :: ⟨19, 91, [18], Kind.val (.agg #[.int .u64 (wd r 0 : Nat), .int .u64 (wd r 1 : Nat), .int .u64 (wd r 2 : Nat), .int .u64 (wd r 3 : Nat)]), true⟩ :: ⟨20, 92, [18, 19], Kind.val (.agg #[.int .u64 (wd r 0 : Nat), .int .u64 (wd r 1 : Nat), .int .u64 (wd r 2 : Nat), .int .u64 (wd r 3 : Nat)]), true⟩ :: ⟨21, 93, [18, 19, 20], Kind.val (.bool true), true⟩ :: ⟨22, 94, [18, 21], Kind.val (.bool true), true⟩ :: ⟨23, 95, [22], Kind.val (.bool true), true⟩ :: ⟨24, 96, [23], Kind.val (.int .i64 0), true⟩ :: ⟨25, 97, [23, 24], Kind.val (.bool true), true⟩ :: ⟨26, 98, [23, 25], Kind.val (.bool true), true⟩ :: ⟨27, 99, [26], Kind.val (.bool true), true⟩ :: ⟨28, 100, [27], Kind.val (.agg #[.int .u64 (wd Z 0 : Nat), .int .u64 (wd Z 1 : Nat), .int .u64 (wd Z 2 : Nat), .int .u64 (wd Z 3 : Nat)]), true⟩ :: ⟨29, 101, [27, 28], Kind.val (.agg #[.int .u64 (wd Z 0 : Nat), .int .u64 (wd Z 1 : Nat), .int .u64 (wd Z 2 : Nat), .int .u64 (wd Z 3 : Nat)]), false⟩ :: ⟨30, 102, [27, 28, 29], Kind.val (.bool true), true⟩ :: ⟨31, 103, [27, 30], Kind.val (.bool true), true⟩ :: []) _ _ y13_8 _ ?_ ?_ ?_ ?_ ?_ ?_ ?_ ?_ ?_ ?_ ?_
  · rfl
  · kernel_rfl
  · exact of_decide_eq_true (by kernel_rfl)
  · exact all_cons ⟨_, by rfl, by rfl⟩ (all_cons ⟨_, by rfl, by rfl⟩ (all_cons ⟨_, by rfl, by rfl⟩ (all_cons ⟨_, by rfl, by rfl⟩ (all_cons ⟨_, by rfl, by rfl⟩ (all_cons ⟨_, by rfl, by rfl⟩ (all_cons ⟨_, by rfl, by rfl⟩ (all_cons ⟨_, by rfl, by rfl⟩ (all_cons ⟨_, by rfl, by rfl⟩ (all_cons ⟨_, by rfl, by rfl⟩ (all_cons ⟨_, by rfl, by rfl⟩ (all_cons ⟨_, by rfl, by rfl⟩ (all_cons ⟨_, by rfl, by rfl⟩ (all_cons ⟨_, by rfl, by rfl⟩ (all_cons ⟨_, by rfl, by rfl⟩ (all_cons ⟨_, by rfl, by rfl⟩ (all_cons ⟨_, by rfl, by rfl⟩ (all_cons ⟨_, by rfl, by rfl⟩ (all_cons ⟨_, by rfl, by rfl⟩ (all_cons ⟨_, by rfl, by rfl⟩ (all_cons ⟨_, by rfl, by rfl⟩ (all_cons ⟨_, by rfl, by rfl⟩ (all_cons ⟨_, by rfl, by rfl⟩ (all_cons ⟨_, by rfl, by rfl⟩ (all_cons ⟨_, by rfl, by rfl⟩ (all_cons ⟨_, by rfl, by rfl⟩ (all_cons ⟨_, by rfl, by rfl⟩ (all_cons ⟨_, by rfl, by rfl⟩ (all_cons ⟨_, by rfl, by rfl⟩ (all_cons ⟨_, by rfl, by rfl⟩ (all_cons ⟨_, by rfl, by rfl⟩ (all_cons ⟨_, by rfl, by rfl⟩ (all_nil))))))))))))))))))))))))))))))))
  · exact fun _ hb => ⟨Fx.out.on hb, Fr.out.on hb, Fy.out.on hb, Fz.out.on hb⟩
  · exact (Below.refl _ _).drew
  · kernel_rfl
  · exact fun _ _ _ _ _ h => h
  · refine all_cons ?_ (all_cons ?_ (all_cons ?_ (all_cons ?_ (all_cons ?_ (all_cons ?_ (all_cons ?_ (all_cons ?_ (all_cons ?_ (all_cons ?_ (all_cons ?_ (all_cons ?_ (all_cons ?_ (all_cons ?_ (all_cons ?_ (all_cons ?_ (all_cons ?_ (all_cons ?_ (all_cons ?_ (all_cons ?_ (all_cons ?_ (all_cons ?_ (all_cons ?_ (all_cons ?_ (all_cons ?_ (all_cons ?_ (all_cons ?_ (all_cons ?_ (all_cons ?_ (all_cons ?_ (all_cons ?_ (all_cons ?_ (all_nil))))))))))))))))))))))))))))))))
    · exact core_pureAs _ (by rfl)
    · exact coreG_move _ _ _ _ _ _ _ (by rfl) (by rfl) (wants_none) (known_core 0 72 _ _ (of_decide_eq_true (by rfl)) (by rfl) (by rfl) (by rfl))
    · exact coreG_move _ _ _ _ _ _ _ (by rfl) (by rfl) (wants_core 1 73 1 _ _ _ (by rfl) (by rfl) (by rfl) (known_core 1 73 _ _ (of_decide_eq_true (by rfl)) (by rfl) (by rfl) (by rfl)) _ (by rfl)) (known_old 6 _ (of_decide_eq_true (by rfl)) (by rfl))
    · exact coreG_bin _ _ _ _ _ _ _ _ _ _ _ _ _ (by rfl) (by rfl) (wants_core 1 73 1 _ _ _ (by rfl) (by rfl) (by rfl) (known_core 1 73 _ _ (of_decide_eq_true (by rfl)) (by rfl) (by rfl) (by rfl)) _ (by rfl)) (known_core 2 74 _ _ (of_decide_eq_true (by rfl)) (by rfl) (by rfl) (by rfl)) (known_const _) ((fun ρ w hx hy => by simp only [execOp, hx, hy]; simp [go_sem]))
    · exact coreG_pick _ _ _ _ _ _ _ _ _ _ _ _ (by rfl) (by rfl) (wants_none) (known_core 1 73 _ _ (of_decide_eq_true (by rfl)) (by rfl) (by rfl) (by rfl)) (known_core 3 75 _ _ (of_decide_eq_true (by rfl)) (by rfl) (by rfl) (by rfl)) (known_const _) (by rfl)
    · exact coreG_move _ _ _ _ _ _ _ (by rfl) (by rfl) (wants_none) (known_core 4 76 _ _ (of_decide_eq_true (by rfl)) (by rfl) (by rfl) (by rfl))
    · exact coreG_move _ _ _ _ _ _ _ (by rfl) (by rfl) (wants_core 5 77 5 _ _ _ (by rfl) (by rfl) (by rfl) (known_core 5 77 _ _ (of_decide_eq_true (by rfl)) (by rfl) (by rfl) (by rfl)) _ (by rfl)) (known_old 11 _ (of_decide_eq_true (by rfl)) (by rfl))
    · exact coreG_bin _ _ _ _ _ _ _ _ _ _ _ _ _ (by rfl) (by rfl) (wants_core 5 77 5 _ _ _ (by rfl) (by rfl) (by rfl) (known_core 5 77 _ _ (of_decide_eq_true (by rfl)) (by rfl) (by rfl) (by rfl)) _ (by rfl)) (known_core 6 78 _ _ (of_decide_eq_true (by rfl)) (by rfl) (by rfl) (by rfl)) (known_const _) ((fun ρ w hx hy => by simp only [execOp, hx, hy]; simp [go_sem]))
    · exact coreG_pick _ _ _ _ _ _ _ _ _ _ _ _ (by rfl) (by rfl) (wants_none) (known_core 5 77 _ _ (of_decide_eq_true (by rfl)) (by rfl) (by rfl) (by rfl)) (known_core 7 79 _ _ (of_decide_eq_true (by rfl)) (by rfl) (by rfl) (by rfl)) (known_const _) (by rfl)
    · exact coreG_move _ _ _ _ _ _ _ (by rfl) (by rfl) (wants_none) (known_core 8 80 _ _ (of_decide_eq_true (by rfl)) (by rfl) (by rfl) (by rfl))
    · exact coreG_loadP _ _ _ _ _ _ gx _ _ _ _ (by rfl) (by rfl) (wants_core 9 81 9 _ _ _ (by rfl) (by rfl) (by rfl) (known_core 9 81 _ _ (of_decide_eq_true (by rfl)) (by rfl) (by rfl) (by rfl)) _ (by rfl)) (known_old 10 _ (of_decide_eq_true (by rfl)) (by rfl)) (fun _ hs => hs.1)
    · exact coreG_loadP _ _ _ _ _ _ gr _ _ _ _ (by rfl) (by rfl) (wants_core 9 81 9 _ _ _ (by rfl) (by rfl) (by rfl) (known_core 9 81 _ _ (of_decide_eq_true (by rfl)) (by rfl) (by rfl) (by rfl)) _ (by rfl)) (known_old 5 _ (of_decide_eq_true (by rfl)) (by rfl)) (fun _ hs => hs.2.1)
    · exact coreG_bin _ _ _ _ _ _ _ _ _ _ _ _ _ (by rfl) (by rfl) (wants_core 9 81 9 _ _ _ (by rfl) (by rfl) (by rfl) (known_core 9 81 _ _ (of_decide_eq_true (by rfl)) (by rfl) (by rfl) (by rfl)) _ (by rfl)) (known_core 10 82 _ _ (of_decide_eq_true (by rfl)) (by rfl) (by rfl) (by rfl)) (known_core 11 83 _ _ (of_decide_eq_true (by rfl)) (by rfl) (by rfl) (by rfl)) (eql_run true _ _ _ _ _ _ _ _ _ _ _ _ _ _ _ (eqY r))
    · exact coreG_pick _ _ _ _ _ _ _ _ _ _ _ _ (by rfl) (by rfl) (wants_none) (known_core 9 81 _ _ (of_decide_eq_true (by rfl)) (by rfl) (by rfl) (by rfl)) (known_core 12 84 _ _ (of_decide_eq_true (by rfl)) (by rfl) (by rfl) (by rfl)) (known_const _) (by rfl)
    · exact coreG_move _ _ _ _ _ _ _ (by rfl) (by rfl) (wants_none) (known_core 13 85 _ _ (of_decide_eq_true (by rfl)) (by rfl) (by rfl) (by rfl))
    · exact coreG_move _ _ _ _ _ _ _ (by rfl) (by rfl) (wants_core 14 86 14 _ _ _ (by rfl) (by rfl) (by rfl) (known_core 14 86 _ _ (of_decide_eq_true (by rfl)) (by rfl) (by rfl) (by rfl)) _ (by rfl)) (known_old 13 _ (of_decide_eq_true (by rfl)) (by rfl))
    · exact coreG_bin _ _ _ _ _ _ _ _ _ _ _ _ _ (by rfl) (by rfl) (wants_core 14 86 14 _ _ _ (by rfl) (by rfl) (by rfl) (known_core 14 86 _ _ (of_decide_eq_true (by rfl)) (by rfl) (by rfl) (by rfl)) _ (by rfl)) (known_core 15 87 _ _ (of_decide_eq_true (by rfl)) (by rfl) (by rfl) (by rfl)) (known_const _) ((fun ρ w hx hy => by simp only [execOp, hx, hy]; simp [go_sem]))
    · exact coreG_pick _ _ _ _ _ _ _ _ _ _ _ _ (by rfl) (by rfl) (wants_none) (known_core 14 86 _ _ (of_decide_eq_true (by rfl)) (by rfl) (by rfl) (by rfl)) (known_core 16 88 _ _ (of_decide_eq_true (by rfl)) (by rfl) (by rfl) (by rfl)) (known_const _) (by rfl)
    · exact coreG_move _ _ _ _ _ _ _ (by rfl) (by rfl) (wants_none) (known_core 17 89 _ _ (of_decide_eq_true (by rfl)) (by rfl) (by rfl) (by rfl))
    · exact coreG_loadP _ _ _ _ _ _ gy _ _ _ _ (by rfl) (by rfl) (wants_core 18 90 18 _ _ _ (by rfl) (by rfl) (by rfl) (known_core 18 90 _ _ (of_decide_eq_true (by rfl)) (by rfl) (by rfl) (by rfl)) _ (by rfl)) (known_old 12 _ (of_decide_eq_true (by rfl)) (by rfl)) (fun _ hs => hs.2.2.1)
    · exact coreG_loadP _ _ _ _ _ _ gr _ _ _ _ (by rfl) (by rfl) (wants_core 18 90 18 _ _ _ (by rfl) (by rfl) (by rfl) (known_core 18 90 _ _ (of_decide_eq_true (by rfl)) (by rfl) (by rfl) (by rfl)) _ (by rfl)) (known_old 5 _ (of_decide_eq_true (by rfl)) (by rfl)) (fun _ hs => hs.2.1)
    · exact coreG_bin _ _ _ _ _ _ _ _ _ _ _ _ _ (by rfl) (by rfl) (wants_core 18 90 18 _ _ _ (by rfl) (by rfl) (by rfl) (known_core 18 90 _ _ (of_decide_eq_true (by rfl)) (by rfl) (by rfl) (by rfl)) _ (by rfl)) (known_core 19 91 _ _ (of_decide_eq_true (by rfl)) (by rfl) (by rfl) (by rfl)) (known_core 20 92 _ _ (of_decide_eq_true (by rfl)) (by rfl) (by rfl) (by rfl)) (eql_run true _ _ _ _ _ _ _ _ _ _ _ _ _ _ _ (eqY r))
    · exact coreG_pick _ _ _ _ _ _ _ _ _ _ _ _ (by rfl) (by rfl) (wants_none) (known_core 18 90 _ _ (of_decide_eq_true (by rfl)) (by rfl) (by rfl) (by rfl)) (known_core 21 93 _ _ (of_decide_eq_true (by rfl)) (by rfl) (by rfl) (by rfl)) (known_const _) (by rfl)
    · exact coreG_move _ _ _ _ _ _ _ (by rfl) (by rfl) (wants_none) (known_core 22 94 _ _ (of_decide_eq_true (by rfl)) (by rfl) (by rfl) (by rfl))
    · exact coreG_move _ _ _ _ _ _ _ (by rfl) (by rfl) (wants_core 23 95 23 _ _ _ (by rfl) (by rfl) (by rfl) (known_core 23 95 _ _ (of_decide_eq_true (by rfl)) (by rfl) (by rfl) (by rfl)) _ (by rfl)) (known_old 15 _ (of_decide_eq_true (by rfl)) (by rfl))
    · exact coreG_bin _ _ _ _ _ _ _ _ _ _ _ _ _ (by rfl) (by rfl) (wants_core 23 95 23 _ _ _ (by rfl) (by rfl) (by rfl) (known_core 23 95 _ _ (of_decide_eq_true (by rfl)) (by rfl) (by rfl) (by rfl)) _ (by rfl)) (known_core 24 96 _ _ (of_decide_eq_true (by rfl)) (by rfl) (by rfl) (by rfl)) (known_const _) ((fun ρ w hx hy => by simp only [execOp, hx, hy]; simp [go_sem]))
    · exact coreG_pick _ _ _ _ _ _ _ _ _ _ _ _ (by rfl) (by rfl) (wants_none) (known_core 23 95 _ _ (of_decide_eq_true (by rfl)) (by rfl) (by rfl) (by rfl)) (known_core 25 97 _ _ (of_decide_eq_true (by rfl)) (by rfl) (by rfl) (by rfl)) (known_const _) (by rfl)
    · exact coreG_move _ _ _ _ _ _ _ (by rfl) (by rfl) (wants_none) (known_core 26 98 _ _ (of_decide_eq_true (by rfl)) (by rfl) (by rfl) (by rfl))
    · exact coreG_loadP _ _ _ _ _ _ gz _ _ _ _ (by rfl) (by rfl) (wants_core 27 99 27 _ _ _ (by rfl) (by rfl) (by rfl) (known_core 27 99 _ _ (of_decide_eq_true (by rfl)) (by rfl) (by rfl) (by rfl)) _ (by rfl)) (known_old 14 _ (of_decide_eq_true (by rfl)) (by rfl)) (fun _ hs => hs.2.2.2)
    · exact core_pureAs _ (by rfl)
    · exact coreG_bin _ _ _ _ _ _ _ _ _ _ _ _ _ (by rfl) (by rfl) (wants_core 27 99 27 _ _ _ (by rfl) (by rfl) (by rfl) (known_core 27 99 _ _ (of_decide_eq_true (by rfl)) (by rfl) (by rfl) (by rfl)) _ (by rfl)) (known_core 28 100 _ _ (of_decide_eq_true (by rfl)) (by rfl) (by rfl) (by rfl)) (known_core 29 101 _ _ (of_decide_eq_true (by rfl)) (by rfl) (by rfl) (by rfl)) (eql_run true _ _ _ _ _ _ _ _ _ _ _ _ _ _ _ (eqY Z))
    · exact coreG_pick _ _ _ _ _ _ _ _ _ _ _ _ (by rfl) (by rfl) (wants_none) (known_core 27 99 _ _ (of_decide_eq_true (by rfl)) (by rfl) (by rfl) (by rfl)) (known_core 30 102 _ _ (of_decide_eq_true (by rfl)) (by rfl) (by rfl) (by rfl)) (known_const _) (by rfl)
  · refine all_cons ?_ (all_cons ?_ (all_cons ?_ (all_cons ?_ (all_cons ?_ (all_cons ?_ (all_cons ?_ (all_cons ?_ (all_cons ?_ (all_cons ?_ (all_cons ?_ (all_cons ?_ (all_cons ?_ (all_cons ?_ (all_cons ?_ (all_cons ?_ (all_cons ?_ (all_cons ?_ (all_cons ?_ (all_cons ?_ (all_cons ?_ (all_cons ?_ (all_cons ?_ (all_cons ?_ (all_cons ?_ (all_cons ?_ (all_cons ?_ (all_cons ?_ (all_cons ?_ (all_cons ?_ (all_cons ?_ (all_cons ?_ (all_nil))))))))))))))))))))))))))))))))
    · exact fun _ => coreG_call _ 37 _ _ [] _ _ _ _ _ _ _ (by rfl) Try.func37 (by kernel_rfl) (by rfl) (by rfl) (wants_none) .nil (alive3_any)
    · exact core_stepAs _ (by rfl)
    · exact core_stepAs _ (by rfl)
    · exact core_stepAs _ (by rfl)
    · exact core_stepAs _ (by rfl)
    · exact core_stepAs _ (by rfl)
    · exact core_stepAs _ (by rfl)
    · exact core_stepAs _ (by rfl)
    · exact core_stepAs _ (by rfl)
    · exact core_stepAs _ (by rfl)
    · exact core_stepAs _ (by rfl)
    · exact core_stepAs _ (by rfl)
    · exact core_stepAs _ (by rfl)
    · exact core_stepAs _ (by rfl)
    · exact core_stepAs _ (by rfl)
    · exact core_stepAs _ (by rfl)
    · exact core_stepAs _ (by rfl)
    · exact core_stepAs _ (by rfl)
    · exact core_stepAs _ (by rfl)
    · exact core_stepAs _ (by rfl)
    · exact core_stepAs _ (by rfl)
    · exact core_stepAs _ (by rfl)
    · exact core_stepAs _ (by rfl)
    · exact core_stepAs _ (by rfl)
    · exact core_stepAs _ (by rfl)
    · exact core_stepAs _ (by rfl)
    · exact core_stepAs _ (by rfl)
    · exact core_stepAs _ (by rfl)
    · exact core_stepAs _ (by rfl)
    · exact fun _ => coreG_call _ 36 _ _ [.const (.int .u64 0)] _ _ _ _ _ _ _ (by rfl) Try.func36 (by kernel_rfl) (by rfl) (by rfl) (wants_core 27 99 27 _ _ _ (by rfl) (by rfl) (by rfl) (known_core 27 99 _ _ (of_decide_eq_true (by rfl)) (by rfl) (by rfl) (by rfl)) _ (by rfl)) (.cons (known_const _) .nil) (HO.out)
    · exact core_stepAs _ (by rfl)
    · exact core_stepAs _ (by rfl)
  intro vs y14 hc
  have BZ := bel_tr BW.out hc.bel
  refine assign_one (i := 32) (.tmp 103) 2 _ _ _ (.bool true) (by kernel_rfl) (by rfl) (hc.at_ (of_decide_eq_true (by kernel_rfl)) (by rfl) 31 103 _ (.bool true) (by rfl) (by rfl) (by rfl)) (⟨Fx.out.on hc.bel, Fr.out.on hc.bel, Fy.out.on hc.bel, Fz.out.on hc.bel⟩) ?_
  refine wpAnyH_done (by kernel_rfl) ?_ _
  refine NoPanic.normal ?_
  generalize hA : Act.put (over _ _ vs) (some 2) (.bool true) = A
  have hA0 : A.tmps.getD 2 undef = .bool true := by rw [← hA]; exact put_at _ _ _ (by rw [over_size]; exact Nat.le_of_ble_eq_true rfl)
  have hAd : A.defers = [] := by rw [← hA, put_defers, over_defers]
  clear hA hc
  go_wp2_with fail
  refine bodyPost_ret (v := .bool true) (by simp [results, Try.results7, go_sem] at hA0 ⊢; simp [hA0]) hAd ⟨rfl, BZ⟩

set_option maxHeartbeats 2000000 in
theorem widelaw_walk (X Y V : Nat) (hX : X < 2 ^ 256) (hY : Y < 2 ^ 256) (hV : V < 2 ^ 256) (w : World) : Calls Try.prog 7 #[.agg #[.int .u64 (wd X 0 : Nat), .int .u64 (wd X 1 : Nat), .int .u64 (wd X 2 : Nat), .int .u64 (wd X 3 : Nat), .int .u64 (wd Y 0 : Nat), .int .u64 (wd Y 1 : Nat), .int .u64 (wd Y 2 : Nat), .int .u64 (wd Y 3 : Nat), .int .u64 (wd V 0 : Nat), .int .u64 (wd V 1 : Nat), .int .u64 (wd V 2 : Nat), .int .u64 (wd V 3 : Nat)]] w fun e w' => e = .returned (.bool true) ∧ Below w.heap.size w w' := by
  by_cases h0 : X = 0
  · subst h0
    exact widelaw_zero Y V 0 (ofL_any 0 (by omega)) w
  obtain ⟨q, r, hq, hr, e1, D⟩ := div_ex V X hV hX h0
  obtain ⟨L, H, hL, hH, e2, M⟩ := mul_ex X Y hX hY
  obtain ⟨S, more, hS, hm, e3, A⟩ := add_ex L r hL (by omega)
  obtain ⟨H2, c2, hH2, hc2, e4, A2⟩ := add_ex H more hH (by omega)
  have hb : X * Y + r < X * 2 ^ 256 := by
    have : X * (Y + 1) ≤ X * 2 ^ 256 := Nat.mul_le_mul_left X hY
    rw [Nat.mul_add] at this; omega
  have hb2 : X * 2 ^ 256 < 2 ^ 256 * 2 ^ 256 := Nat.mul_lt_mul_of_pos_right hX (by decide)
  have e6 : X * Y + r = (H2 + 2 ^ 256 * c2) * 2 ^ 256 + S := by
    rw [← e4, Nat.add_mul]; omega
  have hc0 : c2 = 0 := by
    rw [e6, Nat.add_mul] at hb
    rcases Nat.eq_zero_or_pos c2 with h | h
    · exact h
    · exfalso
      have : 2 ^ 256 * 1 * 2 ^ 256 ≤ 2 ^ 256 * c2 * 2 ^ 256 := Nat.mul_le_mul_right _ (Nat.mul_le_mul_left _ h)
      omega
  subst hc0
  rw [Nat.mul_zero, Nat.add_zero] at e6
  have W1 := wide_val S H2 X r Y hS hH2 hX hr (by rw [← e6, Nat.mul_comm])
  have W2 := wide_val V 0 X r q hV (by decide) hX hr (by rw [e1]; simp)
  have W3 := wide_val 0 X X 0 (2 ^ 256) (by decide) hX hX (by omega) (by rw [Nat.mul_comm])
  exact widelaw_some X Y V 0 q r L H S more H2 (ofL_any 0 (by omega)) (ofL_any more (by omega)) (fun w => by rw [eqN X 0 hX (by decide)]; simp [h0]) D M A A2 W1 W2 W3 w
end Go.Proofs.Ytgfgicpffajgdaa
