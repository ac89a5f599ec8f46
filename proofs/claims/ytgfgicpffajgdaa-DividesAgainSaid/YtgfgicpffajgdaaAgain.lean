/-
  The walk of DividesAgain: it answers true, and nothing that was there is changed.
-/
import Derived.Test.YtgfgicpffajgdaaAlive3
namespace Go.Proofs.Ytgfgicpffajgdaa
open Go.RowKit
attribute [local go_sem ↓] Go.wp_at_zero Go.wp_at_succ

set_option maxRecDepth 100000 in
set_option maxHeartbeats 8000000 in
theorem again_zero (A H Z : Nat)
    (O : ∀ w, Calls Try.prog 36 #[.int .u64 0] w fun e w' => e = .returned (num Z) ∧ Below w.heap.size w w')
    (w : World) : Calls Try.prog 8 #[num A, num H, num Z] w fun e w' => e = .returned (.bool true) ∧ Below w.heap.size w w' := by
  have HO := Lib.hid O
  clear O
  go_enter Try.func8, Try.ntmps8
  go_wp2_with fail
  have BW := Lib.hid (Below.refl w.heap.size w)
  have Nl : At (((w.alloc (.cells #[.int .u64 (wd A 0 : Nat), .int .u64 (wd A 1 : Nat), .int .u64 (wd A 2 : Nat), .int .u64 (wd A 3 : Nat)] 24)).alloc (.cells #[.int .u64 (wd H 0 : Nat), .int .u64 (wd H 1 : Nat), .int .u64 (wd H 2 : Nat), .int .u64 (wd H 3 : Nat)] 24)).alloc (.cells #[.int .u64 (wd Z 0 : Nat), .int .u64 (wd Z 1 : Nat), .int .u64 (wd Z 2 : Nat), .int .u64 (wd Z 3 : Nat)] 24)) (w.heap.size) 24 #[.int .u64 (wd A 0 : Nat), .int .u64 (wd A 1 : Nat), .int .u64 (wd A 2 : Nat), .int .u64 (wd A 3 : Nat)] := ((At.at_ _ _ _ _ (by simp)).alloc _).alloc _
  have Nh : At (((w.alloc (.cells #[.int .u64 (wd A 0 : Nat), .int .u64 (wd A 1 : Nat), .int .u64 (wd A 2 : Nat), .int .u64 (wd A 3 : Nat)] 24)).alloc (.cells #[.int .u64 (wd H 0 : Nat), .int .u64 (wd H 1 : Nat), .int .u64 (wd H 2 : Nat), .int .u64 (wd H 3 : Nat)] 24)).alloc (.cells #[.int .u64 (wd Z 0 : Nat), .int .u64 (wd Z 1 : Nat), .int .u64 (wd Z 2 : Nat), .int .u64 (wd Z 3 : Nat)] 24)) (w.heap.size + 1) 24 #[.int .u64 (wd H 0 : Nat), .int .u64 (wd H 1 : Nat), .int .u64 (wd H 2 : Nat), .int .u64 (wd H 3 : Nat)] := (At.at_ _ _ _ _ (by simp)).alloc _
  have Nm : At (((w.alloc (.cells #[.int .u64 (wd A 0 : Nat), .int .u64 (wd A 1 : Nat), .int .u64 (wd A 2 : Nat), .int .u64 (wd A 3 : Nat)] 24)).alloc (.cells #[.int .u64 (wd H 0 : Nat), .int .u64 (wd H 1 : Nat), .int .u64 (wd H 2 : Nat), .int .u64 (wd H 3 : Nat)] 24)).alloc (.cells #[.int .u64 (wd Z 0 : Nat), .int .u64 (wd Z 1 : Nat), .int .u64 (wd Z 2 : Nat), .int .u64 (wd Z 3 : Nat)] 24)) (w.heap.size + 1 + 1) 24 #[.int .u64 (wd Z 0 : Nat), .int .u64 (wd Z 1 : Nat), .int .u64 (wd Z 2 : Nat), .int .u64 (wd Z 3 : Nat)] := At.at_ _ _ _ _ (by simp)
  have NB : Below w.heap.size w (((w.alloc (.cells #[.int .u64 (wd A 0 : Nat), .int .u64 (wd A 1 : Nat), .int .u64 (wd A 2 : Nat), .int .u64 (wd A 3 : Nat)] 24)).alloc (.cells #[.int .u64 (wd H 0 : Nat), .int .u64 (wd H 1 : Nat), .int .u64 (wd H 2 : Nat), .int .u64 (wd H 3 : Nat)] 24)).alloc (.cells #[.int .u64 (wd Z 0 : Nat), .int .u64 (wd Z 1 : Nat), .int .u64 (wd Z 2 : Nat), .int .u64 (wd Z 3 : Nat)] 24)) := gr_alloc (gr_alloc (gr_alloc BW.out _) _) _
  clear BW 
  generalize (((w.alloc (.cells #[.int .u64 (wd A 0 : Nat), .int .u64 (wd A 1 : Nat), .int .u64 (wd A 2 : Nat), .int .u64 (wd A 3 : Nat)] 24)).alloc (.cells #[.int .u64 (wd H 0 : Nat), .int .u64 (wd H 1 : Nat), .int .u64 (wd H 2 : Nat), .int .u64 (wd H 3 : Nat)] 24)).alloc (.cells #[.int .u64 (wd Z 0 : Nat), .int .u64 (wd Z 1 : Nat), .int .u64 (wd Z 2 : Nat), .int .u64 (wd Z 3 : Nat)] 24)) = W1 at *
  generalize w.heap.size + 1 + 1 = gm at *
  generalize w.heap.size + 1 = gh at *
  obtain ⟨gl, hg0⟩ : ∃ g, g = w.heap.size := ⟨_, rfl⟩
  rw [← hg0] at Nl ⊢
  clear hg0
  have Fl := Lib.hid Nl
  have Fh := Lib.hid Nh
  have Fm := Lib.hid Nm
  have BW := Lib.hid NB
  clear NB Nl Nh Nm
  try simp only [List.append_eq, List.cons_append, List.nil_append]
  refine wp_region_noPanic ?_
  refine wp_region_held_drew (S := fun w' => At w' gm 24 #[.int .u64 (wd Z 0 : Nat), .int .u64 (wd Z 1 : Nat), .int .u64 (wd Z 2 : Nat), .int .u64 (wd Z 3 : Nat)]) (by kernel_rfl) (Fm.out.drew) (fun _ => ?_)
  refine wpAnyH_cores (fuel := 0) (⟨0, 19, [], Kind.val (.agg #[.int .u64 (wd Z 0 : Nat), .int .u64 (wd Z 1 : Nat), .int .u64 (wd Z 2 : Nat), .int .u64 (wd Z 3 : Nat)]), true⟩ :: ⟨1, 20, [0], Kind.val (.agg #[.int .u64 (wd Z 0 : Nat), .int .u64 (wd Z 1 : Nat), .int .u64 (wd Z 2 : Nat), .int .u64 (wd Z 3 : Nat)]), false⟩ :: ⟨2, 21, [0, 1], Kind.val (.bool true), true⟩ :: []) _ _ W1 _ ?_ ?_ ?_ ?_ ?_ ?_ ?_ ?_ ?_ ?_ ?_
  · rfl
  · kernel_rfl
  · exact of_decide_eq_true (by kernel_rfl)
  · exact all_cons ⟨_, by rfl, by rfl⟩ (all_cons ⟨_, by rfl, by rfl⟩ (all_cons ⟨_, by rfl, by rfl⟩ (all_nil)))
  · exact fun _ hb => Fm.out.on hb
  · exact (Below.refl _ _).drew
  · kernel_rfl
  · exact fun _ _ _ _ _ h => h
  · refine all_cons ?_ (all_cons ?_ (all_cons ?_ (all_nil)))
    · exact coreG_loadP _ _ _ _ _ _ gm _ _ _ _ (by rfl) (by rfl) (wants_none) (known_old 5 _ (of_decide_eq_true (by rfl)) (by rfl)) (fun _ hs => hs)
    · exact core_pureAs _ (by rfl)
    · exact coreG_bin _ _ _ _ _ _ _ _ _ _ _ _ _ (by rfl) (by rfl) (wants_none) (known_core 0 19 _ _ (of_decide_eq_true (by rfl)) (by rfl) (by rfl) (by rfl)) (known_core 1 20 _ _ (of_decide_eq_true (by rfl)) (by rfl) (by rfl) (by rfl)) (eql_run true _ _ _ _ _ _ _ _ _ _ _ _ _ _ _ (eqY Z))
  · refine all_cons ?_ (all_cons ?_ (all_cons ?_ (all_nil)))
    · exact core_stepAs _ (by rfl)
    · exact fun _ => coreG_call _ 36 _ _ [.const (.int .u64 0)] _ _ _ _ _ _ _ (by rfl) Try.func36 (by kernel_rfl) (by rfl) (by rfl) (wants_none) (.cons (known_const _) .nil) (HO.out)
    · exact core_stepAs _ (by rfl)
  intro vs y2 hc
  obtain ⟨vv0, vv1, vv2, rfl⟩ := len3 vs hc.lv
  have qq0 : vv0 = .agg #[.int .u64 (wd Z 0 : Nat), .int .u64 (wd Z 1 : Nat), .int .u64 (wd Z 2 : Nat), .int .u64 (wd Z 3 : Nat)] := by obtain ⟨xx, hx, hy⟩ := hc.ok 0 _ rfl rfl; exact (Option.some.inj (show some vv0 = some xx from hx)).trans hy
  have qq1 : vv1 = .agg #[.int .u64 (wd Z 0 : Nat), .int .u64 (wd Z 1 : Nat), .int .u64 (wd Z 2 : Nat), .int .u64 (wd Z 3 : Nat)] := by obtain ⟨xx, hx, hy⟩ := hc.ok 1 _ rfl rfl; exact (Option.some.inj (show some vv1 = some xx from hx)).trans hy
  have qq2 : vv2 = .bool true := by obtain ⟨xx, hx, hy⟩ := hc.ok 2 _ rfl rfl; exact (Option.some.inj (show some vv2 = some xx from hx)).trans hy
  have BZ := hc.bel
  clear hc
  have Nl := Fl.out.on BZ
  have Nh := Fh.out.on BZ
  have Nm := Fm.out.on BZ
  have NB := bel_tr BW.out BZ
  clear BW BZ Fl Fh Fm
  subst qq0 qq1 qq2
  simp only [List.map_cons, List.map_nil, over, Act.put, List.setIfInBounds_toArray, List.set_cons_zero, List.set_cons_succ]
  refine wpAnyH_done (by kernel_rfl) ?_ _
  refine NoPanic.normal ?_
  have Fl := Lib.hid Nl
  have Fh := Lib.hid Nh
  have Fm := Lib.hid Nm
  have BW := Lib.hid NB
  clear NB Nl Nh Nm
  go_wp2_with fail
  refine (alive3_any _).mono ?_
  rintro e v3 ⟨rfl, z3⟩
  have Nl := Lib.hid (Fl.out.on z3)
  have Nh := Lib.hid (Fh.out.on z3)
  have Nm := Lib.hid (Fm.out.on z3)
  have NB := Lib.hid (bel_tr BW.out z3)
  clear BW z3 Fl Fh Fm
  have Fl := Nl
  have Fh := Nh
  have Fm := Nm
  have BW := NB
  clear NB Nl Nh Nm
  go_wp2_with fail
  go_ret
  exact ⟨rfl, BW.out⟩

set_option maxRecDepth 100000 in
set_option maxHeartbeats 8000000 in
theorem again_some (A H M Z x Q r Q2 s : Nat)
    (O : ∀ w, Calls Try.prog 36 #[.int .u64 0] w fun e w' => e = .returned (num Z) ∧ Below w.heap.size w w')
    (E : ∀ w : World, (Op.equalIn 10000 24 (num M) (num Z)).run Try.prog w = .ok false w)
    (W1 : ∀ w, Calls Try.prog 32 #[num A, num H, num M] w fun e w' => e = .returned (.tuple #[num x, .int .i64 0]) ∧ Below w.heap.size w w')
    (D1 : ∀ w, Calls Try.prog 30 #[num H, num M] w fun e w' => e = .returned (.tuple #[num Q, num r, .int .i64 0]) ∧ Below w.heap.size w w')
    (W2 : ∀ w, Calls Try.prog 32 #[num A, num r, num M] w fun e w' => e = .returned (.tuple #[num x, .int .i64 0]) ∧ Below w.heap.size w w')
    (D2 : ∀ w, Calls Try.prog 30 #[num A, num M] w fun e w' => e = .returned (.tuple #[num Q2, num s, .int .i64 0]) ∧ Below w.heap.size w w')
    (W3 : ∀ w, Calls Try.prog 32 #[num s, num r, num M] w fun e w' => e = .returned (.tuple #[num x, .int .i64 0]) ∧ Below w.heap.size w w')
    (C : ∀ w, Calls Try.prog 21 #[num x, num M] w fun e w' => e = .returned (.int .i64 (-1)) ∧ Below w.heap.size w w')
    (w : World) : Calls Try.prog 8 #[num A, num H, num M] w fun e w' => e = .returned (.bool true) ∧ Below w.heap.size w w' := by
  have HO := Lib.hid O
  have HE := Lib.hid E
  have HW1 := Lib.hid W1
  have HD1 := Lib.hid D1
  have HW2 := Lib.hid W2
  have HD2 := Lib.hid D2
  have HW3 := Lib.hid W3
  have HC := Lib.hid C
  clear O E W1 D1 W2 D2 W3 C
  go_enter Try.func8, Try.ntmps8
  go_wp2_with fail
  have BW := Lib.hid (Below.refl w.heap.size w)
  have Nl : At (((w.alloc (.cells #[.int .u64 (wd A 0 : Nat), .int .u64 (wd A 1 : Nat), .int .u64 (wd A 2 : Nat), .int .u64 (wd A 3 : Nat)] 24)).alloc (.cells #[.int .u64 (wd H 0 : Nat), .int .u64 (wd H 1 : Nat), .int .u64 (wd H 2 : Nat), .int .u64 (wd H 3 : Nat)] 24)).alloc (.cells #[.int .u64 (wd M 0 : Nat), .int .u64 (wd M 1 : Nat), .int .u64 (wd M 2 : Nat), .int .u64 (wd M 3 : Nat)] 24)) (w.heap.size) 24 #[.int .u64 (wd A 0 : Nat), .int .u64 (wd A 1 : Nat), .int .u64 (wd A 2 : Nat), .int .u64 (wd A 3 : Nat)] := ((At.at_ _ _ _ _ (by simp)).alloc _).alloc _
  have Nh : At (((w.alloc (.cells #[.int .u64 (wd A 0 : Nat), .int .u64 (wd A 1 : Nat), .int .u64 (wd A 2 : Nat), .int .u64 (wd A 3 : Nat)] 24)).alloc (.cells #[.int .u64 (wd H 0 : Nat), .int .u64 (wd H 1 : Nat), .int .u64 (wd H 2 : Nat), .int .u64 (wd H 3 : Nat)] 24)).alloc (.cells #[.int .u64 (wd M 0 : Nat), .int .u64 (wd M 1 : Nat), .int .u64 (wd M 2 : Nat), .int .u64 (wd M 3 : Nat)] 24)) (w.heap.size + 1) 24 #[.int .u64 (wd H 0 : Nat), .int .u64 (wd H 1 : Nat), .int .u64 (wd H 2 : Nat), .int .u64 (wd H 3 : Nat)] := (At.at_ _ _ _ _ (by simp)).alloc _
  have Nm : At (((w.alloc (.cells #[.int .u64 (wd A 0 : Nat), .int .u64 (wd A 1 : Nat), .int .u64 (wd A 2 : Nat), .int .u64 (wd A 3 : Nat)] 24)).alloc (.cells #[.int .u64 (wd H 0 : Nat), .int .u64 (wd H 1 : Nat), .int .u64 (wd H 2 : Nat), .int .u64 (wd H 3 : Nat)] 24)).alloc (.cells #[.int .u64 (wd M 0 : Nat), .int .u64 (wd M 1 : Nat), .int .u64 (wd M 2 : Nat), .int .u64 (wd M 3 : Nat)] 24)) (w.heap.size + 1 + 1) 24 #[.int .u64 (wd M 0 : Nat), .int .u64 (wd M 1 : Nat), .int .u64 (wd M 2 : Nat), .int .u64 (wd M 3 : Nat)] := At.at_ _ _ _ _ (by simp)
  have NB : Below w.heap.size w (((w.alloc (.cells #[.int .u64 (wd A 0 : Nat), .int .u64 (wd A 1 : Nat), .int .u64 (wd A 2 : Nat), .int .u64 (wd A 3 : Nat)] 24)).alloc (.cells #[.int .u64 (wd H 0 : Nat), .int .u64 (wd H 1 : Nat), .int .u64 (wd H 2 : Nat), .int .u64 (wd H 3 : Nat)] 24)).alloc (.cells #[.int .u64 (wd M 0 : Nat), .int .u64 (wd M 1 : Nat), .int .u64 (wd M 2 : Nat), .int .u64 (wd M 3 : Nat)] 24)) := gr_alloc (gr_alloc (gr_alloc BW.out _) _) _
  clear BW 
  generalize (((w.alloc (.cells #[.int .u64 (wd A 0 : Nat), .int .u64 (wd A 1 : Nat), .int .u64 (wd A 2 : Nat), .int .u64 (wd A 3 : Nat)] 24)).alloc (.cells #[.int .u64 (wd H 0 : Nat), .int .u64 (wd H 1 : Nat), .int .u64 (wd H 2 : Nat), .int .u64 (wd H 3 : Nat)] 24)).alloc (.cells #[.int .u64 (wd M 0 : Nat), .int .u64 (wd M 1 : Nat), .int .u64 (wd M 2 : Nat), .int .u64 (wd M 3 : Nat)] 24)) = W1 at *
  generalize w.heap.size + 1 + 1 = gm at *
  generalize w.heap.size + 1 = gh at *
  obtain ⟨gl, hg0⟩ : ∃ g, g = w.heap.size := ⟨_, rfl⟩
  rw [← hg0] at Nl ⊢
  clear hg0
  have Fl := Lib.hid Nl
  have Fh := Lib.hid Nh
  have Fm := Lib.hid Nm
  have BW := Lib.hid NB
  clear NB Nl Nh Nm
  try simp only [List.append_eq, List.cons_append, List.nil_append]
  refine wp_region_noPanic ?_
  refine wp_region_held_drew (S := fun w' => At w' gm 24 #[.int .u64 (wd M 0 : Nat), .int .u64 (wd M 1 : Nat), .int .u64 (wd M 2 : Nat), .int .u64 (wd M 3 : Nat)]) (by kernel_rfl) (Fm.out.drew) (fun _ => ?_)
  refine wpAnyH_cores (fuel := 0) (⟨0, 19, [], Kind.val (.agg #[.int .u64 (wd M 0 : Nat), .int .u64 (wd M 1 : Nat), .int .u64 (wd M 2 : Nat), .int .u64 (wd M 3 : Nat)]), true⟩ :: ⟨1, 20, [0], Kind.val (.agg #[.int .u64 (wd Z 0 : Nat), .int .u64 (wd Z 1 : Nat), .int .u64 (wd Z 2 : Nat), .int .u64 (wd Z 3 : Nat)]), false⟩ :: ⟨2, 21, [0, 1], Kind.val (.bool false), true⟩ :: []) _ _ W1 _ ?_ ?_ ?_ ?_ ?_ ?_ ?_ ?_ ?_ ?_ ?_
  · rfl
  · kernel_rfl
  · exact of_decide_eq_true (by kernel_rfl)
  · exact all_cons ⟨_, by rfl, by rfl⟩ (all_cons ⟨_, by rfl, by rfl⟩ (all_cons ⟨_, by rfl, by rfl⟩ (all_nil)))
  · exact fun _ hb => Fm.out.on hb
  · exact (Below.refl _ _).drew
  · kernel_rfl
  · exact fun _ _ _ _ _ h => h
  · refine all_cons ?_ (all_cons ?_ (all_cons ?_ (all_nil)))
    · exact coreG_loadP _ _ _ _ _ _ gm _ _ _ _ (by rfl) (by rfl) (wants_none) (known_old 5 _ (of_decide_eq_true (by rfl)) (by rfl)) (fun _ hs => hs)
    · exact core_pureAs _ (by rfl)
    · exact coreG_bin _ _ _ _ _ _ _ _ _ _ _ _ _ (by rfl) (by rfl) (wants_none) (known_core 0 19 _ _ (of_decide_eq_true (by rfl)) (by rfl) (by rfl) (by rfl)) (known_core 1 20 _ _ (of_decide_eq_true (by rfl)) (by rfl) (by rfl) (by rfl)) (eql_run false _ _ _ _ _ _ _ _ _ _ _ _ _ _ _ (HE.out))
  · refine all_cons ?_ (all_cons ?_ (all_cons ?_ (all_nil)))
    · exact core_stepAs _ (by rfl)
    · exact fun _ => coreG_call _ 36 _ _ [.const (.int .u64 0)] _ _ _ _ _ _ _ (by rfl) Try.func36 (by kernel_rfl) (by rfl) (by rfl) (wants_none) (.cons (known_const _) .nil) (HO.out)
    · exact core_stepAs _ (by rfl)
  intro vs y2 hc
  obtain ⟨vv0, vv1, vv2, rfl⟩ := len3 vs hc.lv
  have qq0 : vv0 = .agg #[.int .u64 (wd M 0 : Nat), .int .u64 (wd M 1 : Nat), .int .u64 (wd M 2 : Nat), .int .u64 (wd M 3 : Nat)] := by obtain ⟨xx, hx, hy⟩ := hc.ok 0 _ rfl rfl; exact (Option.some.inj (show some vv0 = some xx from hx)).trans hy
  have qq1 : vv1 = .agg #[.int .u64 (wd Z 0 : Nat), .int .u64 (wd Z 1 : Nat), .int .u64 (wd Z 2 : Nat), .int .u64 (wd Z 3 : Nat)] := by obtain ⟨xx, hx, hy⟩ := hc.ok 1 _ rfl rfl; exact (Option.some.inj (show some vv1 = some xx from hx)).trans hy
  have qq2 : vv2 = .bool false := by obtain ⟨xx, hx, hy⟩ := hc.ok 2 _ rfl rfl; exact (Option.some.inj (show some vv2 = some xx from hx)).trans hy
  have BZ := hc.bel
  clear hc
  have Nl := Fl.out.on BZ
  have Nh := Fh.out.on BZ
  have Nm := Fm.out.on BZ
  have NB := bel_tr BW.out BZ
  clear BW BZ Fl Fh Fm
  subst qq0 qq1 qq2
  simp only [List.map_cons, List.map_nil, over, Act.put, List.setIfInBounds_toArray, List.set_cons_zero, List.set_cons_succ]
  refine wpAnyH_done (by kernel_rfl) ?_ _
  refine NoPanic.normal ?_
  have Fl := Lib.hid Nl
  have Fh := Lib.hid Nh
  have Fm := Lib.hid Nm
  have BW := Lib.hid NB
  clear NB Nl Nh Nm
  have Ll := Fl.out.lt
  have cl0 : y2.cell? ⟨gl, 0, none⟩ = some (.int .u64 (wd A 0 : Nat)) := Fl.out.cell 0
  have cl1 : y2.cell? ⟨gl, 1, none⟩ = some (.int .u64 (wd A 1 : Nat)) := Fl.out.cell 1
  have cl2 : y2.cell? ⟨gl, 2, none⟩ = some (.int .u64 (wd A 2 : Nat)) := Fl.out.cell 2
  have cl3 : y2.cell? ⟨gl, 3, none⟩ = some (.int .u64 (wd A 3 : Nat)) := Fl.out.cell 3
  have Lh := Fh.out.lt
  have ch0 : y2.cell? ⟨gh, 0, none⟩ = some (.int .u64 (wd H 0 : Nat)) := Fh.out.cell 0
  have ch1 : y2.cell? ⟨gh, 1, none⟩ = some (.int .u64 (wd H 1 : Nat)) := Fh.out.cell 1
  have ch2 : y2.cell? ⟨gh, 2, none⟩ = some (.int .u64 (wd H 2 : Nat)) := Fh.out.cell 2
  have ch3 : y2.cell? ⟨gh, 3, none⟩ = some (.int .u64 (wd H 3 : Nat)) := Fh.out.cell 3
  have Lm := Fm.out.lt
  have cm0 : y2.cell? ⟨gm, 0, none⟩ = some (.int .u64 (wd M 0 : Nat)) := Fm.out.cell 0
  have cm1 : y2.cell? ⟨gm, 1, none⟩ = some (.int .u64 (wd M 1 : Nat)) := Fm.out.cell 1
  have cm2 : y2.cell? ⟨gm, 2, none⟩ = some (.int .u64 (wd M 2 : Nat)) := Fm.out.cell 2
  have cm3 : y2.cell? ⟨gm, 3, none⟩ = some (.int .u64 (wd M 3 : Nat)) := Fm.out.cell 3
  go_wp2_with fail
  clear Ll cl0 cl1 cl2 cl3 Lh ch0 ch1 ch2 ch3 Lm cm0 cm1 cm2 cm3
  refine (HW1.out _).mono ?_
  rintro e v3 ⟨rfl, z3⟩
  have Nl := Lib.hid (Fl.out.on z3)
  have Nh := Lib.hid (Fh.out.on z3)
  have Nm := Lib.hid (Fm.out.on z3)
  have NB := Lib.hid (bel_tr BW.out z3)
  clear BW z3 Fl Fh Fm
  have Fl := Nl
  have Fh := Nh
  have Fm := Nm
  have BW := NB
  clear NB Nl Nh Nm
  have Lh := Fh.out.lt
  have ch0 : v3.cell? ⟨gh, 0, none⟩ = some (.int .u64 (wd H 0 : Nat)) := Fh.out.cell 0
  have ch1 : v3.cell? ⟨gh, 1, none⟩ = some (.int .u64 (wd H 1 : Nat)) := Fh.out.cell 1
  have ch2 : v3.cell? ⟨gh, 2, none⟩ = some (.int .u64 (wd H 2 : Nat)) := Fh.out.cell 2
  have ch3 : v3.cell? ⟨gh, 3, none⟩ = some (.int .u64 (wd H 3 : Nat)) := Fh.out.cell 3
  have Lm := Fm.out.lt
  have cm0 : v3.cell? ⟨gm, 0, none⟩ = some (.int .u64 (wd M 0 : Nat)) := Fm.out.cell 0
  have cm1 : v3.cell? ⟨gm, 1, none⟩ = some (.int .u64 (wd M 1 : Nat)) := Fm.out.cell 1
  have cm2 : v3.cell? ⟨gm, 2, none⟩ = some (.int .u64 (wd M 2 : Nat)) := Fm.out.cell 2
  have cm3 : v3.cell? ⟨gm, 3, none⟩ = some (.int .u64 (wd M 3 : Nat)) := Fm.out.cell 3
  go_wp2_with fail
  clear Lh ch0 ch1 ch2 ch3 Lm cm0 cm1 cm2 cm3
  have Nx : At (v3.alloc (.cells #[.int .u64 (wd x 0 : Nat), .int .u64 (wd x 1 : Nat), .int .u64 (wd x 2 : Nat), .int .u64 (wd x 3 : Nat)] 24)) (v3.heap.size) 24 #[.int .u64 (wd x 0 : Nat), .int .u64 (wd x 1 : Nat), .int .u64 (wd x 2 : Nat), .int .u64 (wd x 3 : Nat)] := At.at_ _ _ _ _ (by simp)
  have Nl : At (v3.alloc (.cells #[.int .u64 (wd x 0 : Nat), .int .u64 (wd x 1 : Nat), .int .u64 (wd x 2 : Nat), .int .u64 (wd x 3 : Nat)] 24)) gl 24 #[.int .u64 (wd A 0 : Nat), .int .u64 (wd A 1 : Nat), .int .u64 (wd A 2 : Nat), .int .u64 (wd A 3 : Nat)] := Fl.out.alloc _
  have Nh : At (v3.alloc (.cells #[.int .u64 (wd x 0 : Nat), .int .u64 (wd x 1 : Nat), .int .u64 (wd x 2 : Nat), .int .u64 (wd x 3 : Nat)] 24)) gh 24 #[.int .u64 (wd H 0 : Nat), .int .u64 (wd H 1 : Nat), .int .u64 (wd H 2 : Nat), .int .u64 (wd H 3 : Nat)] := Fh.out.alloc _
  have Nm : At (v3.alloc (.cells #[.int .u64 (wd x 0 : Nat), .int .u64 (wd x 1 : Nat), .int .u64 (wd x 2 : Nat), .int .u64 (wd x 3 : Nat)] 24)) gm 24 #[.int .u64 (wd M 0 : Nat), .int .u64 (wd M 1 : Nat), .int .u64 (wd M 2 : Nat), .int .u64 (wd M 3 : Nat)] := Fm.out.alloc _
  have NB : Below w.heap.size w (v3.alloc (.cells #[.int .u64 (wd x 0 : Nat), .int .u64 (wd x 1 : Nat), .int .u64 (wd x 2 : Nat), .int .u64 (wd x 3 : Nat)] 24)) := gr_alloc BW.out _
  clear BW Fl Fh Fm
  generalize (v3.alloc (.cells #[.int .u64 (wd x 0 : Nat), .int .u64 (wd x 1 : Nat), .int .u64 (wd x 2 : Nat), .int .u64 (wd x 3 : Nat)] 24)) = W4 at *
  generalize v3.heap.size = gx at *
  have Fl := Lib.hid Nl
  have Fh := Lib.hid Nh
  have Fm := Lib.hid Nm
  have Fx := Lib.hid Nx
  have BW := Lib.hid NB
  clear NB Nl Nh Nm Nx
  refine (HD1.out _).mono ?_
  rintro e v5 ⟨rfl, z5⟩
  have Nl := Lib.hid (Fl.out.on z5)
  have Nh := Lib.hid (Fh.out.on z5)
  have Nm := Lib.hid (Fm.out.on z5)
  have Nx := Lib.hid (Fx.out.on z5)
  have NB := Lib.hid (bel_tr BW.out z5)
  clear BW z5 Fl Fh Fm Fx
  have Fl := Nl
  have Fh := Nh
  have Fm := Nm
  have Fx := Nx
  have BW := NB
  clear NB Nl Nh Nm Nx
  have Ll := Fl.out.lt
  have cl0 : v5.cell? ⟨gl, 0, none⟩ = some (.int .u64 (wd A 0 : Nat)) := Fl.out.cell 0
  have cl1 : v5.cell? ⟨gl, 1, none⟩ = some (.int .u64 (wd A 1 : Nat)) := Fl.out.cell 1
  have cl2 : v5.cell? ⟨gl, 2, none⟩ = some (.int .u64 (wd A 2 : Nat)) := Fl.out.cell 2
  have cl3 : v5.cell? ⟨gl, 3, none⟩ = some (.int .u64 (wd A 3 : Nat)) := Fl.out.cell 3
  have Lm := Fm.out.lt
  have cm0 : v5.cell? ⟨gm, 0, none⟩ = some (.int .u64 (wd M 0 : Nat)) := Fm.out.cell 0
  have cm1 : v5.cell? ⟨gm, 1, none⟩ = some (.int .u64 (wd M 1 : Nat)) := Fm.out.cell 1
  have cm2 : v5.cell? ⟨gm, 2, none⟩ = some (.int .u64 (wd M 2 : Nat)) := Fm.out.cell 2
  have cm3 : v5.cell? ⟨gm, 3, none⟩ = some (.int .u64 (wd M 3 : Nat)) := Fm.out.cell 3
  skip
  go_wp2_with fail
  clear Ll cl0 cl1 cl2 cl3 Lm cm0 cm1 cm2 cm3
  have Nq : At ((v5.alloc (.cells #[.int .u64 (wd Q 0 : Nat), .int .u64 (wd Q 1 : Nat), .int .u64 (wd Q 2 : Nat), .int .u64 (wd Q 3 : Nat)] 24)).alloc (.cells #[.int .u64 (wd r 0 : Nat), .int .u64 (wd r 1 : Nat), .int .u64 (wd r 2 : Nat), .int .u64 (wd r 3 : Nat)] 24)) (v5.heap.size) 24 #[.int .u64 (wd Q 0 : Nat), .int .u64 (wd Q 1 : Nat), .int .u64 (wd Q 2 : Nat), .int .u64 (wd Q 3 : Nat)] := (At.at_ _ _ _ _ (by simp)).alloc _
  have Nr : At ((v5.alloc (.cells #[.int .u64 (wd Q 0 : Nat), .int .u64 (wd Q 1 : Nat), .int .u64 (wd Q 2 : Nat), .int .u64 (wd Q 3 : Nat)] 24)).alloc (.cells #[.int .u64 (wd r 0 : Nat), .int .u64 (wd r 1 : Nat), .int .u64 (wd r 2 : Nat), .int .u64 (wd r 3 : Nat)] 24)) (v5.heap.size + 1) 24 #[.int .u64 (wd r 0 : Nat), .int .u64 (wd r 1 : Nat), .int .u64 (wd r 2 : Nat), .int .u64 (wd r 3 : Nat)] := At.at_ _ _ _ _ (by simp)
  have Nl : At ((v5.alloc (.cells #[.int .u64 (wd Q 0 : Nat), .int .u64 (wd Q 1 : Nat), .int .u64 (wd Q 2 : Nat), .int .u64 (wd Q 3 : Nat)] 24)).alloc (.cells #[.int .u64 (wd r 0 : Nat), .int .u64 (wd r 1 : Nat), .int .u64 (wd r 2 : Nat), .int .u64 (wd r 3 : Nat)] 24)) gl 24 #[.int .u64 (wd A 0 : Nat), .int .u64 (wd A 1 : Nat), .int .u64 (wd A 2 : Nat), .int .u64 (wd A 3 : Nat)] := (Fl.out.alloc _).alloc _
  have Nh : At ((v5.alloc (.cells #[.int .u64 (wd Q 0 : Nat), .int .u64 (wd Q 1 : Nat), .int .u64 (wd Q 2 : Nat), .int .u64 (wd Q 3 : Nat)] 24)).alloc (.cells #[.int .u64 (wd r 0 : Nat), .int .u64 (wd r 1 : Nat), .int .u64 (wd r 2 : Nat), .int .u64 (wd r 3 : Nat)] 24)) gh 24 #[.int .u64 (wd H 0 : Nat), .int .u64 (wd H 1 : Nat), .int .u64 (wd H 2 : Nat), .int .u64 (wd H 3 : Nat)] := (Fh.out.alloc _).alloc _
  have Nm : At ((v5.alloc (.cells #[.int .u64 (wd Q 0 : Nat), .int .u64 (wd Q 1 : Nat), .int .u64 (wd Q 2 : Nat), .int .u64 (wd Q 3 : Nat)] 24)).alloc (.cells #[.int .u64 (wd r 0 : Nat), .int .u64 (wd r 1 : Nat), .int .u64 (wd r 2 : Nat), .int .u64 (wd r 3 : Nat)] 24)) gm 24 #[.int .u64 (wd M 0 : Nat), .int .u64 (wd M 1 : Nat), .int .u64 (wd M 2 : Nat), .int .u64 (wd M 3 : Nat)] := (Fm.out.alloc _).alloc _
  have Nx : At ((v5.alloc (.cells #[.int .u64 (wd Q 0 : Nat), .int .u64 (wd Q 1 : Nat), .int .u64 (wd Q 2 : Nat), .int .u64 (wd Q 3 : Nat)] 24)).alloc (.cells #[.int .u64 (wd r 0 : Nat), .int .u64 (wd r 1 : Nat), .int .u64 (wd r 2 : Nat), .int .u64 (wd r 3 : Nat)] 24)) gx 24 #[.int .u64 (wd x 0 : Nat), .int .u64 (wd x 1 : Nat), .int .u64 (wd x 2 : Nat), .int .u64 (wd x 3 : Nat)] := (Fx.out.alloc _).alloc _
  have NB : Below w.heap.size w ((v5.alloc (.cells #[.int .u64 (wd Q 0 : Nat), .int .u64 (wd Q 1 : Nat), .int .u64 (wd Q 2 : Nat), .int .u64 (wd Q 3 : Nat)] 24)).alloc (.cells #[.int .u64 (wd r 0 : Nat), .int .u64 (wd r 1 : Nat), .int .u64 (wd r 2 : Nat), .int .u64 (wd r 3 : Nat)] 24)) := gr_alloc (gr_alloc BW.out _) _
  clear BW Fl Fh Fm Fx
  generalize ((v5.alloc (.cells #[.int .u64 (wd Q 0 : Nat), .int .u64 (wd Q 1 : Nat), .int .u64 (wd Q 2 : Nat), .int .u64 (wd Q 3 : Nat)] 24)).alloc (.cells #[.int .u64 (wd r 0 : Nat), .int .u64 (wd r 1 : Nat), .int .u64 (wd r 2 : Nat), .int .u64 (wd r 3 : Nat)] 24)) = W6 at *
  generalize v5.heap.size + 1 = gr at *
  generalize v5.heap.size = gq at *
  have Fl := Lib.hid Nl
  have Fh := Lib.hid Nh
  have Fm := Lib.hid Nm
  have Fx := Lib.hid Nx
  have Fq := Lib.hid Nq
  have Fr := Lib.hid Nr
  have BW := Lib.hid NB
  clear NB Nl Nh Nm Nx Nq Nr
  refine (HW2.out _).mono ?_
  rintro e v7 ⟨rfl, z7⟩
  have Nl := Lib.hid (Fl.out.on z7)
  have Nh := Lib.hid (Fh.out.on z7)
  have Nm := Lib.hid (Fm.out.on z7)
  have Nx := Lib.hid (Fx.out.on z7)
  have Nq := Lib.hid (Fq.out.on z7)
  have Nr := Lib.hid (Fr.out.on z7)
  have NB := Lib.hid (bel_tr BW.out z7)
  clear BW z7 Fl Fh Fm Fx Fq Fr
  have Fl := Nl
  have Fh := Nh
  have Fm := Nm
  have Fx := Nx
  have Fq := Nq
  have Fr := Nr
  have BW := NB
  clear NB Nl Nh Nm Nx Nq Nr
  clear Fh
  clear Fq
  have Ll := Fl.out.lt
  have cl0 : v7.cell? ⟨gl, 0, none⟩ = some (.int .u64 (wd A 0 : Nat)) := Fl.out.cell 0
  have cl1 : v7.cell? ⟨gl, 1, none⟩ = some (.int .u64 (wd A 1 : Nat)) := Fl.out.cell 1
  have cl2 : v7.cell? ⟨gl, 2, none⟩ = some (.int .u64 (wd A 2 : Nat)) := Fl.out.cell 2
  have cl3 : v7.cell? ⟨gl, 3, none⟩ = some (.int .u64 (wd A 3 : Nat)) := Fl.out.cell 3
  have Lm := Fm.out.lt
  have cm0 : v7.cell? ⟨gm, 0, none⟩ = some (.int .u64 (wd M 0 : Nat)) := Fm.out.cell 0
  have cm1 : v7.cell? ⟨gm, 1, none⟩ = some (.int .u64 (wd M 1 : Nat)) := Fm.out.cell 1
  have cm2 : v7.cell? ⟨gm, 2, none⟩ = some (.int .u64 (wd M 2 : Nat)) := Fm.out.cell 2
  have cm3 : v7.cell? ⟨gm, 3, none⟩ = some (.int .u64 (wd M 3 : Nat)) := Fm.out.cell 3
  go_wp2_with fail
  clear Ll cl0 cl1 cl2 cl3 Lm cm0 cm1 cm2 cm3
  have Ny : At (v7.alloc (.cells #[.int .u64 (wd x 0 : Nat), .int .u64 (wd x 1 : Nat), .int .u64 (wd x 2 : Nat), .int .u64 (wd x 3 : Nat)] 24)) (v7.heap.size) 24 #[.int .u64 (wd x 0 : Nat), .int .u64 (wd x 1 : Nat), .int .u64 (wd x 2 : Nat), .int .u64 (wd x 3 : Nat)] := At.at_ _ _ _ _ (by simp)
  have Nl : At (v7.alloc (.cells #[.int .u64 (wd x 0 : Nat), .int .u64 (wd x 1 : Nat), .int .u64 (wd x 2 : Nat), .int .u64 (wd x 3 : Nat)] 24)) gl 24 #[.int .u64 (wd A 0 : Nat), .int .u64 (wd A 1 : Nat), .int .u64 (wd A 2 : Nat), .int .u64 (wd A 3 : Nat)] := Fl.out.alloc _
  have Nm : At (v7.alloc (.cells #[.int .u64 (wd x 0 : Nat), .int .u64 (wd x 1 : Nat), .int .u64 (wd x 2 : Nat), .int .u64 (wd x 3 : Nat)] 24)) gm 24 #[.int .u64 (wd M 0 : Nat), .int .u64 (wd M 1 : Nat), .int .u64 (wd M 2 : Nat), .int .u64 (wd M 3 : Nat)] := Fm.out.alloc _
  have Nx : At (v7.alloc (.cells #[.int .u64 (wd x 0 : Nat), .int .u64 (wd x 1 : Nat), .int .u64 (wd x 2 : Nat), .int .u64 (wd x 3 : Nat)] 24)) gx 24 #[.int .u64 (wd x 0 : Nat), .int .u64 (wd x 1 : Nat), .int .u64 (wd x 2 : Nat), .int .u64 (wd x 3 : Nat)] := Fx.out.alloc _
  have Nr : At (v7.alloc (.cells #[.int .u64 (wd x 0 : Nat), .int .u64 (wd x 1 : Nat), .int .u64 (wd x 2 : Nat), .int .u64 (wd x 3 : Nat)] 24)) gr 24 #[.int .u64 (wd r 0 : Nat), .int .u64 (wd r 1 : Nat), .int .u64 (wd r 2 : Nat), .int .u64 (wd r 3 : Nat)] := Fr.out.alloc _
  have NB : Below w.heap.size w (v7.alloc (.cells #[.int .u64 (wd x 0 : Nat), .int .u64 (wd x 1 : Nat), .int .u64 (wd x 2 : Nat), .int .u64 (wd x 3 : Nat)] 24)) := gr_alloc BW.out _
  clear BW Fl Fm Fx Fr
  generalize (v7.alloc (.cells #[.int .u64 (wd x 0 : Nat), .int .u64 (wd x 1 : Nat), .int .u64 (wd x 2 : Nat), .int .u64 (wd x 3 : Nat)] 24)) = W8 at *
  generalize v7.heap.size = gy at *
  have Fl := Lib.hid Nl
  have Fm := Lib.hid Nm
  have Fx := Lib.hid Nx
  have Fr := Lib.hid Nr
  have Fy := Lib.hid Ny
  have BW := Lib.hid NB
  clear NB Nl Nm Nx Nr Ny
  refine (HD2.out _).mono ?_
  rintro e v9 ⟨rfl, z9⟩
  have Nl := Lib.hid (Fl.out.on z9)
  have Nm := Lib.hid (Fm.out.on z9)
  have Nx := Lib.hid (Fx.out.on z9)
  have Nr := Lib.hid (Fr.out.on z9)
  have Ny := Lib.hid (Fy.out.on z9)
  have NB := Lib.hid (bel_tr BW.out z9)
  clear BW z9 Fl Fm Fx Fr Fy
  have Fl := Nl
  have Fm := Nm
  have Fx := Nx
  have Fr := Nr
  have Fy := Ny
  have BW := NB
  clear NB Nl Nm Nx Nr Ny
  have Lr := Fr.out.lt
  have cr0 : v9.cell? ⟨gr, 0, none⟩ = some (.int .u64 (wd r 0 : Nat)) := Fr.out.cell 0
  have cr1 : v9.cell? ⟨gr, 1, none⟩ = some (.int .u64 (wd r 1 : Nat)) := Fr.out.cell 1
  have cr2 : v9.cell? ⟨gr, 2, none⟩ = some (.int .u64 (wd r 2 : Nat)) := Fr.out.cell 2
  have cr3 : v9.cell? ⟨gr, 3, none⟩ = some (.int .u64 (wd r 3 : Nat)) := Fr.out.cell 3
  have Lm := Fm.out.lt
  have cm0 : v9.cell? ⟨gm, 0, none⟩ = some (.int .u64 (wd M 0 : Nat)) := Fm.out.cell 0
  have cm1 : v9.cell? ⟨gm, 1, none⟩ = some (.int .u64 (wd M 1 : Nat)) := Fm.out.cell 1
  have cm2 : v9.cell? ⟨gm, 2, none⟩ = some (.int .u64 (wd M 2 : Nat)) := Fm.out.cell 2
  have cm3 : v9.cell? ⟨gm, 3, none⟩ = some (.int .u64 (wd M 3 : Nat)) := Fm.out.cell 3
  go_wp2_with fail
  clear Lr cr0 cr1 cr2 cr3 Lm cm0 cm1 cm2 cm3
  have Np : At ((v9.alloc (.cells #[.int .u64 (wd Q2 0 : Nat), .int .u64 (wd Q2 1 : Nat), .int .u64 (wd Q2 2 : Nat), .int .u64 (wd Q2 3 : Nat)] 24)).alloc (.cells #[.int .u64 (wd s 0 : Nat), .int .u64 (wd s 1 : Nat), .int .u64 (wd s 2 : Nat), .int .u64 (wd s 3 : Nat)] 24)) (v9.heap.size) 24 #[.int .u64 (wd Q2 0 : Nat), .int .u64 (wd Q2 1 : Nat), .int .u64 (wd Q2 2 : Nat), .int .u64 (wd Q2 3 : Nat)] := (At.at_ _ _ _ _ (by simp)).alloc _
  have Ns : At ((v9.alloc (.cells #[.int .u64 (wd Q2 0 : Nat), .int .u64 (wd Q2 1 : Nat), .int .u64 (wd Q2 2 : Nat), .int .u64 (wd Q2 3 : Nat)] 24)).alloc (.cells #[.int .u64 (wd s 0 : Nat), .int .u64 (wd s 1 : Nat), .int .u64 (wd s 2 : Nat), .int .u64 (wd s 3 : Nat)] 24)) (v9.heap.size + 1) 24 #[.int .u64 (wd s 0 : Nat), .int .u64 (wd s 1 : Nat), .int .u64 (wd s 2 : Nat), .int .u64 (wd s 3 : Nat)] := At.at_ _ _ _ _ (by simp)
  have Nl : At ((v9.alloc (.cells #[.int .u64 (wd Q2 0 : Nat), .int .u64 (wd Q2 1 : Nat), .int .u64 (wd Q2 2 : Nat), .int .u64 (wd Q2 3 : Nat)] 24)).alloc (.cells #[.int .u64 (wd s 0 : Nat), .int .u64 (wd s 1 : Nat), .int .u64 (wd s 2 : Nat), .int .u64 (wd s 3 : Nat)] 24)) gl 24 #[.int .u64 (wd A 0 : Nat), .int .u64 (wd A 1 : Nat), .int .u64 (wd A 2 : Nat), .int .u64 (wd A 3 : Nat)] := (Fl.out.alloc _).alloc _
  have Nm : At ((v9.alloc (.cells #[.int .u64 (wd Q2 0 : Nat), .int .u64 (wd Q2 1 : Nat), .int .u64 (wd Q2 2 : Nat), .int .u64 (wd Q2 3 : Nat)] 24)).alloc (.cells #[.int .u64 (wd s 0 : Nat), .int .u64 (wd s 1 : Nat), .int .u64 (wd s 2 : Nat), .int .u64 (wd s 3 : Nat)] 24)) gm 24 #[.int .u64 (wd M 0 : Nat), .int .u64 (wd M 1 : Nat), .int .u64 (wd M 2 : Nat), .int .u64 (wd M 3 : Nat)] := (Fm.out.alloc _).alloc _
  have Nx : At ((v9.alloc (.cells #[.int .u64 (wd Q2 0 : Nat), .int .u64 (wd Q2 1 : Nat), .int .u64 (wd Q2 2 : Nat), .int .u64 (wd Q2 3 : Nat)] 24)).alloc (.cells #[.int .u64 (wd s 0 : Nat), .int .u64 (wd s 1 : Nat), .int .u64 (wd s 2 : Nat), .int .u64 (wd s 3 : Nat)] 24)) gx 24 #[.int .u64 (wd x 0 : Nat), .int .u64 (wd x 1 : Nat), .int .u64 (wd x 2 : Nat), .int .u64 (wd x 3 : Nat)] := (Fx.out.alloc _).alloc _
  have Nr : At ((v9.alloc (.cells #[.int .u64 (wd Q2 0 : Nat), .int .u64 (wd Q2 1 : Nat), .int .u64 (wd Q2 2 : Nat), .int .u64 (wd Q2 3 : Nat)] 24)).alloc (.cells #[.int .u64 (wd s 0 : Nat), .int .u64 (wd s 1 : Nat), .int .u64 (wd s 2 : Nat), .int .u64 (wd s 3 : Nat)] 24)) gr 24 #[.int .u64 (wd r 0 : Nat), .int .u64 (wd r 1 : Nat), .int .u64 (wd r 2 : Nat), .int .u64 (wd r 3 : Nat)] := (Fr.out.alloc _).alloc _
  have Ny : At ((v9.alloc (.cells #[.int .u64 (wd Q2 0 : Nat), .int .u64 (wd Q2 1 : Nat), .int .u64 (wd Q2 2 : Nat), .int .u64 (wd Q2 3 : Nat)] 24)).alloc (.cells #[.int .u64 (wd s 0 : Nat), .int .u64 (wd s 1 : Nat), .int .u64 (wd s 2 : Nat), .int .u64 (wd s 3 : Nat)] 24)) gy 24 #[.int .u64 (wd x 0 : Nat), .int .u64 (wd x 1 : Nat), .int .u64 (wd x 2 : Nat), .int .u64 (wd x 3 : Nat)] := (Fy.out.alloc _).alloc _
  have NB : Below w.heap.size w ((v9.alloc (.cells #[.int .u64 (wd Q2 0 : Nat), .int .u64 (wd Q2 1 : Nat), .int .u64 (wd Q2 2 : Nat), .int .u64 (wd Q2 3 : Nat)] 24)).alloc (.cells #[.int .u64 (wd s 0 : Nat), .int .u64 (wd s 1 : Nat), .int .u64 (wd s 2 : Nat), .int .u64 (wd s 3 : Nat)] 24)) := gr_alloc (gr_alloc BW.out _) _
  clear BW Fl Fm Fx Fr Fy
  generalize ((v9.alloc (.cells #[.int .u64 (wd Q2 0 : Nat), .int .u64 (wd Q2 1 : Nat), .int .u64 (wd Q2 2 : Nat), .int .u64 (wd Q2 3 : Nat)] 24)).alloc (.cells #[.int .u64 (wd s 0 : Nat), .int .u64 (wd s 1 : Nat), .int .u64 (wd s 2 : Nat), .int .u64 (wd s 3 : Nat)] 24)) = W10 at *
  generalize v9.heap.size + 1 = gs at *
  generalize v9.heap.size = gp at *
  have Fl := Lib.hid Nl
  have Fm := Lib.hid Nm
  have Fx := Lib.hid Nx
  have Fr := Lib.hid Nr
  have Fy := Lib.hid Ny
  have Fp := Lib.hid Np
  have Fs := Lib.hid Ns
  have BW := Lib.hid NB
  clear NB Nl Nm Nx Nr Ny Np Ns
  refine (HW3.out _).mono ?_
  rintro e v11 ⟨rfl, z11⟩
  have Nl := Lib.hid (Fl.out.on z11)
  have Nm := Lib.hid (Fm.out.on z11)
  have Nx := Lib.hid (Fx.out.on z11)
  have Nr := Lib.hid (Fr.out.on z11)
  have Ny := Lib.hid (Fy.out.on z11)
  have Np := Lib.hid (Fp.out.on z11)
  have Ns := Lib.hid (Fs.out.on z11)
  have NB := Lib.hid (bel_tr BW.out z11)
  clear BW z11 Fl Fm Fx Fr Fy Fp Fs
  have Fl := Nl
  have Fm := Nm
  have Fx := Nx
  have Fr := Nr
  have Fy := Ny
  have Fp := Np
  have Fs := Ns
  have BW := NB
  clear NB Nl Nm Nx Nr Ny Np Ns
  go_wp2_with fail
  clear Fl
  clear Fp
  clear Fs
  clear Fr
  have Nz : At (v11.alloc (.cells #[.int .u64 (wd x 0 : Nat), .int .u64 (wd x 1 : Nat), .int .u64 (wd x 2 : Nat), .int .u64 (wd x 3 : Nat)] 24)) (v11.heap.size) 24 #[.int .u64 (wd x 0 : Nat), .int .u64 (wd x 1 : Nat), .int .u64 (wd x 2 : Nat), .int .u64 (wd x 3 : Nat)] := At.at_ _ _ _ _ (by simp)
  have Nm : At (v11.alloc (.cells #[.int .u64 (wd x 0 : Nat), .int .u64 (wd x 1 : Nat), .int .u64 (wd x 2 : Nat), .int .u64 (wd x 3 : Nat)] 24)) gm 24 #[.int .u64 (wd M 0 : Nat), .int .u64 (wd M 1 : Nat), .int .u64 (wd M 2 : Nat), .int .u64 (wd M 3 : Nat)] := Fm.out.alloc _
  have Nx : At (v11.alloc (.cells #[.int .u64 (wd x 0 : Nat), .int .u64 (wd x 1 : Nat), .int .u64 (wd x 2 : Nat), .int .u64 (wd x 3 : Nat)] 24)) gx 24 #[.int .u64 (wd x 0 : Nat), .int .u64 (wd x 1 : Nat), .int .u64 (wd x 2 : Nat), .int .u64 (wd x 3 : Nat)] := Fx.out.alloc _
  have Ny : At (v11.alloc (.cells #[.int .u64 (wd x 0 : Nat), .int .u64 (wd x 1 : Nat), .int .u64 (wd x 2 : Nat), .int .u64 (wd x 3 : Nat)] 24)) gy 24 #[.int .u64 (wd x 0 : Nat), .int .u64 (wd x 1 : Nat), .int .u64 (wd x 2 : Nat), .int .u64 (wd x 3 : Nat)] := Fy.out.alloc _
  have NB : Below w.heap.size w (v11.alloc (.cells #[.int .u64 (wd x 0 : Nat), .int .u64 (wd x 1 : Nat), .int .u64 (wd x 2 : Nat), .int .u64 (wd x 3 : Nat)] 24)) := gr_alloc BW.out _
  clear BW Fm Fx Fy
  generalize (v11.alloc (.cells #[.int .u64 (wd x 0 : Nat), .int .u64 (wd x 1 : Nat), .int .u64 (wd x 2 : Nat), .int .u64 (wd x 3 : Nat)] 24)) = W12 at *
  generalize v11.heap.size = gz at *
  have Fm := Lib.hid Nm
  have Fx := Lib.hid Nx
  have Fy := Lib.hid Ny
  have Fz := Lib.hid Nz
  have BW := Lib.hid NB
  clear NB Nm Nx Ny Nz
  refine (alive3_any _).mono ?_
  rintro e v13 ⟨rfl, z13⟩
  have Nm := Lib.hid (Fm.out.on z13)
  have Nx := Lib.hid (Fx.out.on z13)
  have Ny := Lib.hid (Fy.out.on z13)
  have Nz := Lib.hid (Fz.out.on z13)
  have NB := Lib.hid (bel_tr BW.out z13)
  clear BW z13 Fm Fx Fy Fz
  have Fm := Nm
  have Fx := Nx
  have Fy := Ny
  have Fz := Nz
  have BW := NB
  clear NB Nm Nx Ny Nz
  have Lx := Fx.out.lt
  have cx0 : v13.cell? ⟨gx, 0, none⟩ = some (.int .u64 (wd x 0 : Nat)) := Fx.out.cell 0
  have cx1 : v13.cell? ⟨gx, 1, none⟩ = some (.int .u64 (wd x 1 : Nat)) := Fx.out.cell 1
  have cx2 : v13.cell? ⟨gx, 2, none⟩ = some (.int .u64 (wd x 2 : Nat)) := Fx.out.cell 2
  have cx3 : v13.cell? ⟨gx, 3, none⟩ = some (.int .u64 (wd x 3 : Nat)) := Fx.out.cell 3
  have Ly := Fy.out.lt
  have cy0 : v13.cell? ⟨gy, 0, none⟩ = some (.int .u64 (wd x 0 : Nat)) := Fy.out.cell 0
  have cy1 : v13.cell? ⟨gy, 1, none⟩ = some (.int .u64 (wd x 1 : Nat)) := Fy.out.cell 1
  have cy2 : v13.cell? ⟨gy, 2, none⟩ = some (.int .u64 (wd x 2 : Nat)) := Fy.out.cell 2
  have cy3 : v13.cell? ⟨gy, 3, none⟩ = some (.int .u64 (wd x 3 : Nat)) := Fy.out.cell 3
  have Lz := Fz.out.lt
  have cz0 : v13.cell? ⟨gz, 0, none⟩ = some (.int .u64 (wd x 0 : Nat)) := Fz.out.cell 0
  have cz1 : v13.cell? ⟨gz, 1, none⟩ = some (.int .u64 (wd x 1 : Nat)) := Fz.out.cell 1
  have cz2 : v13.cell? ⟨gz, 2, none⟩ = some (.int .u64 (wd x 2 : Nat)) := Fz.out.cell 2
  have cz3 : v13.cell? ⟨gz, 3, none⟩ = some (.int .u64 (wd x 3 : Nat)) := Fz.out.cell 3
  have Lm := Fm.out.lt
  have cm0 : v13.cell? ⟨gm, 0, none⟩ = some (.int .u64 (wd M 0 : Nat)) := Fm.out.cell 0
  have cm1 : v13.cell? ⟨gm, 1, none⟩ = some (.int .u64 (wd M 1 : Nat)) := Fm.out.cell 1
  have cm2 : v13.cell? ⟨gm, 2, none⟩ = some (.int .u64 (wd M 2 : Nat)) := Fm.out.cell 2
  have cm3 : v13.cell? ⟨gm, 3, none⟩ = some (.int .u64 (wd M 3 : Nat)) := Fm.out.cell 3
  have qq := eqY x
  go_wp2_with fail
  clear Lx cx0 cx1 cx2 cx3 Ly cy0 cy1 cy2 cy3 Lz cz0 cz1 cz2 cz3 Lm cm0 cm1 cm2 cm3
  clear qq
  refine (HC.out _).mono ?_
  rintro e v14 ⟨rfl, z14⟩
  have Nm := Lib.hid (Fm.out.on z14)
  have Nx := Lib.hid (Fx.out.on z14)
  have Ny := Lib.hid (Fy.out.on z14)
  have Nz := Lib.hid (Fz.out.on z14)
  have NB := Lib.hid (bel_tr BW.out z14)
  clear BW z14 Fm Fx Fy Fz
  have Fm := Nm
  have Fx := Nx
  have Fy := Ny
  have Fz := Nz
  have BW := NB
  clear NB Nm Nx Ny Nz
  go_wp2_with fail
  go_ret
  exact ⟨rfl, BW.out⟩

theorem again_walk (A H M : Nat) (hA : A < 2 ^ 256) (hH : H < 2 ^ 256) (hM : M < 2 ^ 256) (w : World) : Calls Try.prog 8 #[num A, num H, num M] w fun e w' => e = .returned (.bool true) ∧ Below w.heap.size w w' := by
  by_cases h0 : M = 0
  · subst h0
    exact again_zero A H 0 (ofL_any 0 (by omega)) w
  · obtain ⟨x, hx, ex, W1⟩ := wide_ex A H M hA hH hM h0
    obtain ⟨Q, r, hQ, hr, e1, D1⟩ := div_ex H M hH hM h0
    obtain ⟨y, hy, ey, W2⟩ := wide_ex A r M hA (by omega) hM h0
    obtain ⟨Q2, s, hQ2, hs, e2, D2⟩ := div_ex A M hA hM h0
    obtain ⟨z, hz, ez, W3⟩ := wide_ex s r M (by omega) (by omega) hM h0
    have hxy : y = x := by
      rw [ex, ey]; unfold wide
      generalize 2 ^ 256 = b
      rw [e1, show (Q * M + r) * b + A = M * (Q * b) + (r * b + A) by rw [Nat.add_mul, Nat.add_assoc]; congr 1; ac_rfl, Nat.mul_add_mod]
    have hyz : z = y := by
      rw [ey, ez]; unfold wide
      generalize 2 ^ 256 = b
      rw [e2, show r * b + (Q2 * M + s) = M * Q2 + (r * b + s) by rw [Nat.mul_comm M]; omega, Nat.mul_add_mod]
    subst hyz
    subst hxy
    have CC := cmp_any z M (by omega) hM
    rw [cmpN_lt hx] at CC
    exact again_some A H M 0 z Q r Q2 s (ofL_any 0 (by omega)) (fun w => by rw [eqN M 0 hM (by decide)]; simp [h0]) W1 D1 W2 D2 W3 CC w
end Go.Proofs.Ytgfgicpffajgdaa
