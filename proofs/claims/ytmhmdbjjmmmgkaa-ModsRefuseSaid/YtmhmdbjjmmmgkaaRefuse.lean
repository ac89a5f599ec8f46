/-
  The walk of ModsRefuse: it answers true, and nothing that was there is changed.
-/
import Derived.Test.YtmhmdbjjmmmgkaaAlive4
namespace Go.Proofs.Ytmhmdbjjmmmgkaa
open Go.RowKit
set_option linter.unusedSimpArgs false
set_option linter.unusedVariables false
attribute [local go_sem ↓] Go.wp_at_zero Go.wp_at_succ

set_option maxRecDepth 100000 in
set_option maxHeartbeats 8000000 in
theorem refuse_big (A B M Z N0 : Nat) (k : Int)
    (hk : k ≤ 0)
    (O : ∀ w, Calls Try.prog 28 #[.int .u64 1] w fun e w' => e = .returned (num Z) ∧ Below w.heap.size w w')
    (K : ∀ w, Calls Try.prog 27 #[num M, num Z] w fun e w' => e = .returned (.int .i64 k) ∧ Below w.heap.size w w')
    (N : ∀ w, Calls Try.prog 28 #[.int .u64 0] w fun e w' => e = .returned (num N0) ∧ Below w.heap.size w w')
    (A1 : ∀ w, Calls Try.prog 17 #[num A, num B, num M] w fun e w' => e = .returned (.tuple #[num N0, .int .i64 1]) ∧ Below w.heap.size w w')
    (A2 : ∀ w, Calls Try.prog 18 #[num A, num B, num M] w fun e w' => e = .returned (.tuple #[num N0, .int .i64 1]) ∧ Below w.heap.size w w')
    (A3 : ∀ w, Calls Try.prog 19 #[num A, num B, num M] w fun e w' => e = .returned (.tuple #[num N0, .int .i64 1]) ∧ Below w.heap.size w w')
    (A4 : ∀ w, Calls Try.prog 20 #[num A, num B, num M] w fun e w' => e = .returned (.tuple #[num N0, .int .i64 1]) ∧ Below w.heap.size w w')
    (A5 : ∀ w, Calls Try.prog 21 #[num A, num M] w fun e w' => e = .returned (.tuple #[num N0, .int .i64 1]) ∧ Below w.heap.size w w')
    (w : World) : Calls Try.prog 9 #[num A, num B, num M] w fun e w' => e = .returned (.bool true) ∧ Below w.heap.size w w' := by
  have HO := Lib.hid O
  have HK := Lib.hid K
  have HN := Lib.hid N
  have HA1 := Lib.hid A1
  have HA2 := Lib.hid A2
  have HA3 := Lib.hid A3
  have HA4 := Lib.hid A4
  have HA5 := Lib.hid A5
  clear O K N A1 A2 A3 A4 A5
  go_enter Try.func9, Try.ntmps9
  go_wp2_with fail
  have BW := Lib.hid (Below.refl w.heap.size w)
  have Na : At (((w.alloc (.cells #[.int .u64 (wd A 0 : Nat), .int .u64 (wd A 1 : Nat), .int .u64 (wd A 2 : Nat), .int .u64 (wd A 3 : Nat)] 24)).alloc (.cells #[.int .u64 (wd B 0 : Nat), .int .u64 (wd B 1 : Nat), .int .u64 (wd B 2 : Nat), .int .u64 (wd B 3 : Nat)] 24)).alloc (.cells #[.int .u64 (wd M 0 : Nat), .int .u64 (wd M 1 : Nat), .int .u64 (wd M 2 : Nat), .int .u64 (wd M 3 : Nat)] 24)) (w.heap.size) 24 #[.int .u64 (wd A 0 : Nat), .int .u64 (wd A 1 : Nat), .int .u64 (wd A 2 : Nat), .int .u64 (wd A 3 : Nat)] := ((At.at_ _ _ _ _ (by simp)).alloc _).alloc _
  have Nb : At (((w.alloc (.cells #[.int .u64 (wd A 0 : Nat), .int .u64 (wd A 1 : Nat), .int .u64 (wd A 2 : Nat), .int .u64 (wd A 3 : Nat)] 24)).alloc (.cells #[.int .u64 (wd B 0 : Nat), .int .u64 (wd B 1 : Nat), .int .u64 (wd B 2 : Nat), .int .u64 (wd B 3 : Nat)] 24)).alloc (.cells #[.int .u64 (wd M 0 : Nat), .int .u64 (wd M 1 : Nat), .int .u64 (wd M 2 : Nat), .int .u64 (wd M 3 : Nat)] 24)) (w.heap.size + 1) 24 #[.int .u64 (wd B 0 : Nat), .int .u64 (wd B 1 : Nat), .int .u64 (wd B 2 : Nat), .int .u64 (wd B 3 : Nat)] := (At.at_ _ _ _ _ (by simp)).alloc _
  have Nm : At (((w.alloc (.cells #[.int .u64 (wd A 0 : Nat), .int .u64 (wd A 1 : Nat), .int .u64 (wd A 2 : Nat), .int .u64 (wd A 3 : Nat)] 24)).alloc (.cells #[.int .u64 (wd B 0 : Nat), .int .u64 (wd B 1 : Nat), .int .u64 (wd B 2 : Nat), .int .u64 (wd B 3 : Nat)] 24)).alloc (.cells #[.int .u64 (wd M 0 : Nat), .int .u64 (wd M 1 : Nat), .int .u64 (wd M 2 : Nat), .int .u64 (wd M 3 : Nat)] 24)) (w.heap.size + 1 + 1) 24 #[.int .u64 (wd M 0 : Nat), .int .u64 (wd M 1 : Nat), .int .u64 (wd M 2 : Nat), .int .u64 (wd M 3 : Nat)] := At.at_ _ _ _ _ (by simp)
  have NB : Below w.heap.size w (((w.alloc (.cells #[.int .u64 (wd A 0 : Nat), .int .u64 (wd A 1 : Nat), .int .u64 (wd A 2 : Nat), .int .u64 (wd A 3 : Nat)] 24)).alloc (.cells #[.int .u64 (wd B 0 : Nat), .int .u64 (wd B 1 : Nat), .int .u64 (wd B 2 : Nat), .int .u64 (wd B 3 : Nat)] 24)).alloc (.cells #[.int .u64 (wd M 0 : Nat), .int .u64 (wd M 1 : Nat), .int .u64 (wd M 2 : Nat), .int .u64 (wd M 3 : Nat)] 24)) := gr_alloc (gr_alloc (gr_alloc BW.out _) _) _
  clear BW 
  generalize (((w.alloc (.cells #[.int .u64 (wd A 0 : Nat), .int .u64 (wd A 1 : Nat), .int .u64 (wd A 2 : Nat), .int .u64 (wd A 3 : Nat)] 24)).alloc (.cells #[.int .u64 (wd B 0 : Nat), .int .u64 (wd B 1 : Nat), .int .u64 (wd B 2 : Nat), .int .u64 (wd B 3 : Nat)] 24)).alloc (.cells #[.int .u64 (wd M 0 : Nat), .int .u64 (wd M 1 : Nat), .int .u64 (wd M 2 : Nat), .int .u64 (wd M 3 : Nat)] 24)) = W1 at *
  generalize w.heap.size + 1 + 1 = gm at *
  generalize w.heap.size + 1 = gb at *
  obtain ⟨ga, hg0⟩ : ∃ g, g = w.heap.size := ⟨_, rfl⟩
  rw [← hg0] at Na ⊢
  clear hg0
  have Fa := Lib.hid Na
  have Fb := Lib.hid Nb
  have Fm := Lib.hid Nm
  have BW := Lib.hid NB
  clear NB Na Nb Nm
  try simp only [List.append_eq, List.cons_append, List.nil_append]
  refine wp_region_noPanic ?_
  refine wp_region_held_drew (S := fun w' => At w' gm 24 #[.int .u64 (wd M 0 : Nat), .int .u64 (wd M 1 : Nat), .int .u64 (wd M 2 : Nat), .int .u64 (wd M 3 : Nat)]) (by kernel_rfl) (Fm.out.drew) (fun _ => ?_)
  refine wpAnyH_cores (fuel := 1) (⟨0, 20, [], Kind.val (.agg #[.int .u64 (wd M 0 : Nat), .int .u64 (wd M 1 : Nat), .int .u64 (wd M 2 : Nat), .int .u64 (wd M 3 : Nat)]), true⟩ :: ⟨1, 21, [0], Kind.val (.agg #[.int .u64 (wd Z 0 : Nat), .int .u64 (wd Z 1 : Nat), .int .u64 (wd Z 2 : Nat), .int .u64 (wd Z 3 : Nat)]), false⟩ :: ⟨2, 22, [0, 1], Kind.val (.int .i64 k), false⟩ :: ⟨3, 23, [2], Kind.val (.bool false), true⟩ :: []) _ _ W1 _ ?_ ?_ ?_ ?_ ?_ ?_ ?_ ?_ ?_ ?_ ?_
  · rfl
  · kernel_rfl
  · exact of_decide_eq_true (by kernel_rfl)
  · exact all_cons ⟨_, by rfl, by rfl⟩ (all_cons ⟨_, by rfl, by rfl⟩ (all_cons ⟨_, by rfl, by rfl⟩ (all_cons ⟨_, by rfl, by rfl⟩ (all_nil))))
  · exact fun _ hb => Fm.out.on hb
  · exact (Below.refl _ _).drew
  · kernel_rfl
  · exact fun _ _ _ _ _ h => h
  · refine all_cons ?_ (all_cons ?_ (all_cons ?_ (all_cons ?_ (all_nil))))
    · exact coreG_loadP _ _ _ _ _ _ gm _ _ _ _ (by rfl) (by rfl) (wants_none) (known_old 5 _ (of_decide_eq_true (by rfl)) (by rfl)) (fun _ hs => hs)
    · exact core_pureAs _ (by rfl)
    · exact core_pureAs _ (by rfl)
    · exact coreG_bin _ _ _ _ _ _ _ _ _ _ _ _ _ (by rfl) (by rfl) (wants_none) (known_core 2 22 _ _ (of_decide_eq_true (by rfl)) (by rfl) (by rfl) (by rfl)) (known_const _) ((fun ρ w hx hy => by simp only [execOp, hx, hy]; simp [go_sem]; exact hk))
  · refine all_cons ?_ (all_cons ?_ (all_cons ?_ (all_cons ?_ (all_nil))))
    · exact core_stepAs _ (by rfl)
    · exact fun _ => coreG_call _ 28 _ _ [.const (.int .u64 1)] _ _ _ _ _ _ _ (by rfl) Try.func28 (by kernel_rfl) (by rfl) (by rfl) (wants_none) (.cons (known_const _) .nil) (HO.out)
    · exact fun _ => coreG_call _ 27 _ _ [.tmp 20, .tmp 21] _ _ _ _ _ _ _ (by rfl) Try.func27 (by kernel_rfl) (by rfl) (by rfl) (wants_none) (.cons (known_core 0 20 _ _ (of_decide_eq_true (by rfl)) (by rfl) (by rfl) (by rfl)) (.cons (known_core 1 21 _ _ (of_decide_eq_true (by rfl)) (by rfl) (by rfl) (by rfl)) .nil)) (HK.out)
    · exact core_stepAs _ (by rfl)
  intro vs y2 hc
  obtain ⟨vv0, vv1, vv2, vv3, rfl⟩ := len4 vs hc.lv
  have qq0 : vv0 = .agg #[.int .u64 (wd M 0 : Nat), .int .u64 (wd M 1 : Nat), .int .u64 (wd M 2 : Nat), .int .u64 (wd M 3 : Nat)] := by obtain ⟨xx, hx, hy⟩ := hc.ok 0 _ rfl rfl; exact (Option.some.inj (show some vv0 = some xx from hx)).trans hy
  have qq1 : vv1 = .agg #[.int .u64 (wd Z 0 : Nat), .int .u64 (wd Z 1 : Nat), .int .u64 (wd Z 2 : Nat), .int .u64 (wd Z 3 : Nat)] := by obtain ⟨xx, hx, hy⟩ := hc.ok 1 _ rfl rfl; exact (Option.some.inj (show some vv1 = some xx from hx)).trans hy
  have qq2 : vv2 = .int .i64 k := by obtain ⟨xx, hx, hy⟩ := hc.ok 2 _ rfl rfl; exact (Option.some.inj (show some vv2 = some xx from hx)).trans hy
  have qq3 : vv3 = .bool false := by obtain ⟨xx, hx, hy⟩ := hc.ok 3 _ rfl rfl; exact (Option.some.inj (show some vv3 = some xx from hx)).trans hy
  have BZ := hc.bel
  clear hc
  have Na := Fa.out.on BZ
  have Nb := Fb.out.on BZ
  have Nm := Fm.out.on BZ
  have NB := bel_tr BW.out BZ
  clear BW BZ Fa Fb Fm
  subst qq0 qq1 qq2 qq3
  simp only [List.map_cons, List.map_nil, over, Act.put, List.setIfInBounds_toArray, List.set_cons_zero, List.set_cons_succ]
  refine assign_one (i := 4) _ 7 _ _ _ _ (by kernel_rfl) (by rfl) (by rfl) (Nm) ?_
  try simp only [Act.put, List.setIfInBounds_toArray, List.set_cons_zero, List.set_cons_succ]
  refine wpAnyH_done (by kernel_rfl) ?_ _
  refine NoPanic.normal ?_
  have Fa := Lib.hid Na
  have Fb := Lib.hid Nb
  have Fm := Lib.hid Nm
  have BW := Lib.hid NB
  clear NB Na Nb Nm
  have La := Fa.out.lt
  have ca0 : y2.cell? ⟨ga, 0, none⟩ = some (.int .u64 (wd A 0 : Nat)) := Fa.out.cell 0
  have ca1 : y2.cell? ⟨ga, 1, none⟩ = some (.int .u64 (wd A 1 : Nat)) := Fa.out.cell 1
  have ca2 : y2.cell? ⟨ga, 2, none⟩ = some (.int .u64 (wd A 2 : Nat)) := Fa.out.cell 2
  have ca3 : y2.cell? ⟨ga, 3, none⟩ = some (.int .u64 (wd A 3 : Nat)) := Fa.out.cell 3
  have Lm := Fm.out.lt
  have cm0 : y2.cell? ⟨gm, 0, none⟩ = some (.int .u64 (wd M 0 : Nat)) := Fm.out.cell 0
  have cm1 : y2.cell? ⟨gm, 1, none⟩ = some (.int .u64 (wd M 1 : Nat)) := Fm.out.cell 1
  have cm2 : y2.cell? ⟨gm, 2, none⟩ = some (.int .u64 (wd M 2 : Nat)) := Fm.out.cell 2
  have cm3 : y2.cell? ⟨gm, 3, none⟩ = some (.int .u64 (wd M 3 : Nat)) := Fm.out.cell 3
  have Lb := Fb.out.lt
  have cb0 : y2.cell? ⟨gb, 0, none⟩ = some (.int .u64 (wd B 0 : Nat)) := Fb.out.cell 0
  have cb1 : y2.cell? ⟨gb, 1, none⟩ = some (.int .u64 (wd B 1 : Nat)) := Fb.out.cell 1
  have cb2 : y2.cell? ⟨gb, 2, none⟩ = some (.int .u64 (wd B 2 : Nat)) := Fb.out.cell 2
  have cb3 : y2.cell? ⟨gb, 3, none⟩ = some (.int .u64 (wd B 3 : Nat)) := Fb.out.cell 3
  go_wp2_with fail
  clear La ca0 ca1 ca2 ca3 Lm cm0 cm1 cm2 cm3 Lb cb0 cb1 cb2 cb3
  refine (HA1.out _).mono ?_
  rintro e v3 ⟨rfl, z3⟩
  have Na := Lib.hid (Fa.out.on z3)
  have Nb := Lib.hid (Fb.out.on z3)
  have Nm := Lib.hid (Fm.out.on z3)
  have NB := Lib.hid (bel_tr BW.out z3)
  clear BW z3 Fa Fb Fm
  have Fa := Na
  have Fb := Nb
  have Fm := Nm
  have BW := NB
  clear NB Na Nb Nm
  have La := Fa.out.lt
  have ca0 : v3.cell? ⟨ga, 0, none⟩ = some (.int .u64 (wd A 0 : Nat)) := Fa.out.cell 0
  have ca1 : v3.cell? ⟨ga, 1, none⟩ = some (.int .u64 (wd A 1 : Nat)) := Fa.out.cell 1
  have ca2 : v3.cell? ⟨ga, 2, none⟩ = some (.int .u64 (wd A 2 : Nat)) := Fa.out.cell 2
  have ca3 : v3.cell? ⟨ga, 3, none⟩ = some (.int .u64 (wd A 3 : Nat)) := Fa.out.cell 3
  have Lb := Fb.out.lt
  have cb0 : v3.cell? ⟨gb, 0, none⟩ = some (.int .u64 (wd B 0 : Nat)) := Fb.out.cell 0
  have cb1 : v3.cell? ⟨gb, 1, none⟩ = some (.int .u64 (wd B 1 : Nat)) := Fb.out.cell 1
  have cb2 : v3.cell? ⟨gb, 2, none⟩ = some (.int .u64 (wd B 2 : Nat)) := Fb.out.cell 2
  have cb3 : v3.cell? ⟨gb, 3, none⟩ = some (.int .u64 (wd B 3 : Nat)) := Fb.out.cell 3
  have Lm := Fm.out.lt
  have cm0 : v3.cell? ⟨gm, 0, none⟩ = some (.int .u64 (wd M 0 : Nat)) := Fm.out.cell 0
  have cm1 : v3.cell? ⟨gm, 1, none⟩ = some (.int .u64 (wd M 1 : Nat)) := Fm.out.cell 1
  have cm2 : v3.cell? ⟨gm, 2, none⟩ = some (.int .u64 (wd M 2 : Nat)) := Fm.out.cell 2
  have cm3 : v3.cell? ⟨gm, 3, none⟩ = some (.int .u64 (wd M 3 : Nat)) := Fm.out.cell 3
  go_wp2_with fail
  clear La ca0 ca1 ca2 ca3 Lb cb0 cb1 cb2 cb3 Lm cm0 cm1 cm2 cm3
  have Nx : At (v3.alloc (.cells #[.int .u64 (wd N0 0 : Nat), .int .u64 (wd N0 1 : Nat), .int .u64 (wd N0 2 : Nat), .int .u64 (wd N0 3 : Nat)] 24)) (v3.heap.size) 24 #[.int .u64 (wd N0 0 : Nat), .int .u64 (wd N0 1 : Nat), .int .u64 (wd N0 2 : Nat), .int .u64 (wd N0 3 : Nat)] := At.at_ _ _ _ _ (by simp)
  have Na : At (v3.alloc (.cells #[.int .u64 (wd N0 0 : Nat), .int .u64 (wd N0 1 : Nat), .int .u64 (wd N0 2 : Nat), .int .u64 (wd N0 3 : Nat)] 24)) ga 24 #[.int .u64 (wd A 0 : Nat), .int .u64 (wd A 1 : Nat), .int .u64 (wd A 2 : Nat), .int .u64 (wd A 3 : Nat)] := Fa.out.alloc _
  have Nb : At (v3.alloc (.cells #[.int .u64 (wd N0 0 : Nat), .int .u64 (wd N0 1 : Nat), .int .u64 (wd N0 2 : Nat), .int .u64 (wd N0 3 : Nat)] 24)) gb 24 #[.int .u64 (wd B 0 : Nat), .int .u64 (wd B 1 : Nat), .int .u64 (wd B 2 : Nat), .int .u64 (wd B 3 : Nat)] := Fb.out.alloc _
  have Nm : At (v3.alloc (.cells #[.int .u64 (wd N0 0 : Nat), .int .u64 (wd N0 1 : Nat), .int .u64 (wd N0 2 : Nat), .int .u64 (wd N0 3 : Nat)] 24)) gm 24 #[.int .u64 (wd M 0 : Nat), .int .u64 (wd M 1 : Nat), .int .u64 (wd M 2 : Nat), .int .u64 (wd M 3 : Nat)] := Fm.out.alloc _
  have NB : Below w.heap.size w (v3.alloc (.cells #[.int .u64 (wd N0 0 : Nat), .int .u64 (wd N0 1 : Nat), .int .u64 (wd N0 2 : Nat), .int .u64 (wd N0 3 : Nat)] 24)) := gr_alloc BW.out _
  clear BW Fa Fb Fm
  generalize (v3.alloc (.cells #[.int .u64 (wd N0 0 : Nat), .int .u64 (wd N0 1 : Nat), .int .u64 (wd N0 2 : Nat), .int .u64 (wd N0 3 : Nat)] 24)) = W4 at *
  generalize v3.heap.size = gx at *
  have Fa := Lib.hid Na
  have Fb := Lib.hid Nb
  have Fm := Lib.hid Nm
  have Fx := Lib.hid Nx
  have BW := Lib.hid NB
  clear NB Na Nb Nm Nx
  refine (HA2.out _).mono ?_
  rintro e v5 ⟨rfl, z5⟩
  have Na := Lib.hid (Fa.out.on z5)
  have Nb := Lib.hid (Fb.out.on z5)
  have Nm := Lib.hid (Fm.out.on z5)
  have Nx := Lib.hid (Fx.out.on z5)
  have NB := Lib.hid (bel_tr BW.out z5)
  clear BW z5 Fa Fb Fm Fx
  have Fa := Na
  have Fb := Nb
  have Fm := Nm
  have Fx := Nx
  have BW := NB
  clear NB Na Nb Nm Nx
  have La := Fa.out.lt
  have ca0 : v5.cell? ⟨ga, 0, none⟩ = some (.int .u64 (wd A 0 : Nat)) := Fa.out.cell 0
  have ca1 : v5.cell? ⟨ga, 1, none⟩ = some (.int .u64 (wd A 1 : Nat)) := Fa.out.cell 1
  have ca2 : v5.cell? ⟨ga, 2, none⟩ = some (.int .u64 (wd A 2 : Nat)) := Fa.out.cell 2
  have ca3 : v5.cell? ⟨ga, 3, none⟩ = some (.int .u64 (wd A 3 : Nat)) := Fa.out.cell 3
  have Lb := Fb.out.lt
  have cb0 : v5.cell? ⟨gb, 0, none⟩ = some (.int .u64 (wd B 0 : Nat)) := Fb.out.cell 0
  have cb1 : v5.cell? ⟨gb, 1, none⟩ = some (.int .u64 (wd B 1 : Nat)) := Fb.out.cell 1
  have cb2 : v5.cell? ⟨gb, 2, none⟩ = some (.int .u64 (wd B 2 : Nat)) := Fb.out.cell 2
  have cb3 : v5.cell? ⟨gb, 3, none⟩ = some (.int .u64 (wd B 3 : Nat)) := Fb.out.cell 3
  have Lm := Fm.out.lt
  have cm0 : v5.cell? ⟨gm, 0, none⟩ = some (.int .u64 (wd M 0 : Nat)) := Fm.out.cell 0
  have cm1 : v5.cell? ⟨gm, 1, none⟩ = some (.int .u64 (wd M 1 : Nat)) := Fm.out.cell 1
  have cm2 : v5.cell? ⟨gm, 2, none⟩ = some (.int .u64 (wd M 2 : Nat)) := Fm.out.cell 2
  have cm3 : v5.cell? ⟨gm, 3, none⟩ = some (.int .u64 (wd M 3 : Nat)) := Fm.out.cell 3
  go_wp2_with fail
  clear La ca0 ca1 ca2 ca3 Lb cb0 cb1 cb2 cb3 Lm cm0 cm1 cm2 cm3
  have Ny : At (v5.alloc (.cells #[.int .u64 (wd N0 0 : Nat), .int .u64 (wd N0 1 : Nat), .int .u64 (wd N0 2 : Nat), .int .u64 (wd N0 3 : Nat)] 24)) (v5.heap.size) 24 #[.int .u64 (wd N0 0 : Nat), .int .u64 (wd N0 1 : Nat), .int .u64 (wd N0 2 : Nat), .int .u64 (wd N0 3 : Nat)] := At.at_ _ _ _ _ (by simp)
  have Na : At (v5.alloc (.cells #[.int .u64 (wd N0 0 : Nat), .int .u64 (wd N0 1 : Nat), .int .u64 (wd N0 2 : Nat), .int .u64 (wd N0 3 : Nat)] 24)) ga 24 #[.int .u64 (wd A 0 : Nat), .int .u64 (wd A 1 : Nat), .int .u64 (wd A 2 : Nat), .int .u64 (wd A 3 : Nat)] := Fa.out.alloc _
  have Nb : At (v5.alloc (.cells #[.int .u64 (wd N0 0 : Nat), .int .u64 (wd N0 1 : Nat), .int .u64 (wd N0 2 : Nat), .int .u64 (wd N0 3 : Nat)] 24)) gb 24 #[.int .u64 (wd B 0 : Nat), .int .u64 (wd B 1 : Nat), .int .u64 (wd B 2 : Nat), .int .u64 (wd B 3 : Nat)] := Fb.out.alloc _
  have Nm : At (v5.alloc (.cells #[.int .u64 (wd N0 0 : Nat), .int .u64 (wd N0 1 : Nat), .int .u64 (wd N0 2 : Nat), .int .u64 (wd N0 3 : Nat)] 24)) gm 24 #[.int .u64 (wd M 0 : Nat), .int .u64 (wd M 1 : Nat), .int .u64 (wd M 2 : Nat), .int .u64 (wd M 3 : Nat)] := Fm.out.alloc _
  have Nx : At (v5.alloc (.cells #[.int .u64 (wd N0 0 : Nat), .int .u64 (wd N0 1 : Nat), .int .u64 (wd N0 2 : Nat), .int .u64 (wd N0 3 : Nat)] 24)) gx 24 #[.int .u64 (wd N0 0 : Nat), .int .u64 (wd N0 1 : Nat), .int .u64 (wd N0 2 : Nat), .int .u64 (wd N0 3 : Nat)] := Fx.out.alloc _
  have NB : Below w.heap.size w (v5.alloc (.cells #[.int .u64 (wd N0 0 : Nat), .int .u64 (wd N0 1 : Nat), .int .u64 (wd N0 2 : Nat), .int .u64 (wd N0 3 : Nat)] 24)) := gr_alloc BW.out _
  clear BW Fa Fb Fm Fx
  generalize (v5.alloc (.cells #[.int .u64 (wd N0 0 : Nat), .int .u64 (wd N0 1 : Nat), .int .u64 (wd N0 2 : Nat), .int .u64 (wd N0 3 : Nat)] 24)) = W6 at *
  generalize v5.heap.size = gy at *
  have Fa := Lib.hid Na
  have Fb := Lib.hid Nb
  have Fm := Lib.hid Nm
  have Fx := Lib.hid Nx
  have Fy := Lib.hid Ny
  have BW := Lib.hid NB
  clear NB Na Nb Nm Nx Ny
  refine (HA3.out _).mono ?_
  rintro e v7 ⟨rfl, z7⟩
  have Na := Lib.hid (Fa.out.on z7)
  have Nb := Lib.hid (Fb.out.on z7)
  have Nm := Lib.hid (Fm.out.on z7)
  have Nx := Lib.hid (Fx.out.on z7)
  have Ny := Lib.hid (Fy.out.on z7)
  have NB := Lib.hid (bel_tr BW.out z7)
  clear BW z7 Fa Fb Fm Fx Fy
  have Fa := Na
  have Fb := Nb
  have Fm := Nm
  have Fx := Nx
  have Fy := Ny
  have BW := NB
  clear NB Na Nb Nm Nx Ny
  have La := Fa.out.lt
  have ca0 : v7.cell? ⟨ga, 0, none⟩ = some (.int .u64 (wd A 0 : Nat)) := Fa.out.cell 0
  have ca1 : v7.cell? ⟨ga, 1, none⟩ = some (.int .u64 (wd A 1 : Nat)) := Fa.out.cell 1
  have ca2 : v7.cell? ⟨ga, 2, none⟩ = some (.int .u64 (wd A 2 : Nat)) := Fa.out.cell 2
  have ca3 : v7.cell? ⟨ga, 3, none⟩ = some (.int .u64 (wd A 3 : Nat)) := Fa.out.cell 3
  have Lb := Fb.out.lt
  have cb0 : v7.cell? ⟨gb, 0, none⟩ = some (.int .u64 (wd B 0 : Nat)) := Fb.out.cell 0
  have cb1 : v7.cell? ⟨gb, 1, none⟩ = some (.int .u64 (wd B 1 : Nat)) := Fb.out.cell 1
  have cb2 : v7.cell? ⟨gb, 2, none⟩ = some (.int .u64 (wd B 2 : Nat)) := Fb.out.cell 2
  have cb3 : v7.cell? ⟨gb, 3, none⟩ = some (.int .u64 (wd B 3 : Nat)) := Fb.out.cell 3
  have Lm := Fm.out.lt
  have cm0 : v7.cell? ⟨gm, 0, none⟩ = some (.int .u64 (wd M 0 : Nat)) := Fm.out.cell 0
  have cm1 : v7.cell? ⟨gm, 1, none⟩ = some (.int .u64 (wd M 1 : Nat)) := Fm.out.cell 1
  have cm2 : v7.cell? ⟨gm, 2, none⟩ = some (.int .u64 (wd M 2 : Nat)) := Fm.out.cell 2
  have cm3 : v7.cell? ⟨gm, 3, none⟩ = some (.int .u64 (wd M 3 : Nat)) := Fm.out.cell 3
  go_wp2_with fail
  clear La ca0 ca1 ca2 ca3 Lb cb0 cb1 cb2 cb3 Lm cm0 cm1 cm2 cm3
  have Nz : At (v7.alloc (.cells #[.int .u64 (wd N0 0 : Nat), .int .u64 (wd N0 1 : Nat), .int .u64 (wd N0 2 : Nat), .int .u64 (wd N0 3 : Nat)] 24)) (v7.heap.size) 24 #[.int .u64 (wd N0 0 : Nat), .int .u64 (wd N0 1 : Nat), .int .u64 (wd N0 2 : Nat), .int .u64 (wd N0 3 : Nat)] := At.at_ _ _ _ _ (by simp)
  have Na : At (v7.alloc (.cells #[.int .u64 (wd N0 0 : Nat), .int .u64 (wd N0 1 : Nat), .int .u64 (wd N0 2 : Nat), .int .u64 (wd N0 3 : Nat)] 24)) ga 24 #[.int .u64 (wd A 0 : Nat), .int .u64 (wd A 1 : Nat), .int .u64 (wd A 2 : Nat), .int .u64 (wd A 3 : Nat)] := Fa.out.alloc _
  have Nb : At (v7.alloc (.cells #[.int .u64 (wd N0 0 : Nat), .int .u64 (wd N0 1 : Nat), .int .u64 (wd N0 2 : Nat), .int .u64 (wd N0 3 : Nat)] 24)) gb 24 #[.int .u64 (wd B 0 : Nat), .int .u64 (wd B 1 : Nat), .int .u64 (wd B 2 : Nat), .int .u64 (wd B 3 : Nat)] := Fb.out.alloc _
  have Nm : At (v7.alloc (.cells #[.int .u64 (wd N0 0 : Nat), .int .u64 (wd N0 1 : Nat), .int .u64 (wd N0 2 : Nat), .int .u64 (wd N0 3 : Nat)] 24)) gm 24 #[.int .u64 (wd M 0 : Nat), .int .u64 (wd M 1 : Nat), .int .u64 (wd M 2 : Nat), .int .u64 (wd M 3 : Nat)] := Fm.out.alloc _
  have Nx : At (v7.alloc (.cells #[.int .u64 (wd N0 0 : Nat), .int .u64 (wd N0 1 : Nat), .int .u64 (wd N0 2 : Nat), .int .u64 (wd N0 3 : Nat)] 24)) gx 24 #[.int .u64 (wd N0 0 : Nat), .int .u64 (wd N0 1 : Nat), .int .u64 (wd N0 2 : Nat), .int .u64 (wd N0 3 : Nat)] := Fx.out.alloc _
  have Ny : At (v7.alloc (.cells #[.int .u64 (wd N0 0 : Nat), .int .u64 (wd N0 1 : Nat), .int .u64 (wd N0 2 : Nat), .int .u64 (wd N0 3 : Nat)] 24)) gy 24 #[.int .u64 (wd N0 0 : Nat), .int .u64 (wd N0 1 : Nat), .int .u64 (wd N0 2 : Nat), .int .u64 (wd N0 3 : Nat)] := Fy.out.alloc _
  have NB : Below w.heap.size w (v7.alloc (.cells #[.int .u64 (wd N0 0 : Nat), .int .u64 (wd N0 1 : Nat), .int .u64 (wd N0 2 : Nat), .int .u64 (wd N0 3 : Nat)] 24)) := gr_alloc BW.out _
  clear BW Fa Fb Fm Fx Fy
  generalize (v7.alloc (.cells #[.int .u64 (wd N0 0 : Nat), .int .u64 (wd N0 1 : Nat), .int .u64 (wd N0 2 : Nat), .int .u64 (wd N0 3 : Nat)] 24)) = W8 at *
  generalize v7.heap.size = gz at *
  have Fa := Lib.hid Na
  have Fb := Lib.hid Nb
  have Fm := Lib.hid Nm
  have Fx := Lib.hid Nx
  have Fy := Lib.hid Ny
  have Fz := Lib.hid Nz
  have BW := Lib.hid NB
  clear NB Na Nb Nm Nx Ny Nz
  refine (HA4.out _).mono ?_
  rintro e v9 ⟨rfl, z9⟩
  have Na := Lib.hid (Fa.out.on z9)
  have Nb := Lib.hid (Fb.out.on z9)
  have Nm := Lib.hid (Fm.out.on z9)
  have Nx := Lib.hid (Fx.out.on z9)
  have Ny := Lib.hid (Fy.out.on z9)
  have Nz := Lib.hid (Fz.out.on z9)
  have NB := Lib.hid (bel_tr BW.out z9)
  clear BW z9 Fa Fb Fm Fx Fy Fz
  have Fa := Na
  have Fb := Nb
  have Fm := Nm
  have Fx := Nx
  have Fy := Ny
  have Fz := Nz
  have BW := NB
  clear NB Na Nb Nm Nx Ny Nz
  have La := Fa.out.lt
  have ca0 : v9.cell? ⟨ga, 0, none⟩ = some (.int .u64 (wd A 0 : Nat)) := Fa.out.cell 0
  have ca1 : v9.cell? ⟨ga, 1, none⟩ = some (.int .u64 (wd A 1 : Nat)) := Fa.out.cell 1
  have ca2 : v9.cell? ⟨ga, 2, none⟩ = some (.int .u64 (wd A 2 : Nat)) := Fa.out.cell 2
  have ca3 : v9.cell? ⟨ga, 3, none⟩ = some (.int .u64 (wd A 3 : Nat)) := Fa.out.cell 3
  have Lm := Fm.out.lt
  have cm0 : v9.cell? ⟨gm, 0, none⟩ = some (.int .u64 (wd M 0 : Nat)) := Fm.out.cell 0
  have cm1 : v9.cell? ⟨gm, 1, none⟩ = some (.int .u64 (wd M 1 : Nat)) := Fm.out.cell 1
  have cm2 : v9.cell? ⟨gm, 2, none⟩ = some (.int .u64 (wd M 2 : Nat)) := Fm.out.cell 2
  have cm3 : v9.cell? ⟨gm, 3, none⟩ = some (.int .u64 (wd M 3 : Nat)) := Fm.out.cell 3
  go_wp2_with fail
  clear La ca0 ca1 ca2 ca3 Lm cm0 cm1 cm2 cm3
  have Nu : At (v9.alloc (.cells #[.int .u64 (wd N0 0 : Nat), .int .u64 (wd N0 1 : Nat), .int .u64 (wd N0 2 : Nat), .int .u64 (wd N0 3 : Nat)] 24)) (v9.heap.size) 24 #[.int .u64 (wd N0 0 : Nat), .int .u64 (wd N0 1 : Nat), .int .u64 (wd N0 2 : Nat), .int .u64 (wd N0 3 : Nat)] := At.at_ _ _ _ _ (by simp)
  have Na : At (v9.alloc (.cells #[.int .u64 (wd N0 0 : Nat), .int .u64 (wd N0 1 : Nat), .int .u64 (wd N0 2 : Nat), .int .u64 (wd N0 3 : Nat)] 24)) ga 24 #[.int .u64 (wd A 0 : Nat), .int .u64 (wd A 1 : Nat), .int .u64 (wd A 2 : Nat), .int .u64 (wd A 3 : Nat)] := Fa.out.alloc _
  have Nb : At (v9.alloc (.cells #[.int .u64 (wd N0 0 : Nat), .int .u64 (wd N0 1 : Nat), .int .u64 (wd N0 2 : Nat), .int .u64 (wd N0 3 : Nat)] 24)) gb 24 #[.int .u64 (wd B 0 : Nat), .int .u64 (wd B 1 : Nat), .int .u64 (wd B 2 : Nat), .int .u64 (wd B 3 : Nat)] := Fb.out.alloc _
  have Nm : At (v9.alloc (.cells #[.int .u64 (wd N0 0 : Nat), .int .u64 (wd N0 1 : Nat), .int .u64 (wd N0 2 : Nat), .int .u64 (wd N0 3 : Nat)] 24)) gm 24 #[.int .u64 (wd M 0 : Nat), .int .u64 (wd M 1 : Nat), .int .u64 (wd M 2 : Nat), .int .u64 (wd M 3 : Nat)] := Fm.out.alloc _
  have Nx : At (v9.alloc (.cells #[.int .u64 (wd N0 0 : Nat), .int .u64 (wd N0 1 : Nat), .int .u64 (wd N0 2 : Nat), .int .u64 (wd N0 3 : Nat)] 24)) gx 24 #[.int .u64 (wd N0 0 : Nat), .int .u64 (wd N0 1 : Nat), .int .u64 (wd N0 2 : Nat), .int .u64 (wd N0 3 : Nat)] := Fx.out.alloc _
  have Ny : At (v9.alloc (.cells #[.int .u64 (wd N0 0 : Nat), .int .u64 (wd N0 1 : Nat), .int .u64 (wd N0 2 : Nat), .int .u64 (wd N0 3 : Nat)] 24)) gy 24 #[.int .u64 (wd N0 0 : Nat), .int .u64 (wd N0 1 : Nat), .int .u64 (wd N0 2 : Nat), .int .u64 (wd N0 3 : Nat)] := Fy.out.alloc _
  have Nz : At (v9.alloc (.cells #[.int .u64 (wd N0 0 : Nat), .int .u64 (wd N0 1 : Nat), .int .u64 (wd N0 2 : Nat), .int .u64 (wd N0 3 : Nat)] 24)) gz 24 #[.int .u64 (wd N0 0 : Nat), .int .u64 (wd N0 1 : Nat), .int .u64 (wd N0 2 : Nat), .int .u64 (wd N0 3 : Nat)] := Fz.out.alloc _
  have NB : Below w.heap.size w (v9.alloc (.cells #[.int .u64 (wd N0 0 : Nat), .int .u64 (wd N0 1 : Nat), .int .u64 (wd N0 2 : Nat), .int .u64 (wd N0 3 : Nat)] 24)) := gr_alloc BW.out _
  clear BW Fa Fb Fm Fx Fy Fz
  generalize (v9.alloc (.cells #[.int .u64 (wd N0 0 : Nat), .int .u64 (wd N0 1 : Nat), .int .u64 (wd N0 2 : Nat), .int .u64 (wd N0 3 : Nat)] 24)) = W10 at *
  generalize v9.heap.size = gu at *
  have Fa := Lib.hid Na
  have Fb := Lib.hid Nb
  have Fm := Lib.hid Nm
  have Fx := Lib.hid Nx
  have Fy := Lib.hid Ny
  have Fz := Lib.hid Nz
  have Fu := Lib.hid Nu
  have BW := Lib.hid NB
  clear NB Na Nb Nm Nx Ny Nz Nu
  refine (HA5.out _).mono ?_
  rintro e v11 ⟨rfl, z11⟩
  have Na := Lib.hid (Fa.out.on z11)
  have Nb := Lib.hid (Fb.out.on z11)
  have Nm := Lib.hid (Fm.out.on z11)
  have Nx := Lib.hid (Fx.out.on z11)
  have Ny := Lib.hid (Fy.out.on z11)
  have Nz := Lib.hid (Fz.out.on z11)
  have Nu := Lib.hid (Fu.out.on z11)
  have NB := Lib.hid (bel_tr BW.out z11)
  clear BW z11 Fa Fb Fm Fx Fy Fz Fu
  have Fa := Na
  have Fb := Nb
  have Fm := Nm
  have Fx := Nx
  have Fy := Ny
  have Fz := Nz
  have Fu := Nu
  have BW := NB
  clear NB Na Nb Nm Nx Ny Nz Nu
  go_wp2_with fail
  have Nv : At (v11.alloc (.cells #[.int .u64 (wd N0 0 : Nat), .int .u64 (wd N0 1 : Nat), .int .u64 (wd N0 2 : Nat), .int .u64 (wd N0 3 : Nat)] 24)) (v11.heap.size) 24 #[.int .u64 (wd N0 0 : Nat), .int .u64 (wd N0 1 : Nat), .int .u64 (wd N0 2 : Nat), .int .u64 (wd N0 3 : Nat)] := At.at_ _ _ _ _ (by simp)
  have Na : At (v11.alloc (.cells #[.int .u64 (wd N0 0 : Nat), .int .u64 (wd N0 1 : Nat), .int .u64 (wd N0 2 : Nat), .int .u64 (wd N0 3 : Nat)] 24)) ga 24 #[.int .u64 (wd A 0 : Nat), .int .u64 (wd A 1 : Nat), .int .u64 (wd A 2 : Nat), .int .u64 (wd A 3 : Nat)] := Fa.out.alloc _
  have Nb : At (v11.alloc (.cells #[.int .u64 (wd N0 0 : Nat), .int .u64 (wd N0 1 : Nat), .int .u64 (wd N0 2 : Nat), .int .u64 (wd N0 3 : Nat)] 24)) gb 24 #[.int .u64 (wd B 0 : Nat), .int .u64 (wd B 1 : Nat), .int .u64 (wd B 2 : Nat), .int .u64 (wd B 3 : Nat)] := Fb.out.alloc _
  have Nm : At (v11.alloc (.cells #[.int .u64 (wd N0 0 : Nat), .int .u64 (wd N0 1 : Nat), .int .u64 (wd N0 2 : Nat), .int .u64 (wd N0 3 : Nat)] 24)) gm 24 #[.int .u64 (wd M 0 : Nat), .int .u64 (wd M 1 : Nat), .int .u64 (wd M 2 : Nat), .int .u64 (wd M 3 : Nat)] := Fm.out.alloc _
  have Nx : At (v11.alloc (.cells #[.int .u64 (wd N0 0 : Nat), .int .u64 (wd N0 1 : Nat), .int .u64 (wd N0 2 : Nat), .int .u64 (wd N0 3 : Nat)] 24)) gx 24 #[.int .u64 (wd N0 0 : Nat), .int .u64 (wd N0 1 : Nat), .int .u64 (wd N0 2 : Nat), .int .u64 (wd N0 3 : Nat)] := Fx.out.alloc _
  have Ny : At (v11.alloc (.cells #[.int .u64 (wd N0 0 : Nat), .int .u64 (wd N0 1 : Nat), .int .u64 (wd N0 2 : Nat), .int .u64 (wd N0 3 : Nat)] 24)) gy 24 #[.int .u64 (wd N0 0 : Nat), .int .u64 (wd N0 1 : Nat), .int .u64 (wd N0 2 : Nat), .int .u64 (wd N0 3 : Nat)] := Fy.out.alloc _
  have Nz : At (v11.alloc (.cells #[.int .u64 (wd N0 0 : Nat), .int .u64 (wd N0 1 : Nat), .int .u64 (wd N0 2 : Nat), .int .u64 (wd N0 3 : Nat)] 24)) gz 24 #[.int .u64 (wd N0 0 : Nat), .int .u64 (wd N0 1 : Nat), .int .u64 (wd N0 2 : Nat), .int .u64 (wd N0 3 : Nat)] := Fz.out.alloc _
  have Nu : At (v11.alloc (.cells #[.int .u64 (wd N0 0 : Nat), .int .u64 (wd N0 1 : Nat), .int .u64 (wd N0 2 : Nat), .int .u64 (wd N0 3 : Nat)] 24)) gu 24 #[.int .u64 (wd N0 0 : Nat), .int .u64 (wd N0 1 : Nat), .int .u64 (wd N0 2 : Nat), .int .u64 (wd N0 3 : Nat)] := Fu.out.alloc _
  have NB : Below w.heap.size w (v11.alloc (.cells #[.int .u64 (wd N0 0 : Nat), .int .u64 (wd N0 1 : Nat), .int .u64 (wd N0 2 : Nat), .int .u64 (wd N0 3 : Nat)] 24)) := gr_alloc BW.out _
  clear BW Fa Fb Fm Fx Fy Fz Fu
  generalize (v11.alloc (.cells #[.int .u64 (wd N0 0 : Nat), .int .u64 (wd N0 1 : Nat), .int .u64 (wd N0 2 : Nat), .int .u64 (wd N0 3 : Nat)] 24)) = W12 at *
  generalize v11.heap.size = gv at *
  have Fa := Lib.hid Na
  have Fb := Lib.hid Nb
  have Fm := Lib.hid Nm
  have Fx := Lib.hid Nx
  have Fy := Lib.hid Ny
  have Fz := Lib.hid Nz
  have Fu := Lib.hid Nu
  have Fv := Lib.hid Nv
  have BW := Lib.hid NB
  clear NB Na Nb Nm Nx Ny Nz Nu Nv
  clear Fa
  clear Fb
  clear Fm
  clear Fv
  try simp only [List.append_eq, List.cons_append, List.nil_append]
  refine wp_region_noPanic ?_
  refine wp_region_held_drew (S := fun w' => At w' gx 24 #[.int .u64 (wd N0 0 : Nat), .int .u64 (wd N0 1 : Nat), .int .u64 (wd N0 2 : Nat), .int .u64 (wd N0 3 : Nat)] ∧ At w' gy 24 #[.int .u64 (wd N0 0 : Nat), .int .u64 (wd N0 1 : Nat), .int .u64 (wd N0 2 : Nat), .int .u64 (wd N0 3 : Nat)] ∧ At w' gz 24 #[.int .u64 (wd N0 0 : Nat), .int .u64 (wd N0 1 : Nat), .int .u64 (wd N0 2 : Nat), .int .u64 (wd N0 3 : Nat)] ∧ At w' gu 24 #[.int .u64 (wd N0 0 : Nat), .int .u64 (wd N0 1 : Nat), .int .u64 (wd N0 2 : Nat), .int .u64 (wd N0 3 : Nat)]) (by kernel_rfl) (⟨Fx.out.drew, Fy.out.drew, Fz.out.drew, Fu.out.drew⟩) (fun _ => ?_)
  refine wpAnyH_cores (fuel := 1) (⟨0, 72, [], Kind.val (.bool true), false⟩ :: ⟨1, 73, [0], Kind.val (.bool true), true⟩ :: ⟨2, 74, [1], Kind.val (.int .i64 1), true⟩ :: ⟨3, 75, [1, 2], Kind.val (.bool true), true⟩ :: ⟨4, 76, [1, 3], Kind.val (.bool false), true⟩ :: ⟨5, 77, [1, 4], Kind.val (.bool true), true⟩ :: ⟨6, 78, [1, 3, 5], Kind.val (.bool true), true⟩ :: ⟨7, 79, [1, 6], Kind.val (.bool true), true⟩ :: ⟨8, 80, [7], Kind.val (.bool true), true⟩ :: ⟨9, 81, [8], Kind.val (.int .i64 1), true⟩ :: ⟨10, 82, [8, 9], Kind.val (.bool true), true⟩ :: ⟨11, 83, [8, 10], Kind.val (.bool false), true⟩ :: ⟨12, 84, [8, 11], Kind.val (.bool true), true⟩ :: ⟨13, 85, [8, 10, 12], Kind.val (.bool true), true⟩ :: ⟨14, 86, [8, 13], Kind.val (.bool true), true⟩ :: ⟨15, 87, [14], Kind.val (.bool true), true⟩ :: ⟨16, 88, [15], Kind.val (.int .i64 1), true⟩ :: ⟨17, 89, [15, 16], Kind.val (.bool true), true⟩ :: ⟨18, 90, [15, 17], Kind.val (.bool false), true⟩ :: ⟨19, 91, [15, 18], Kind.val (.bool true), true⟩ :: ⟨20, 92, [15, 17, 19], Kind.val (.bool true), true⟩ :: ⟨21, 93, [15, 20], Kind.val (.bool true), true⟩ :: ⟨22, 94, [21], Kind.val (.bool true), true⟩ :: ⟨23, 95, [22], Kind.val (.int .i64 1), true⟩ :: ⟨24, 96, [22, 23], Kind.val (.bool true), true⟩ :: ⟨25, 97, [22, 24], Kind.val (.bool false), true⟩ :: ⟨26, 98, [22, 25], Kind.val (.bool true), true⟩ :: ⟨27, 99, [22, 24, 26], Kind.val (.bool true), true⟩ :: ⟨28, 100, [22, 27], Kind.val (.bool true), true⟩ :: ⟨29, 101, [28], Kind.val (.bool true), true⟩ :: ⟨30, 102, [29], Kind.val (.int .i64 1), true⟩ :: ⟨31, 103, [29, 30], Kind.val (.bool true), true⟩ :: ⟨32, 104, [29, 31], Kind.val (.bool false), true⟩ :: ⟨33, 105, [29, 32], Kind.val (.bool true), true⟩ :: ⟨34, 106, [29, 31, 33], Kind.val (.bool true), true⟩ :: ⟨35, 107, [29, 34], Kind.val (.bool true), true⟩ :: ⟨36, 108, [35], Kind.val (.bool true), true⟩ :: ⟨37, 109, [36], Kind.val (.bool false), true⟩ :: ⟨38, 110, [36, 37], Kind.val (.bool false), true⟩ :: ⟨39, 111, [38], Kind.val (.agg #[.int .u64 (wd N0 0 : Nat), .int .u64 (wd N0 1 : Nat), .int .u64 (wd N0 2 : Nat), .int .u64 (wd N0 3 : Nat)]), true⟩ :: ⟨40, 112, [38, 39], Kind.val (.agg #[.int .u64 (wd N0 0 : Nat), .int .u64 (wd N0 1 : Nat), .int .u64 (wd N0 2 : Nat), .int .u64 (wd N0 3 : Nat)]), false⟩ :: ⟨41, 113, [38, 39, 40], Kind.val (.bool true), true⟩ :: ⟨42, 114, [38, 41], Kind.val (.bool true), true⟩ :: ⟨43, 115, [42], Kind.val (.agg #[.int .u64 (wd N0 0 : Nat), .int .u64 (wd N0 1 : Nat), .int .u64 (wd N0 2 : Nat), .int .u64 (wd N0 3 : Nat)]), true⟩ :: ⟨44, 116, [42, 43], Kind.val (.agg #[.int .u64 (wd N0 0 : Nat), .int .u64 (wd N0 1 : Nat), .int .u64 (wd N0 2 : Nat), .int .u64 (wd N0 3 : Nat)]), false⟩ :: ⟨45, 117, [42, 43, 44], Kind.val (.bool true), true⟩ :: ⟨46, 118, [38, 42, 45], Kind.val (.bool true), true⟩ :: ⟨47, 119, [38, 46], Kind.val (.bool true), true⟩ :: ⟨48, 120, [47], Kind.val (.agg #[.int .u64 (wd N0 0 : Nat), .int .u64 (wd N0 1 : Nat), .int .u64 (wd N0 2 : Nat), .int .u64 (wd N0 3 : Nat)]), true⟩ :: ⟨49, 121, [47, 48], Kind.val (.agg #[.int .u64 (wd N0 0 : Nat), .int .u64 (wd N0 1 : Nat), .int .u64 (wd N0 2 : Nat), .int .u64 (wd N0 3 : Nat)]), false⟩ :: ⟨50, 122, [47, 48, 49], Kind.val (.bool true), true⟩ :: ⟨51, 123, [38, 47, 50], Kind.val (.bool true), true⟩ :: ⟨52, 124, [36, 38, 51], Kind.val (.bool true), true⟩ :: ⟨53, 125, [36, 52], Kind.val (.bool true), true⟩ :: ⟨54, 126, [53], Kind.val (.bool true), true⟩ :: ⟨55, 127, [54], Kind.val (.bool false), true⟩ :: ⟨56, 128, [54, 55], Kind.val (.bool false), true⟩ :: ⟨57, 129, [56], Kind.val (.agg #[.int .u64 (wd N0 0 : Nat), .int .u64 (wd N0 1 : Nat), .int .u64 (wd N0 2 : Nat), .int .u64 (wd N0 3 : Nat)]), true⟩ :: ⟨58, 130, [56, 57], Kind.val (.agg #[.int .u64 (wd N0 0 : Nat), .int .u64 (wd N0 1 : Nat), .int .u64 (wd N0 2 : Nat), .int .u64 (wd N0 3 : Nat)]), false⟩ :: ⟨59, 131, [56, 57, 58], Kind.val (.bool true), true⟩ :: ⟨60, 132, [54, 56, 59], Kind.val (.bool true), true⟩ :: ⟨61, 133, [54, 60], Kind.val (.bool true), true⟩ :: []) _ _ W12 _ ?_ ?_ ?_ ?_ ?_ ?_ ?_ ?_ ?_ ?_ ?_
  · rfl
  · kernel_rfl
  · exact of_decide_eq_true (by kernel_rfl)
  · exact all_cons ⟨_, by rfl, by rfl⟩ (all_cons ⟨_, by rfl, by rfl⟩ (all_cons ⟨_, by rfl, by rfl⟩ (all_cons ⟨_, by rfl, by rfl⟩ (all_cons ⟨_, by rfl, by rfl⟩ (all_cons ⟨_, by rfl, by rfl⟩ (all_cons ⟨_, by rfl, by rfl⟩ (all_cons ⟨_, by rfl, by rfl⟩ (all_cons ⟨_, by rfl, by rfl⟩ (all_cons ⟨_, by rfl, by rfl⟩ (all_cons ⟨_, by rfl, by rfl⟩ (all_cons ⟨_, by rfl, by rfl⟩ (all_cons ⟨_, by rfl, by rfl⟩ (all_cons ⟨_, by rfl, by rfl⟩ (all_cons ⟨_, by rfl, by rfl⟩ (all_cons ⟨_, by rfl, by rfl⟩ (all_cons ⟨_, by rfl, by rfl⟩ (all_cons ⟨_, by rfl, by rfl⟩ (all_cons ⟨_, by rfl, by rfl⟩ (all_cons ⟨_, by rfl, by rfl⟩ (all_cons ⟨_, by rfl, by rfl⟩ (all_cons ⟨_, by rfl, by rfl⟩ (all_cons ⟨_, by rfl, by rfl⟩ (all_cons ⟨_, by rfl, by rfl⟩ (all_cons ⟨_, by rfl, by rfl⟩ (all_cons ⟨_, by rfl, by rfl⟩ (all_cons ⟨_, by rfl, by rfl⟩ (all_cons ⟨_, by rfl, by rfl⟩ (all_cons ⟨_, by rfl, by rfl⟩ (all_cons ⟨_, by rfl, by rfl⟩ (all_cons ⟨_, by rfl, by rfl⟩ (all_cons ⟨_, by rfl, by rfl⟩ (all_cons ⟨_, by rfl, by rfl⟩ (all_cons ⟨_, by rfl, by rfl⟩ (all_cons ⟨_, by rfl, by rfl⟩ (all_cons ⟨_, by rfl, by rfl⟩ (all_cons ⟨_, by rfl, by rfl⟩ (all_cons ⟨_, by rfl, by rfl⟩ (all_cons ⟨_, by rfl, by rfl⟩ (all_cons ⟨_, by rfl, by rfl⟩ (all_cons ⟨_, by rfl, by rfl⟩ (all_cons ⟨_, by rfl, by rfl⟩ (all_cons ⟨_, by rfl, by rfl⟩ (all_cons ⟨_, by rfl, by rfl⟩ (all_cons ⟨_, by rfl, by rfl⟩ (all_cons ⟨_, by rfl, by rfl⟩ (all_cons ⟨_, by rfl, by rfl⟩ (all_cons ⟨_, by rfl, by rfl⟩ (all_cons ⟨_, by rfl, by rfl⟩ (all_cons ⟨_, by rfl, by rfl⟩ (all_cons ⟨_, by rfl, by rfl⟩ (all_cons ⟨_, by rfl, by rfl⟩ (all_cons ⟨_, by rfl, by rfl⟩ (all_cons ⟨_, by rfl, by rfl⟩ (all_cons ⟨_, by rfl, by rfl⟩ (all_cons ⟨_, by rfl, by rfl⟩ (all_cons ⟨_, by rfl, by rfl⟩ (all_cons ⟨_, by rfl, by rfl⟩ (all_cons ⟨_, by rfl, by rfl⟩ (all_cons ⟨_, by rfl, by rfl⟩ (all_cons ⟨_, by rfl, by rfl⟩ (all_cons ⟨_, by rfl, by rfl⟩ (all_nil))))))))))))))))))))))))))))))))))))))))))))))))))))))))))))))
  · exact fun _ hb => ⟨Fx.out.on hb, Fy.out.on hb, Fz.out.on hb, Fu.out.on hb⟩
  · exact (Below.refl _ _).drew
  · kernel_rfl
  · exact fun _ _ _ _ _ h => h
  · refine all_cons ?_ (all_cons ?_ (all_cons ?_ (all_cons ?_ (all_cons ?_ (all_cons ?_ (all_cons ?_ (all_cons ?_ (all_cons ?_ (all_cons ?_ (all_cons ?_ (all_cons ?_ (all_cons ?_ (all_cons ?_ (all_cons ?_ (all_cons ?_ (all_cons ?_ (all_cons ?_ (all_cons ?_ (all_cons ?_ (all_cons ?_ (all_cons ?_ (all_cons ?_ (all_cons ?_ (all_cons ?_ (all_cons ?_ (all_cons ?_ (all_cons ?_ (all_cons ?_ (all_cons ?_ (all_cons ?_ (all_cons ?_ (all_cons ?_ (all_cons ?_ (all_cons ?_ (all_cons ?_ (all_cons ?_ (all_cons ?_ (all_cons ?_ (all_cons ?_ (all_cons ?_ (all_cons ?_ (all_cons ?_ (all_cons ?_ (all_cons ?_ (all_cons ?_ (all_cons ?_ (all_cons ?_ (all_cons ?_ (all_cons ?_ (all_cons ?_ (all_cons ?_ (all_cons ?_ (all_cons ?_ (all_cons ?_ (all_cons ?_ (all_cons ?_ (all_cons ?_ (all_cons ?_ (all_cons ?_ (all_cons ?_ (all_cons ?_ (all_nil))))))))))))))))))))))))))))))))))))))))))))))))))))))))))))))
    · exact core_pureAs _ (by rfl)
    · exact coreG_move _ _ _ _ _ _ _ (by rfl) (by rfl) (wants_none) (known_core 0 72 _ _ (of_decide_eq_true (by rfl)) (by rfl) (by rfl) (by rfl))
    · exact coreG_move _ _ _ _ _ _ _ (by rfl) (by rfl) (wants_core 1 73 1 _ _ _ (by rfl) (by rfl) (by rfl) (known_core 1 73 _ _ (of_decide_eq_true (by rfl)) (by rfl) (by rfl) (by rfl)) _ (by rfl)) (known_old 11 _ (of_decide_eq_true (by rfl)) (by rfl))
    · exact coreG_bin _ _ _ _ _ _ _ _ _ _ _ _ _ (by rfl) (by rfl) (wants_core 1 73 1 _ _ _ (by rfl) (by rfl) (by rfl) (known_core 1 73 _ _ (of_decide_eq_true (by rfl)) (by rfl) (by rfl) (by rfl)) _ (by rfl)) (known_core 2 74 _ _ (of_decide_eq_true (by rfl)) (by rfl) (by rfl) (by rfl)) (known_const _) ((fun ρ w hx hy => by simp only [execOp, hx, hy]; simp [go_sem]))
    · exact coreG_move _ _ _ _ _ _ _ (by rfl) (by rfl) (wants_core 1 73 1 _ _ _ (by rfl) (by rfl) (by rfl) (known_core 1 73 _ _ (of_decide_eq_true (by rfl)) (by rfl) (by rfl) (by rfl)) _ (by rfl)) (known_old 9 _ (of_decide_eq_true (by rfl)) (by rfl))
    · exact coreG_un _ _ _ _ _ _ _ _ _ _ (by rfl) (by rfl) (wants_core 1 73 1 _ _ _ (by rfl) (by rfl) (by rfl) (known_core 1 73 _ _ (of_decide_eq_true (by rfl)) (by rfl) (by rfl) (by rfl)) _ (by rfl)) (known_core 4 76 _ _ (of_decide_eq_true (by rfl)) (by rfl) (by rfl) (by rfl)) (fun ρ w hx => by simp only [execOp, hx]; simp [go_sem])
    · exact coreG_bin _ _ _ _ _ _ _ _ _ _ _ _ _ (by rfl) (by rfl) (wants_core 1 73 1 _ _ _ (by rfl) (by rfl) (by rfl) (known_core 1 73 _ _ (of_decide_eq_true (by rfl)) (by rfl) (by rfl) (by rfl)) _ (by rfl)) (known_core 3 75 _ _ (of_decide_eq_true (by rfl)) (by rfl) (by rfl) (by rfl)) (known_core 5 77 _ _ (of_decide_eq_true (by rfl)) (by rfl) (by rfl) (by rfl)) ((fun ρ w hx hy => by simp only [execOp, hx, hy]; simp [go_sem]))
    · exact coreG_pick _ _ _ _ _ _ _ _ _ _ _ _ (by rfl) (by rfl) (wants_none) (known_core 1 73 _ _ (of_decide_eq_true (by rfl)) (by rfl) (by rfl) (by rfl)) (known_core 6 78 _ _ (of_decide_eq_true (by rfl)) (by rfl) (by rfl) (by rfl)) (known_const _) (by rfl)
    · exact coreG_move _ _ _ _ _ _ _ (by rfl) (by rfl) (wants_none) (known_core 7 79 _ _ (of_decide_eq_true (by rfl)) (by rfl) (by rfl) (by rfl))
    · exact coreG_move _ _ _ _ _ _ _ (by rfl) (by rfl) (wants_core 8 80 8 _ _ _ (by rfl) (by rfl) (by rfl) (known_core 8 80 _ _ (of_decide_eq_true (by rfl)) (by rfl) (by rfl) (by rfl)) _ (by rfl)) (known_old 13 _ (of_decide_eq_true (by rfl)) (by rfl))
    · exact coreG_bin _ _ _ _ _ _ _ _ _ _ _ _ _ (by rfl) (by rfl) (wants_core 8 80 8 _ _ _ (by rfl) (by rfl) (by rfl) (known_core 8 80 _ _ (of_decide_eq_true (by rfl)) (by rfl) (by rfl) (by rfl)) _ (by rfl)) (known_core 9 81 _ _ (of_decide_eq_true (by rfl)) (by rfl) (by rfl) (by rfl)) (known_const _) ((fun ρ w hx hy => by simp only [execOp, hx, hy]; simp [go_sem]))
    · exact coreG_move _ _ _ _ _ _ _ (by rfl) (by rfl) (wants_core 8 80 8 _ _ _ (by rfl) (by rfl) (by rfl) (known_core 8 80 _ _ (of_decide_eq_true (by rfl)) (by rfl) (by rfl) (by rfl)) _ (by rfl)) (known_old 9 _ (of_decide_eq_true (by rfl)) (by rfl))
    · exact coreG_un _ _ _ _ _ _ _ _ _ _ (by rfl) (by rfl) (wants_core 8 80 8 _ _ _ (by rfl) (by rfl) (by rfl) (known_core 8 80 _ _ (of_decide_eq_true (by rfl)) (by rfl) (by rfl) (by rfl)) _ (by rfl)) (known_core 11 83 _ _ (of_decide_eq_true (by rfl)) (by rfl) (by rfl) (by rfl)) (fun ρ w hx => by simp only [execOp, hx]; simp [go_sem])
    · exact coreG_bin _ _ _ _ _ _ _ _ _ _ _ _ _ (by rfl) (by rfl) (wants_core 8 80 8 _ _ _ (by rfl) (by rfl) (by rfl) (known_core 8 80 _ _ (of_decide_eq_true (by rfl)) (by rfl) (by rfl) (by rfl)) _ (by rfl)) (known_core 10 82 _ _ (of_decide_eq_true (by rfl)) (by rfl) (by rfl) (by rfl)) (known_core 12 84 _ _ (of_decide_eq_true (by rfl)) (by rfl) (by rfl) (by rfl)) ((fun ρ w hx hy => by simp only [execOp, hx, hy]; simp [go_sem]))
    · exact coreG_pick _ _ _ _ _ _ _ _ _ _ _ _ (by rfl) (by rfl) (wants_none) (known_core 8 80 _ _ (of_decide_eq_true (by rfl)) (by rfl) (by rfl) (by rfl)) (known_core 13 85 _ _ (of_decide_eq_true (by rfl)) (by rfl) (by rfl) (by rfl)) (known_const _) (by rfl)
    · exact coreG_move _ _ _ _ _ _ _ (by rfl) (by rfl) (wants_none) (known_core 14 86 _ _ (of_decide_eq_true (by rfl)) (by rfl) (by rfl) (by rfl))
    · exact coreG_move _ _ _ _ _ _ _ (by rfl) (by rfl) (wants_core 15 87 15 _ _ _ (by rfl) (by rfl) (by rfl) (known_core 15 87 _ _ (of_decide_eq_true (by rfl)) (by rfl) (by rfl) (by rfl)) _ (by rfl)) (known_old 15 _ (of_decide_eq_true (by rfl)) (by rfl))
    · exact coreG_bin _ _ _ _ _ _ _ _ _ _ _ _ _ (by rfl) (by rfl) (wants_core 15 87 15 _ _ _ (by rfl) (by rfl) (by rfl) (known_core 15 87 _ _ (of_decide_eq_true (by rfl)) (by rfl) (by rfl) (by rfl)) _ (by rfl)) (known_core 16 88 _ _ (of_decide_eq_true (by rfl)) (by rfl) (by rfl) (by rfl)) (known_const _) ((fun ρ w hx hy => by simp only [execOp, hx, hy]; simp [go_sem]))
    · exact coreG_move _ _ _ _ _ _ _ (by rfl) (by rfl) (wants_core 15 87 15 _ _ _ (by rfl) (by rfl) (by rfl) (known_core 15 87 _ _ (of_decide_eq_true (by rfl)) (by rfl) (by rfl) (by rfl)) _ (by rfl)) (known_old 9 _ (of_decide_eq_true (by rfl)) (by rfl))
    · exact coreG_un _ _ _ _ _ _ _ _ _ _ (by rfl) (by rfl) (wants_core 15 87 15 _ _ _ (by rfl) (by rfl) (by rfl) (known_core 15 87 _ _ (of_decide_eq_true (by rfl)) (by rfl) (by rfl) (by rfl)) _ (by rfl)) (known_core 18 90 _ _ (of_decide_eq_true (by rfl)) (by rfl) (by rfl) (by rfl)) (fun ρ w hx => by simp only [execOp, hx]; simp [go_sem])
    · exact coreG_bin _ _ _ _ _ _ _ _ _ _ _ _ _ (by rfl) (by rfl) (wants_core 15 87 15 _ _ _ (by rfl) (by rfl) (by rfl) (known_core 15 87 _ _ (of_decide_eq_true (by rfl)) (by rfl) (by rfl) (by rfl)) _ (by rfl)) (known_core 17 89 _ _ (of_decide_eq_true (by rfl)) (by rfl) (by rfl) (by rfl)) (known_core 19 91 _ _ (of_decide_eq_true (by rfl)) (by rfl) (by rfl) (by rfl)) ((fun ρ w hx hy => by simp only [execOp, hx, hy]; simp [go_sem]))
    · exact coreG_pick _ _ _ _ _ _ _ _ _ _ _ _ (by rfl) (by rfl) (wants_none) (known_core 15 87 _ _ (of_decide_eq_true (by rfl)) (by rfl) (by rfl) (by rfl)) (known_core 20 92 _ _ (of_decide_eq_true (by rfl)) (by rfl) (by rfl) (by rfl)) (known_const _) (by rfl)
    · exact coreG_move _ _ _ _ _ _ _ (by rfl) (by rfl) (wants_none) (known_core 21 93 _ _ (of_decide_eq_true (by rfl)) (by rfl) (by rfl) (by rfl))
    · exact coreG_move _ _ _ _ _ _ _ (by rfl) (by rfl) (wants_core 22 94 22 _ _ _ (by rfl) (by rfl) (by rfl) (known_core 22 94 _ _ (of_decide_eq_true (by rfl)) (by rfl) (by rfl) (by rfl)) _ (by rfl)) (known_old 17 _ (of_decide_eq_true (by rfl)) (by rfl))
    · exact coreG_bin _ _ _ _ _ _ _ _ _ _ _ _ _ (by rfl) (by rfl) (wants_core 22 94 22 _ _ _ (by rfl) (by rfl) (by rfl) (known_core 22 94 _ _ (of_decide_eq_true (by rfl)) (by rfl) (by rfl) (by rfl)) _ (by rfl)) (known_core 23 95 _ _ (of_decide_eq_true (by rfl)) (by rfl) (by rfl) (by rfl)) (known_const _) ((fun ρ w hx hy => by simp only [execOp, hx, hy]; simp [go_sem]))
    · exact coreG_move _ _ _ _ _ _ _ (by rfl) (by rfl) (wants_core 22 94 22 _ _ _ (by rfl) (by rfl) (by rfl) (known_core 22 94 _ _ (of_decide_eq_true (by rfl)) (by rfl) (by rfl) (by rfl)) _ (by rfl)) (known_old 8 _ (of_decide_eq_true (by rfl)) (by rfl))
    · exact coreG_un _ _ _ _ _ _ _ _ _ _ (by rfl) (by rfl) (wants_core 22 94 22 _ _ _ (by rfl) (by rfl) (by rfl) (known_core 22 94 _ _ (of_decide_eq_true (by rfl)) (by rfl) (by rfl) (by rfl)) _ (by rfl)) (known_core 25 97 _ _ (of_decide_eq_true (by rfl)) (by rfl) (by rfl) (by rfl)) (fun ρ w hx => by simp only [execOp, hx]; simp [go_sem])
    · exact coreG_bin _ _ _ _ _ _ _ _ _ _ _ _ _ (by rfl) (by rfl) (wants_core 22 94 22 _ _ _ (by rfl) (by rfl) (by rfl) (known_core 22 94 _ _ (of_decide_eq_true (by rfl)) (by rfl) (by rfl) (by rfl)) _ (by rfl)) (known_core 24 96 _ _ (of_decide_eq_true (by rfl)) (by rfl) (by rfl) (by rfl)) (known_core 26 98 _ _ (of_decide_eq_true (by rfl)) (by rfl) (by rfl) (by rfl)) ((fun ρ w hx hy => by simp only [execOp, hx, hy]; simp [go_sem]))
    · exact coreG_pick _ _ _ _ _ _ _ _ _ _ _ _ (by rfl) (by rfl) (wants_none) (known_core 22 94 _ _ (of_decide_eq_true (by rfl)) (by rfl) (by rfl) (by rfl)) (known_core 27 99 _ _ (of_decide_eq_true (by rfl)) (by rfl) (by rfl) (by rfl)) (known_const _) (by rfl)
    · exact coreG_move _ _ _ _ _ _ _ (by rfl) (by rfl) (wants_none) (known_core 28 100 _ _ (of_decide_eq_true (by rfl)) (by rfl) (by rfl) (by rfl))
    · exact coreG_move _ _ _ _ _ _ _ (by rfl) (by rfl) (wants_core 29 101 29 _ _ _ (by rfl) (by rfl) (by rfl) (known_core 29 101 _ _ (of_decide_eq_true (by rfl)) (by rfl) (by rfl) (by rfl)) _ (by rfl)) (known_old 19 _ (of_decide_eq_true (by rfl)) (by rfl))
    · exact coreG_bin _ _ _ _ _ _ _ _ _ _ _ _ _ (by rfl) (by rfl) (wants_core 29 101 29 _ _ _ (by rfl) (by rfl) (by rfl) (known_core 29 101 _ _ (of_decide_eq_true (by rfl)) (by rfl) (by rfl) (by rfl)) _ (by rfl)) (known_core 30 102 _ _ (of_decide_eq_true (by rfl)) (by rfl) (by rfl) (by rfl)) (known_const _) ((fun ρ w hx hy => by simp only [execOp, hx, hy]; simp [go_sem]))
    · exact coreG_move _ _ _ _ _ _ _ (by rfl) (by rfl) (wants_core 29 101 29 _ _ _ (by rfl) (by rfl) (by rfl) (known_core 29 101 _ _ (of_decide_eq_true (by rfl)) (by rfl) (by rfl) (by rfl)) _ (by rfl)) (known_old 8 _ (of_decide_eq_true (by rfl)) (by rfl))
    · exact coreG_un _ _ _ _ _ _ _ _ _ _ (by rfl) (by rfl) (wants_core 29 101 29 _ _ _ (by rfl) (by rfl) (by rfl) (known_core 29 101 _ _ (of_decide_eq_true (by rfl)) (by rfl) (by rfl) (by rfl)) _ (by rfl)) (known_core 32 104 _ _ (of_decide_eq_true (by rfl)) (by rfl) (by rfl) (by rfl)) (fun ρ w hx => by simp only [execOp, hx]; simp [go_sem])
    · exact coreG_bin _ _ _ _ _ _ _ _ _ _ _ _ _ (by rfl) (by rfl) (wants_core 29 101 29 _ _ _ (by rfl) (by rfl) (by rfl) (known_core 29 101 _ _ (of_decide_eq_true (by rfl)) (by rfl) (by rfl) (by rfl)) _ (by rfl)) (known_core 31 103 _ _ (of_decide_eq_true (by rfl)) (by rfl) (by rfl) (by rfl)) (known_core 33 105 _ _ (of_decide_eq_true (by rfl)) (by rfl) (by rfl) (by rfl)) ((fun ρ w hx hy => by simp only [execOp, hx, hy]; simp [go_sem]))
    · exact coreG_pick _ _ _ _ _ _ _ _ _ _ _ _ (by rfl) (by rfl) (wants_none) (known_core 29 101 _ _ (of_decide_eq_true (by rfl)) (by rfl) (by rfl) (by rfl)) (known_core 34 106 _ _ (of_decide_eq_true (by rfl)) (by rfl) (by rfl) (by rfl)) (known_const _) (by rfl)
    · exact coreG_move _ _ _ _ _ _ _ (by rfl) (by rfl) (wants_none) (known_core 35 107 _ _ (of_decide_eq_true (by rfl)) (by rfl) (by rfl) (by rfl))
    · exact coreG_move _ _ _ _ _ _ _ (by rfl) (by rfl) (wants_core 36 108 36 _ _ _ (by rfl) (by rfl) (by rfl) (known_core 36 108 _ _ (of_decide_eq_true (by rfl)) (by rfl) (by rfl) (by rfl)) _ (by rfl)) (known_old 9 _ (of_decide_eq_true (by rfl)) (by rfl))
    · exact coreG_move _ _ _ _ _ _ _ (by rfl) (by rfl) (wants_core 36 108 36 _ _ _ (by rfl) (by rfl) (by rfl) (known_core 36 108 _ _ (of_decide_eq_true (by rfl)) (by rfl) (by rfl) (by rfl)) _ (by rfl)) (known_core 37 109 _ _ (of_decide_eq_true (by rfl)) (by rfl) (by rfl) (by rfl))
    · exact coreG_loadP _ _ _ _ _ _ gx _ _ _ _ (by rfl) (by rfl) (wants_core 38 110 38 _ _ _ (by rfl) (by rfl) (by rfl) (known_core 38 110 _ _ (of_decide_eq_true (by rfl)) (by rfl) (by rfl) (by rfl)) _ (by rfl)) (known_old 10 _ (of_decide_eq_true (by rfl)) (by rfl)) (fun _ hs => hs.1)
    · exact core_pureAs _ (by rfl)
    · exact coreG_bin _ _ _ _ _ _ _ _ _ _ _ _ _ (by rfl) (by rfl) (wants_core 38 110 38 _ _ _ (by rfl) (by rfl) (by rfl) (known_core 38 110 _ _ (of_decide_eq_true (by rfl)) (by rfl) (by rfl) (by rfl)) _ (by rfl)) (known_core 39 111 _ _ (of_decide_eq_true (by rfl)) (by rfl) (by rfl) (by rfl)) (known_core 40 112 _ _ (of_decide_eq_true (by rfl)) (by rfl) (by rfl) (by rfl)) (eql_run true _ _ _ _ _ _ _ _ _ _ _ _ _ _ _ (eqY N0))
    · exact coreG_move _ _ _ _ _ _ _ (by rfl) (by rfl) (wants_core 38 110 38 _ _ _ (by rfl) (by rfl) (by rfl) (known_core 38 110 _ _ (of_decide_eq_true (by rfl)) (by rfl) (by rfl) (by rfl)) _ (by rfl)) (known_core 41 113 _ _ (of_decide_eq_true (by rfl)) (by rfl) (by rfl) (by rfl))
    · exact coreG_loadP _ _ _ _ _ _ gy _ _ _ _ (by rfl) (by rfl) (wants_core 42 114 42 _ _ _ (by rfl) (by rfl) (by rfl) (known_core 42 114 _ _ (of_decide_eq_true (by rfl)) (by rfl) (by rfl) (by rfl)) _ (by rfl)) (known_old 12 _ (of_decide_eq_true (by rfl)) (by rfl)) (fun _ hs => hs.2.1)
    · exact core_pureAs _ (by rfl)
    · exact coreG_bin _ _ _ _ _ _ _ _ _ _ _ _ _ (by rfl) (by rfl) (wants_core 42 114 42 _ _ _ (by rfl) (by rfl) (by rfl) (known_core 42 114 _ _ (of_decide_eq_true (by rfl)) (by rfl) (by rfl) (by rfl)) _ (by rfl)) (known_core 43 115 _ _ (of_decide_eq_true (by rfl)) (by rfl) (by rfl) (by rfl)) (known_core 44 116 _ _ (of_decide_eq_true (by rfl)) (by rfl) (by rfl) (by rfl)) (eql_run true _ _ _ _ _ _ _ _ _ _ _ _ _ _ _ (eqY N0))
    · exact coreG_pick _ _ _ _ _ _ _ _ _ _ _ _ (by rfl) (by rfl) (wants_core 38 110 38 _ _ _ (by rfl) (by rfl) (by rfl) (known_core 38 110 _ _ (of_decide_eq_true (by rfl)) (by rfl) (by rfl) (by rfl)) _ (by rfl)) (known_core 42 114 _ _ (of_decide_eq_true (by rfl)) (by rfl) (by rfl) (by rfl)) (known_core 45 117 _ _ (of_decide_eq_true (by rfl)) (by rfl) (by rfl) (by rfl)) (known_const _) (by rfl)
    · exact coreG_move _ _ _ _ _ _ _ (by rfl) (by rfl) (wants_core 38 110 38 _ _ _ (by rfl) (by rfl) (by rfl) (known_core 38 110 _ _ (of_decide_eq_true (by rfl)) (by rfl) (by rfl) (by rfl)) _ (by rfl)) (known_core 46 118 _ _ (of_decide_eq_true (by rfl)) (by rfl) (by rfl) (by rfl))
    · exact coreG_loadP _ _ _ _ _ _ gz _ _ _ _ (by rfl) (by rfl) (wants_core 47 119 47 _ _ _ (by rfl) (by rfl) (by rfl) (known_core 47 119 _ _ (of_decide_eq_true (by rfl)) (by rfl) (by rfl) (by rfl)) _ (by rfl)) (known_old 14 _ (of_decide_eq_true (by rfl)) (by rfl)) (fun _ hs => hs.2.2.1)
    · exact core_pureAs _ (by rfl)
    · exact coreG_bin _ _ _ _ _ _ _ _ _ _ _ _ _ (by rfl) (by rfl) (wants_core 47 119 47 _ _ _ (by rfl) (by rfl) (by rfl) (known_core 47 119 _ _ (of_decide_eq_true (by rfl)) (by rfl) (by rfl) (by rfl)) _ (by rfl)) (known_core 48 120 _ _ (of_decide_eq_true (by rfl)) (by rfl) (by rfl) (by rfl)) (known_core 49 121 _ _ (of_decide_eq_true (by rfl)) (by rfl) (by rfl) (by rfl)) (eql_run true _ _ _ _ _ _ _ _ _ _ _ _ _ _ _ (eqY N0))
    · exact coreG_pick _ _ _ _ _ _ _ _ _ _ _ _ (by rfl) (by rfl) (wants_core 38 110 38 _ _ _ (by rfl) (by rfl) (by rfl) (known_core 38 110 _ _ (of_decide_eq_true (by rfl)) (by rfl) (by rfl) (by rfl)) _ (by rfl)) (known_core 47 119 _ _ (of_decide_eq_true (by rfl)) (by rfl) (by rfl) (by rfl)) (known_core 50 122 _ _ (of_decide_eq_true (by rfl)) (by rfl) (by rfl) (by rfl)) (known_const _) (by rfl)
    · exact coreG_pick _ _ _ _ _ _ _ _ _ _ _ _ (by rfl) (by rfl) (wants_core 36 108 36 _ _ _ (by rfl) (by rfl) (by rfl) (known_core 36 108 _ _ (of_decide_eq_true (by rfl)) (by rfl) (by rfl) (by rfl)) _ (by rfl)) (known_core 38 110 _ _ (of_decide_eq_true (by rfl)) (by rfl) (by rfl) (by rfl)) (known_const _) (known_core 51 123 _ _ (of_decide_eq_true (by rfl)) (by rfl) (by rfl) (by rfl)) (by rfl)
    · exact coreG_pick _ _ _ _ _ _ _ _ _ _ _ _ (by rfl) (by rfl) (wants_none) (known_core 36 108 _ _ (of_decide_eq_true (by rfl)) (by rfl) (by rfl) (by rfl)) (known_core 52 124 _ _ (of_decide_eq_true (by rfl)) (by rfl) (by rfl) (by rfl)) (known_const _) (by rfl)
    · exact coreG_move _ _ _ _ _ _ _ (by rfl) (by rfl) (wants_none) (known_core 53 125 _ _ (of_decide_eq_true (by rfl)) (by rfl) (by rfl) (by rfl))
    · exact coreG_move _ _ _ _ _ _ _ (by rfl) (by rfl) (wants_core 54 126 54 _ _ _ (by rfl) (by rfl) (by rfl) (known_core 54 126 _ _ (of_decide_eq_true (by rfl)) (by rfl) (by rfl) (by rfl)) _ (by rfl)) (known_old 8 _ (of_decide_eq_true (by rfl)) (by rfl))
    · exact coreG_move _ _ _ _ _ _ _ (by rfl) (by rfl) (wants_core 54 126 54 _ _ _ (by rfl) (by rfl) (by rfl) (known_core 54 126 _ _ (of_decide_eq_true (by rfl)) (by rfl) (by rfl) (by rfl)) _ (by rfl)) (known_core 55 127 _ _ (of_decide_eq_true (by rfl)) (by rfl) (by rfl) (by rfl))
    · exact coreG_loadP _ _ _ _ _ _ gu _ _ _ _ (by rfl) (by rfl) (wants_core 56 128 56 _ _ _ (by rfl) (by rfl) (by rfl) (known_core 56 128 _ _ (of_decide_eq_true (by rfl)) (by rfl) (by rfl) (by rfl)) _ (by rfl)) (known_old 16 _ (of_decide_eq_true (by rfl)) (by rfl)) (fun _ hs => hs.2.2.2)
    · exact core_pureAs _ (by rfl)
    · exact coreG_bin _ _ _ _ _ _ _ _ _ _ _ _ _ (by rfl) (by rfl) (wants_core 56 128 56 _ _ _ (by rfl) (by rfl) (by rfl) (known_core 56 128 _ _ (of_decide_eq_true (by rfl)) (by rfl) (by rfl) (by rfl)) _ (by rfl)) (known_core 57 129 _ _ (of_decide_eq_true (by rfl)) (by rfl) (by rfl) (by rfl)) (known_core 58 130 _ _ (of_decide_eq_true (by rfl)) (by rfl) (by rfl) (by rfl)) (eql_run true _ _ _ _ _ _ _ _ _ _ _ _ _ _ _ (eqY N0))
    · exact coreG_pick _ _ _ _ _ _ _ _ _ _ _ _ (by rfl) (by rfl) (wants_core 54 126 54 _ _ _ (by rfl) (by rfl) (by rfl) (known_core 54 126 _ _ (of_decide_eq_true (by rfl)) (by rfl) (by rfl) (by rfl)) _ (by rfl)) (known_core 56 128 _ _ (of_decide_eq_true (by rfl)) (by rfl) (by rfl) (by rfl)) (known_const _) (known_core 59 131 _ _ (of_decide_eq_true (by rfl)) (by rfl) (by rfl) (by rfl)) (by rfl)
    · exact coreG_pick _ _ _ _ _ _ _ _ _ _ _ _ (by rfl) (by rfl) (wants_none) (known_core 54 126 _ _ (of_decide_eq_true (by rfl)) (by rfl) (by rfl) (by rfl)) (known_core 60 132 _ _ (of_decide_eq_true (by rfl)) (by rfl) (by rfl) (by rfl)) (known_const _) (by rfl)
  · refine all_cons ?_ (all_cons ?_ (all_cons ?_ (all_cons ?_ (all_cons ?_ (all_cons ?_ (all_cons ?_ (all_cons ?_ (all_cons ?_ (all_cons ?_ (all_cons ?_ (all_cons ?_ (all_cons ?_ (all_cons ?_ (all_cons ?_ (all_cons ?_ (all_cons ?_ (all_cons ?_ (all_cons ?_ (all_cons ?_ (all_cons ?_ (all_cons ?_ (all_cons ?_ (all_cons ?_ (all_cons ?_ (all_cons ?_ (all_cons ?_ (all_cons ?_ (all_cons ?_ (all_cons ?_ (all_cons ?_ (all_cons ?_ (all_cons ?_ (all_cons ?_ (all_cons ?_ (all_cons ?_ (all_cons ?_ (all_cons ?_ (all_cons ?_ (all_cons ?_ (all_cons ?_ (all_cons ?_ (all_cons ?_ (all_cons ?_ (all_cons ?_ (all_cons ?_ (all_cons ?_ (all_cons ?_ (all_cons ?_ (all_cons ?_ (all_cons ?_ (all_cons ?_ (all_cons ?_ (all_cons ?_ (all_cons ?_ (all_cons ?_ (all_cons ?_ (all_cons ?_ (all_cons ?_ (all_cons ?_ (all_cons ?_ (all_cons ?_ (all_nil))))))))))))))))))))))))))))))))))))))))))))))))))))))))))))))
    · exact fun _ => coreG_call _ 29 _ _ [] _ _ _ _ _ _ _ (by rfl) Try.func29 (by kernel_rfl) (by rfl) (by rfl) (wants_none) .nil (alive4_any)
    · exact core_stepAs _ (by rfl)
    · exact core_stepAs _ (by rfl)
    · exact core_stepAs _ (by rfl)
    · exact core_stepAs _ (by rfl)
    · exact core_stepAs _ (by rfl)
    · exact core_stepAs _ (by rfl)
    · exact core_stepAs _ (by rfl)
    · exact core_stepAs _ (by rfl)
    · exact core_stepAs _ (by rfl)
    · exact core_stepAs _ (by rfl)
    · exact core_stepAs _ (by rfl)
    · exact core_stepAs _ (by rfl)
    · exact core_stepAs _ (by rfl)
    · exact core_stepAs _ (by rfl)
    · exact core_stepAs _ (by rfl)
    · exact core_stepAs _ (by rfl)
    · exact core_stepAs _ (by rfl)
    · exact core_stepAs _ (by rfl)
    · exact core_stepAs _ (by rfl)
    · exact core_stepAs _ (by rfl)
    · exact core_stepAs _ (by rfl)
    · exact core_stepAs _ (by rfl)
    · exact core_stepAs _ (by rfl)
    · exact core_stepAs _ (by rfl)
    · exact core_stepAs _ (by rfl)
    · exact core_stepAs _ (by rfl)
    · exact core_stepAs _ (by rfl)
    · exact core_stepAs _ (by rfl)
    · exact core_stepAs _ (by rfl)
    · exact core_stepAs _ (by rfl)
    · exact core_stepAs _ (by rfl)
    · exact core_stepAs _ (by rfl)
    · exact core_stepAs _ (by rfl)
    · exact core_stepAs _ (by rfl)
    · exact core_stepAs _ (by rfl)
    · exact core_stepAs _ (by rfl)
    · exact core_stepAs _ (by rfl)
    · exact core_stepAs _ (by rfl)
    · exact core_stepAs _ (by rfl)
    · exact fun _ => coreG_call _ 28 _ _ [.const (.int .u64 0)] _ _ _ _ _ _ _ (by rfl) Try.func28 (by kernel_rfl) (by rfl) (by rfl) (wants_core 38 110 38 _ _ _ (by rfl) (by rfl) (by rfl) (known_core 38 110 _ _ (of_decide_eq_true (by rfl)) (by rfl) (by rfl) (by rfl)) _ (by rfl)) (.cons (known_const _) .nil) (HN.out)
    · exact core_stepAs _ (by rfl)
    · exact core_stepAs _ (by rfl)
    · exact core_stepAs _ (by rfl)
    · exact fun _ => coreG_call _ 28 _ _ [.const (.int .u64 0)] _ _ _ _ _ _ _ (by rfl) Try.func28 (by kernel_rfl) (by rfl) (by rfl) (wants_core 42 114 42 _ _ _ (by rfl) (by rfl) (by rfl) (known_core 42 114 _ _ (of_decide_eq_true (by rfl)) (by rfl) (by rfl) (by rfl)) _ (by rfl)) (.cons (known_const _) .nil) (HN.out)
    · exact core_stepAs _ (by rfl)
    · exact core_stepAs _ (by rfl)
    · exact core_stepAs _ (by rfl)
    · exact core_stepAs _ (by rfl)
    · exact fun _ => coreG_call _ 28 _ _ [.const (.int .u64 0)] _ _ _ _ _ _ _ (by rfl) Try.func28 (by kernel_rfl) (by rfl) (by rfl) (wants_core 47 119 47 _ _ _ (by rfl) (by rfl) (by rfl) (known_core 47 119 _ _ (of_decide_eq_true (by rfl)) (by rfl) (by rfl) (by rfl)) _ (by rfl)) (.cons (known_const _) .nil) (HN.out)
    · exact core_stepAs _ (by rfl)
    · exact core_stepAs _ (by rfl)
    · exact core_stepAs _ (by rfl)
    · exact core_stepAs _ (by rfl)
    · exact core_stepAs _ (by rfl)
    · exact core_stepAs _ (by rfl)
    · exact core_stepAs _ (by rfl)
    · exact core_stepAs _ (by rfl)
    · exact fun _ => coreG_call _ 28 _ _ [.const (.int .u64 0)] _ _ _ _ _ _ _ (by rfl) Try.func28 (by kernel_rfl) (by rfl) (by rfl) (wants_core 56 128 56 _ _ _ (by rfl) (by rfl) (by rfl) (known_core 56 128 _ _ (of_decide_eq_true (by rfl)) (by rfl) (by rfl) (by rfl)) _ (by rfl)) (.cons (known_const _) .nil) (HN.out)
    · exact core_stepAs _ (by rfl)
    · exact core_stepAs _ (by rfl)
    · exact core_stepAs _ (by rfl)
  intro vs y13 hc
  have BZ := bel_tr BW.out hc.bel
  refine assign_one (i := 62) (.tmp 133) 6 _ _ _ (.bool true) (by kernel_rfl) (by rfl) (hc.at_ (of_decide_eq_true (by kernel_rfl)) (by rfl) 61 133 _ (.bool true) (by rfl) (by rfl) (by rfl)) (⟨Fx.out.on hc.bel, Fy.out.on hc.bel, Fz.out.on hc.bel, Fu.out.on hc.bel⟩) ?_
  refine wpAnyH_done (by kernel_rfl) ?_ _
  refine NoPanic.normal ?_
  generalize hA : Act.put (over _ _ vs) (some 6) (.bool true) = A
  have hA0 : A.tmps.getD 6 undef = .bool true := by rw [← hA]; exact put_at _ _ _ (by rw [over_size]; exact Nat.le_of_ble_eq_true rfl)
  have hAd : A.defers = [] := by rw [← hA, put_defers, over_defers]
  clear hA hc
  go_wp2_with fail
  refine bodyPost_ret (v := .bool true) (by simp [results, Try.results9, go_sem] at hA0 ⊢; simp [hA0]) hAd ⟨rfl, BZ⟩

set_option maxRecDepth 100000 in
set_option maxHeartbeats 8000000 in
theorem refuse_a (A B M Z N0 : Nat) (k j : Int)
    (hk : 0 < k)
    (hj : 0 ≤ j)
    (O : ∀ w, Calls Try.prog 28 #[.int .u64 1] w fun e w' => e = .returned (num Z) ∧ Below w.heap.size w w')
    (K : ∀ w, Calls Try.prog 27 #[num M, num Z] w fun e w' => e = .returned (.int .i64 k) ∧ Below w.heap.size w w')
    (N : ∀ w, Calls Try.prog 28 #[.int .u64 0] w fun e w' => e = .returned (num N0) ∧ Below w.heap.size w w')
    (J : ∀ w, Calls Try.prog 27 #[num A, num M] w fun e w' => e = .returned (.int .i64 j) ∧ Below w.heap.size w w')
    (A1 : ∀ w, Calls Try.prog 17 #[num A, num B, num M] w fun e w' => e = .returned (.tuple #[num N0, .int .i64 1]) ∧ Below w.heap.size w w')
    (A2 : ∀ w, Calls Try.prog 18 #[num A, num B, num M] w fun e w' => e = .returned (.tuple #[num N0, .int .i64 1]) ∧ Below w.heap.size w w')
    (A3 : ∀ w, Calls Try.prog 19 #[num A, num B, num M] w fun e w' => e = .returned (.tuple #[num N0, .int .i64 1]) ∧ Below w.heap.size w w')
    (A4 : ∀ w, Calls Try.prog 20 #[num A, num B, num M] w fun e w' => e = .returned (.tuple #[num N0, .int .i64 1]) ∧ Below w.heap.size w w')
    (A5 : ∀ w, Calls Try.prog 21 #[num A, num M] w fun e w' => e = .returned (.tuple #[num N0, .int .i64 1]) ∧ Below w.heap.size w w')
    (w : World) : Calls Try.prog 9 #[num A, num B, num M] w fun e w' => e = .returned (.bool true) ∧ Below w.heap.size w w' := by
  have HO := Lib.hid O
  have HK := Lib.hid K
  have HN := Lib.hid N
  have HJ := Lib.hid J
  have HA1 := Lib.hid A1
  have HA2 := Lib.hid A2
  have HA3 := Lib.hid A3
  have HA4 := Lib.hid A4
  have HA5 := Lib.hid A5
  clear O K N J A1 A2 A3 A4 A5
  go_enter Try.func9, Try.ntmps9
  go_wp2_with fail
  have BW := Lib.hid (Below.refl w.heap.size w)
  have Na : At (((w.alloc (.cells #[.int .u64 (wd A 0 : Nat), .int .u64 (wd A 1 : Nat), .int .u64 (wd A 2 : Nat), .int .u64 (wd A 3 : Nat)] 24)).alloc (.cells #[.int .u64 (wd B 0 : Nat), .int .u64 (wd B 1 : Nat), .int .u64 (wd B 2 : Nat), .int .u64 (wd B 3 : Nat)] 24)).alloc (.cells #[.int .u64 (wd M 0 : Nat), .int .u64 (wd M 1 : Nat), .int .u64 (wd M 2 : Nat), .int .u64 (wd M 3 : Nat)] 24)) (w.heap.size) 24 #[.int .u64 (wd A 0 : Nat), .int .u64 (wd A 1 : Nat), .int .u64 (wd A 2 : Nat), .int .u64 (wd A 3 : Nat)] := ((At.at_ _ _ _ _ (by simp)).alloc _).alloc _
  have Nb : At (((w.alloc (.cells #[.int .u64 (wd A 0 : Nat), .int .u64 (wd A 1 : Nat), .int .u64 (wd A 2 : Nat), .int .u64 (wd A 3 : Nat)] 24)).alloc (.cells #[.int .u64 (wd B 0 : Nat), .int .u64 (wd B 1 : Nat), .int .u64 (wd B 2 : Nat), .int .u64 (wd B 3 : Nat)] 24)).alloc (.cells #[.int .u64 (wd M 0 : Nat), .int .u64 (wd M 1 : Nat), .int .u64 (wd M 2 : Nat), .int .u64 (wd M 3 : Nat)] 24)) (w.heap.size + 1) 24 #[.int .u64 (wd B 0 : Nat), .int .u64 (wd B 1 : Nat), .int .u64 (wd B 2 : Nat), .int .u64 (wd B 3 : Nat)] := (At.at_ _ _ _ _ (by simp)).alloc _
  have Nm : At (((w.alloc (.cells #[.int .u64 (wd A 0 : Nat), .int .u64 (wd A 1 : Nat), .int .u64 (wd A 2 : Nat), .int .u64 (wd A 3 : Nat)] 24)).alloc (.cells #[.int .u64 (wd B 0 : Nat), .int .u64 (wd B 1 : Nat), .int .u64 (wd B 2 : Nat), .int .u64 (wd B 3 : Nat)] 24)).alloc (.cells #[.int .u64 (wd M 0 : Nat), .int .u64 (wd M 1 : Nat), .int .u64 (wd M 2 : Nat), .int .u64 (wd M 3 : Nat)] 24)) (w.heap.size + 1 + 1) 24 #[.int .u64 (wd M 0 : Nat), .int .u64 (wd M 1 : Nat), .int .u64 (wd M 2 : Nat), .int .u64 (wd M 3 : Nat)] := At.at_ _ _ _ _ (by simp)
  have NB : Below w.heap.size w (((w.alloc (.cells #[.int .u64 (wd A 0 : Nat), .int .u64 (wd A 1 : Nat), .int .u64 (wd A 2 : Nat), .int .u64 (wd A 3 : Nat)] 24)).alloc (.cells #[.int .u64 (wd B 0 : Nat), .int .u64 (wd B 1 : Nat), .int .u64 (wd B 2 : Nat), .int .u64 (wd B 3 : Nat)] 24)).alloc (.cells #[.int .u64 (wd M 0 : Nat), .int .u64 (wd M 1 : Nat), .int .u64 (wd M 2 : Nat), .int .u64 (wd M 3 : Nat)] 24)) := gr_alloc (gr_alloc (gr_alloc BW.out _) _) _
  clear BW 
  generalize (((w.alloc (.cells #[.int .u64 (wd A 0 : Nat), .int .u64 (wd A 1 : Nat), .int .u64 (wd A 2 : Nat), .int .u64 (wd A 3 : Nat)] 24)).alloc (.cells #[.int .u64 (wd B 0 : Nat), .int .u64 (wd B 1 : Nat), .int .u64 (wd B 2 : Nat), .int .u64 (wd B 3 : Nat)] 24)).alloc (.cells #[.int .u64 (wd M 0 : Nat), .int .u64 (wd M 1 : Nat), .int .u64 (wd M 2 : Nat), .int .u64 (wd M 3 : Nat)] 24)) = W1 at *
  generalize w.heap.size + 1 + 1 = gm at *
  generalize w.heap.size + 1 = gb at *
  obtain ⟨ga, hg0⟩ : ∃ g, g = w.heap.size := ⟨_, rfl⟩
  rw [← hg0] at Na ⊢
  clear hg0
  have Fa := Lib.hid Na
  have Fb := Lib.hid Nb
  have Fm := Lib.hid Nm
  have BW := Lib.hid NB
  clear NB Na Nb Nm
  try simp only [List.append_eq, List.cons_append, List.nil_append]
  refine wp_region_noPanic ?_
  refine wp_region_held_drew (S := fun w' => At w' gm 24 #[.int .u64 (wd M 0 : Nat), .int .u64 (wd M 1 : Nat), .int .u64 (wd M 2 : Nat), .int .u64 (wd M 3 : Nat)]) (by kernel_rfl) (Fm.out.drew) (fun _ => ?_)
  refine wpAnyH_cores (fuel := 1) (⟨0, 20, [], Kind.val (.agg #[.int .u64 (wd M 0 : Nat), .int .u64 (wd M 1 : Nat), .int .u64 (wd M 2 : Nat), .int .u64 (wd M 3 : Nat)]), true⟩ :: ⟨1, 21, [0], Kind.val (.agg #[.int .u64 (wd Z 0 : Nat), .int .u64 (wd Z 1 : Nat), .int .u64 (wd Z 2 : Nat), .int .u64 (wd Z 3 : Nat)]), false⟩ :: ⟨2, 22, [0, 1], Kind.val (.int .i64 k), false⟩ :: ⟨3, 23, [2], Kind.val (.bool true), true⟩ :: []) _ _ W1 _ ?_ ?_ ?_ ?_ ?_ ?_ ?_ ?_ ?_ ?_ ?_
  · rfl
  · kernel_rfl
  · exact of_decide_eq_true (by kernel_rfl)
  · exact all_cons ⟨_, by rfl, by rfl⟩ (all_cons ⟨_, by rfl, by rfl⟩ (all_cons ⟨_, by rfl, by rfl⟩ (all_cons ⟨_, by rfl, by rfl⟩ (all_nil))))
  · exact fun _ hb => Fm.out.on hb
  · exact (Below.refl _ _).drew
  · kernel_rfl
  · exact fun _ _ _ _ _ h => h
  · refine all_cons ?_ (all_cons ?_ (all_cons ?_ (all_cons ?_ (all_nil))))
    · exact coreG_loadP _ _ _ _ _ _ gm _ _ _ _ (by rfl) (by rfl) (wants_none) (known_old 5 _ (of_decide_eq_true (by rfl)) (by rfl)) (fun _ hs => hs)
    · exact core_pureAs _ (by rfl)
    · exact core_pureAs _ (by rfl)
    · exact coreG_bin _ _ _ _ _ _ _ _ _ _ _ _ _ (by rfl) (by rfl) (wants_none) (known_core 2 22 _ _ (of_decide_eq_true (by rfl)) (by rfl) (by rfl) (by rfl)) (known_const _) ((fun ρ w hx hy => by simp only [execOp, hx, hy]; simp [go_sem]; exact hk))
  · refine all_cons ?_ (all_cons ?_ (all_cons ?_ (all_cons ?_ (all_nil))))
    · exact core_stepAs _ (by rfl)
    · exact fun _ => coreG_call _ 28 _ _ [.const (.int .u64 1)] _ _ _ _ _ _ _ (by rfl) Try.func28 (by kernel_rfl) (by rfl) (by rfl) (wants_none) (.cons (known_const _) .nil) (HO.out)
    · exact fun _ => coreG_call _ 27 _ _ [.tmp 20, .tmp 21] _ _ _ _ _ _ _ (by rfl) Try.func27 (by kernel_rfl) (by rfl) (by rfl) (wants_none) (.cons (known_core 0 20 _ _ (of_decide_eq_true (by rfl)) (by rfl) (by rfl) (by rfl)) (.cons (known_core 1 21 _ _ (of_decide_eq_true (by rfl)) (by rfl) (by rfl) (by rfl)) .nil)) (HK.out)
    · exact core_stepAs _ (by rfl)
  intro vs y2 hc
  obtain ⟨vv0, vv1, vv2, vv3, rfl⟩ := len4 vs hc.lv
  have qq0 : vv0 = .agg #[.int .u64 (wd M 0 : Nat), .int .u64 (wd M 1 : Nat), .int .u64 (wd M 2 : Nat), .int .u64 (wd M 3 : Nat)] := by obtain ⟨xx, hx, hy⟩ := hc.ok 0 _ rfl rfl; exact (Option.some.inj (show some vv0 = some xx from hx)).trans hy
  have qq1 : vv1 = .agg #[.int .u64 (wd Z 0 : Nat), .int .u64 (wd Z 1 : Nat), .int .u64 (wd Z 2 : Nat), .int .u64 (wd Z 3 : Nat)] := by obtain ⟨xx, hx, hy⟩ := hc.ok 1 _ rfl rfl; exact (Option.some.inj (show some vv1 = some xx from hx)).trans hy
  have qq2 : vv2 = .int .i64 k := by obtain ⟨xx, hx, hy⟩ := hc.ok 2 _ rfl rfl; exact (Option.some.inj (show some vv2 = some xx from hx)).trans hy
  have qq3 : vv3 = .bool true := by obtain ⟨xx, hx, hy⟩ := hc.ok 3 _ rfl rfl; exact (Option.some.inj (show some vv3 = some xx from hx)).trans hy
  have BZ := hc.bel
  clear hc
  have Na := Fa.out.on BZ
  have Nb := Fb.out.on BZ
  have Nm := Fm.out.on BZ
  have NB := bel_tr BW.out BZ
  clear BW BZ Fa Fb Fm
  subst qq0 qq1 qq2 qq3
  simp only [List.map_cons, List.map_nil, over, Act.put, List.setIfInBounds_toArray, List.set_cons_zero, List.set_cons_succ]
  refine assign_one (i := 4) _ 7 _ _ _ _ (by kernel_rfl) (by rfl) (by rfl) (Nm) ?_
  try simp only [Act.put, List.setIfInBounds_toArray, List.set_cons_zero, List.set_cons_succ]
  refine wpAnyH_done (by kernel_rfl) ?_ _
  refine NoPanic.normal ?_
  have Fa := Lib.hid Na
  have Fb := Lib.hid Nb
  have Fm := Lib.hid Nm
  have BW := Lib.hid NB
  clear NB Na Nb Nm
  have La := Fa.out.lt
  have ca0 : y2.cell? ⟨ga, 0, none⟩ = some (.int .u64 (wd A 0 : Nat)) := Fa.out.cell 0
  have ca1 : y2.cell? ⟨ga, 1, none⟩ = some (.int .u64 (wd A 1 : Nat)) := Fa.out.cell 1
  have ca2 : y2.cell? ⟨ga, 2, none⟩ = some (.int .u64 (wd A 2 : Nat)) := Fa.out.cell 2
  have ca3 : y2.cell? ⟨ga, 3, none⟩ = some (.int .u64 (wd A 3 : Nat)) := Fa.out.cell 3
  have Lm := Fm.out.lt
  have cm0 : y2.cell? ⟨gm, 0, none⟩ = some (.int .u64 (wd M 0 : Nat)) := Fm.out.cell 0
  have cm1 : y2.cell? ⟨gm, 1, none⟩ = some (.int .u64 (wd M 1 : Nat)) := Fm.out.cell 1
  have cm2 : y2.cell? ⟨gm, 2, none⟩ = some (.int .u64 (wd M 2 : Nat)) := Fm.out.cell 2
  have cm3 : y2.cell? ⟨gm, 3, none⟩ = some (.int .u64 (wd M 3 : Nat)) := Fm.out.cell 3
  go_wp2_with fail
  clear La ca0 ca1 ca2 ca3 Lm cm0 cm1 cm2 cm3
  refine (HJ.out _).mono ?_
  rintro e v3 ⟨rfl, z3⟩
  have Na := Lib.hid (Fa.out.on z3)
  have Nb := Lib.hid (Fb.out.on z3)
  have Nm := Lib.hid (Fm.out.on z3)
  have NB := Lib.hid (bel_tr BW.out z3)
  clear BW z3 Fa Fb Fm
  have Fa := Na
  have Fb := Nb
  have Fm := Nm
  have BW := NB
  clear NB Na Nb Nm
  have Lb := Fb.out.lt
  have cb0 : v3.cell? ⟨gb, 0, none⟩ = some (.int .u64 (wd B 0 : Nat)) := Fb.out.cell 0
  have cb1 : v3.cell? ⟨gb, 1, none⟩ = some (.int .u64 (wd B 1 : Nat)) := Fb.out.cell 1
  have cb2 : v3.cell? ⟨gb, 2, none⟩ = some (.int .u64 (wd B 2 : Nat)) := Fb.out.cell 2
  have cb3 : v3.cell? ⟨gb, 3, none⟩ = some (.int .u64 (wd B 3 : Nat)) := Fb.out.cell 3
  have Lm := Fm.out.lt
  have cm0 : v3.cell? ⟨gm, 0, none⟩ = some (.int .u64 (wd M 0 : Nat)) := Fm.out.cell 0
  have cm1 : v3.cell? ⟨gm, 1, none⟩ = some (.int .u64 (wd M 1 : Nat)) := Fm.out.cell 1
  have cm2 : v3.cell? ⟨gm, 2, none⟩ = some (.int .u64 (wd M 2 : Nat)) := Fm.out.cell 2
  have cm3 : v3.cell? ⟨gm, 3, none⟩ = some (.int .u64 (wd M 3 : Nat)) := Fm.out.cell 3
  have La := Fa.out.lt
  have ca0 : v3.cell? ⟨ga, 0, none⟩ = some (.int .u64 (wd A 0 : Nat)) := Fa.out.cell 0
  have ca1 : v3.cell? ⟨ga, 1, none⟩ = some (.int .u64 (wd A 1 : Nat)) := Fa.out.cell 1
  have ca2 : v3.cell? ⟨ga, 2, none⟩ = some (.int .u64 (wd A 2 : Nat)) := Fa.out.cell 2
  have ca3 : v3.cell? ⟨ga, 3, none⟩ = some (.int .u64 (wd A 3 : Nat)) := Fa.out.cell 3
  have hj2 : ¬ j < 0 := by omega
  have hj3 : decide (j < 0) = false := by simp; omega
  go_wp2_with fail
  clear Lb cb0 cb1 cb2 cb3 Lm cm0 cm1 cm2 cm3 La ca0 ca1 ca2 ca3
  refine (HA1.out _).mono ?_
  rintro e v4 ⟨rfl, z4⟩
  have Na := Lib.hid (Fa.out.on z4)
  have Nb := Lib.hid (Fb.out.on z4)
  have Nm := Lib.hid (Fm.out.on z4)
  have NB := Lib.hid (bel_tr BW.out z4)
  clear BW z4 Fa Fb Fm
  have Fa := Na
  have Fb := Nb
  have Fm := Nm
  have BW := NB
  clear NB Na Nb Nm
  have La := Fa.out.lt
  have ca0 : v4.cell? ⟨ga, 0, none⟩ = some (.int .u64 (wd A 0 : Nat)) := Fa.out.cell 0
  have ca1 : v4.cell? ⟨ga, 1, none⟩ = some (.int .u64 (wd A 1 : Nat)) := Fa.out.cell 1
  have ca2 : v4.cell? ⟨ga, 2, none⟩ = some (.int .u64 (wd A 2 : Nat)) := Fa.out.cell 2
  have ca3 : v4.cell? ⟨ga, 3, none⟩ = some (.int .u64 (wd A 3 : Nat)) := Fa.out.cell 3
  have Lb := Fb.out.lt
  have cb0 : v4.cell? ⟨gb, 0, none⟩ = some (.int .u64 (wd B 0 : Nat)) := Fb.out.cell 0
  have cb1 : v4.cell? ⟨gb, 1, none⟩ = some (.int .u64 (wd B 1 : Nat)) := Fb.out.cell 1
  have cb2 : v4.cell? ⟨gb, 2, none⟩ = some (.int .u64 (wd B 2 : Nat)) := Fb.out.cell 2
  have cb3 : v4.cell? ⟨gb, 3, none⟩ = some (.int .u64 (wd B 3 : Nat)) := Fb.out.cell 3
  have Lm := Fm.out.lt
  have cm0 : v4.cell? ⟨gm, 0, none⟩ = some (.int .u64 (wd M 0 : Nat)) := Fm.out.cell 0
  have cm1 : v4.cell? ⟨gm, 1, none⟩ = some (.int .u64 (wd M 1 : Nat)) := Fm.out.cell 1
  have cm2 : v4.cell? ⟨gm, 2, none⟩ = some (.int .u64 (wd M 2 : Nat)) := Fm.out.cell 2
  have cm3 : v4.cell? ⟨gm, 3, none⟩ = some (.int .u64 (wd M 3 : Nat)) := Fm.out.cell 3
  go_wp2_with fail
  clear La ca0 ca1 ca2 ca3 Lb cb0 cb1 cb2 cb3 Lm cm0 cm1 cm2 cm3
  have Nx : At (v4.alloc (.cells #[.int .u64 (wd N0 0 : Nat), .int .u64 (wd N0 1 : Nat), .int .u64 (wd N0 2 : Nat), .int .u64 (wd N0 3 : Nat)] 24)) (v4.heap.size) 24 #[.int .u64 (wd N0 0 : Nat), .int .u64 (wd N0 1 : Nat), .int .u64 (wd N0 2 : Nat), .int .u64 (wd N0 3 : Nat)] := At.at_ _ _ _ _ (by simp)
  have Na : At (v4.alloc (.cells #[.int .u64 (wd N0 0 : Nat), .int .u64 (wd N0 1 : Nat), .int .u64 (wd N0 2 : Nat), .int .u64 (wd N0 3 : Nat)] 24)) ga 24 #[.int .u64 (wd A 0 : Nat), .int .u64 (wd A 1 : Nat), .int .u64 (wd A 2 : Nat), .int .u64 (wd A 3 : Nat)] := Fa.out.alloc _
  have Nb : At (v4.alloc (.cells #[.int .u64 (wd N0 0 : Nat), .int .u64 (wd N0 1 : Nat), .int .u64 (wd N0 2 : Nat), .int .u64 (wd N0 3 : Nat)] 24)) gb 24 #[.int .u64 (wd B 0 : Nat), .int .u64 (wd B 1 : Nat), .int .u64 (wd B 2 : Nat), .int .u64 (wd B 3 : Nat)] := Fb.out.alloc _
  have Nm : At (v4.alloc (.cells #[.int .u64 (wd N0 0 : Nat), .int .u64 (wd N0 1 : Nat), .int .u64 (wd N0 2 : Nat), .int .u64 (wd N0 3 : Nat)] 24)) gm 24 #[.int .u64 (wd M 0 : Nat), .int .u64 (wd M 1 : Nat), .int .u64 (wd M 2 : Nat), .int .u64 (wd M 3 : Nat)] := Fm.out.alloc _
  have NB : Below w.heap.size w (v4.alloc (.cells #[.int .u64 (wd N0 0 : Nat), .int .u64 (wd N0 1 : Nat), .int .u64 (wd N0 2 : Nat), .int .u64 (wd N0 3 : Nat)] 24)) := gr_alloc BW.out _
  clear BW Fa Fb Fm
  generalize (v4.alloc (.cells #[.int .u64 (wd N0 0 : Nat), .int .u64 (wd N0 1 : Nat), .int .u64 (wd N0 2 : Nat), .int .u64 (wd N0 3 : Nat)] 24)) = W5 at *
  generalize v4.heap.size = gx at *
  have Fa := Lib.hid Na
  have Fb := Lib.hid Nb
  have Fm := Lib.hid Nm
  have Fx := Lib.hid Nx
  have BW := Lib.hid NB
  clear NB Na Nb Nm Nx
  refine (HA2.out _).mono ?_
  rintro e v6 ⟨rfl, z6⟩
  have Na := Lib.hid (Fa.out.on z6)
  have Nb := Lib.hid (Fb.out.on z6)
  have Nm := Lib.hid (Fm.out.on z6)
  have Nx := Lib.hid (Fx.out.on z6)
  have NB := Lib.hid (bel_tr BW.out z6)
  clear BW z6 Fa Fb Fm Fx
  have Fa := Na
  have Fb := Nb
  have Fm := Nm
  have Fx := Nx
  have BW := NB
  clear NB Na Nb Nm Nx
  have La := Fa.out.lt
  have ca0 : v6.cell? ⟨ga, 0, none⟩ = some (.int .u64 (wd A 0 : Nat)) := Fa.out.cell 0
  have ca1 : v6.cell? ⟨ga, 1, none⟩ = some (.int .u64 (wd A 1 : Nat)) := Fa.out.cell 1
  have ca2 : v6.cell? ⟨ga, 2, none⟩ = some (.int .u64 (wd A 2 : Nat)) := Fa.out.cell 2
  have ca3 : v6.cell? ⟨ga, 3, none⟩ = some (.int .u64 (wd A 3 : Nat)) := Fa.out.cell 3
  have Lb := Fb.out.lt
  have cb0 : v6.cell? ⟨gb, 0, none⟩ = some (.int .u64 (wd B 0 : Nat)) := Fb.out.cell 0
  have cb1 : v6.cell? ⟨gb, 1, none⟩ = some (.int .u64 (wd B 1 : Nat)) := Fb.out.cell 1
  have cb2 : v6.cell? ⟨gb, 2, none⟩ = some (.int .u64 (wd B 2 : Nat)) := Fb.out.cell 2
  have cb3 : v6.cell? ⟨gb, 3, none⟩ = some (.int .u64 (wd B 3 : Nat)) := Fb.out.cell 3
  have Lm := Fm.out.lt
  have cm0 : v6.cell? ⟨gm, 0, none⟩ = some (.int .u64 (wd M 0 : Nat)) := Fm.out.cell 0
  have cm1 : v6.cell? ⟨gm, 1, none⟩ = some (.int .u64 (wd M 1 : Nat)) := Fm.out.cell 1
  have cm2 : v6.cell? ⟨gm, 2, none⟩ = some (.int .u64 (wd M 2 : Nat)) := Fm.out.cell 2
  have cm3 : v6.cell? ⟨gm, 3, none⟩ = some (.int .u64 (wd M 3 : Nat)) := Fm.out.cell 3
  go_wp2_with fail
  clear La ca0 ca1 ca2 ca3 Lb cb0 cb1 cb2 cb3 Lm cm0 cm1 cm2 cm3
  have Ny : At (v6.alloc (.cells #[.int .u64 (wd N0 0 : Nat), .int .u64 (wd N0 1 : Nat), .int .u64 (wd N0 2 : Nat), .int .u64 (wd N0 3 : Nat)] 24)) (v6.heap.size) 24 #[.int .u64 (wd N0 0 : Nat), .int .u64 (wd N0 1 : Nat), .int .u64 (wd N0 2 : Nat), .int .u64 (wd N0 3 : Nat)] := At.at_ _ _ _ _ (by simp)
  have Na : At (v6.alloc (.cells #[.int .u64 (wd N0 0 : Nat), .int .u64 (wd N0 1 : Nat), .int .u64 (wd N0 2 : Nat), .int .u64 (wd N0 3 : Nat)] 24)) ga 24 #[.int .u64 (wd A 0 : Nat), .int .u64 (wd A 1 : Nat), .int .u64 (wd A 2 : Nat), .int .u64 (wd A 3 : Nat)] := Fa.out.alloc _
  have Nb : At (v6.alloc (.cells #[.int .u64 (wd N0 0 : Nat), .int .u64 (wd N0 1 : Nat), .int .u64 (wd N0 2 : Nat), .int .u64 (wd N0 3 : Nat)] 24)) gb 24 #[.int .u64 (wd B 0 : Nat), .int .u64 (wd B 1 : Nat), .int .u64 (wd B 2 : Nat), .int .u64 (wd B 3 : Nat)] := Fb.out.alloc _
  have Nm : At (v6.alloc (.cells #[.int .u64 (wd N0 0 : Nat), .int .u64 (wd N0 1 : Nat), .int .u64 (wd N0 2 : Nat), .int .u64 (wd N0 3 : Nat)] 24)) gm 24 #[.int .u64 (wd M 0 : Nat), .int .u64 (wd M 1 : Nat), .int .u64 (wd M 2 : Nat), .int .u64 (wd M 3 : Nat)] := Fm.out.alloc _
  have Nx : At (v6.alloc (.cells #[.int .u64 (wd N0 0 : Nat), .int .u64 (wd N0 1 : Nat), .int .u64 (wd N0 2 : Nat), .int .u64 (wd N0 3 : Nat)] 24)) gx 24 #[.int .u64 (wd N0 0 : Nat), .int .u64 (wd N0 1 : Nat), .int .u64 (wd N0 2 : Nat), .int .u64 (wd N0 3 : Nat)] := Fx.out.alloc _
  have NB : Below w.heap.size w (v6.alloc (.cells #[.int .u64 (wd N0 0 : Nat), .int .u64 (wd N0 1 : Nat), .int .u64 (wd N0 2 : Nat), .int .u64 (wd N0 3 : Nat)] 24)) := gr_alloc BW.out _
  clear BW Fa Fb Fm Fx
  generalize (v6.alloc (.cells #[.int .u64 (wd N0 0 : Nat), .int .u64 (wd N0 1 : Nat), .int .u64 (wd N0 2 : Nat), .int .u64 (wd N0 3 : Nat)] 24)) = W7 at *
  generalize v6.heap.size = gy at *
  have Fa := Lib.hid Na
  have Fb := Lib.hid Nb
  have Fm := Lib.hid Nm
  have Fx := Lib.hid Nx
  have Fy := Lib.hid Ny
  have BW := Lib.hid NB
  clear NB Na Nb Nm Nx Ny
  refine (HA3.out _).mono ?_
  rintro e v8 ⟨rfl, z8⟩
  have Na := Lib.hid (Fa.out.on z8)
  have Nb := Lib.hid (Fb.out.on z8)
  have Nm := Lib.hid (Fm.out.on z8)
  have Nx := Lib.hid (Fx.out.on z8)
  have Ny := Lib.hid (Fy.out.on z8)
  have NB := Lib.hid (bel_tr BW.out z8)
  clear BW z8 Fa Fb Fm Fx Fy
  have Fa := Na
  have Fb := Nb
  have Fm := Nm
  have Fx := Nx
  have Fy := Ny
  have BW := NB
  clear NB Na Nb Nm Nx Ny
  have La := Fa.out.lt
  have ca0 : v8.cell? ⟨ga, 0, none⟩ = some (.int .u64 (wd A 0 : Nat)) := Fa.out.cell 0
  have ca1 : v8.cell? ⟨ga, 1, none⟩ = some (.int .u64 (wd A 1 : Nat)) := Fa.out.cell 1
  have ca2 : v8.cell? ⟨ga, 2, none⟩ = some (.int .u64 (wd A 2 : Nat)) := Fa.out.cell 2
  have ca3 : v8.cell? ⟨ga, 3, none⟩ = some (.int .u64 (wd A 3 : Nat)) := Fa.out.cell 3
  have Lb := Fb.out.lt
  have cb0 : v8.cell? ⟨gb, 0, none⟩ = some (.int .u64 (wd B 0 : Nat)) := Fb.out.cell 0
  have cb1 : v8.cell? ⟨gb, 1, none⟩ = some (.int .u64 (wd B 1 : Nat)) := Fb.out.cell 1
  have cb2 : v8.cell? ⟨gb, 2, none⟩ = some (.int .u64 (wd B 2 : Nat)) := Fb.out.cell 2
  have cb3 : v8.cell? ⟨gb, 3, none⟩ = some (.int .u64 (wd B 3 : Nat)) := Fb.out.cell 3
  have Lm := Fm.out.lt
  have cm0 : v8.cell? ⟨gm, 0, none⟩ = some (.int .u64 (wd M 0 : Nat)) := Fm.out.cell 0
  have cm1 : v8.cell? ⟨gm, 1, none⟩ = some (.int .u64 (wd M 1 : Nat)) := Fm.out.cell 1
  have cm2 : v8.cell? ⟨gm, 2, none⟩ = some (.int .u64 (wd M 2 : Nat)) := Fm.out.cell 2
  have cm3 : v8.cell? ⟨gm, 3, none⟩ = some (.int .u64 (wd M 3 : Nat)) := Fm.out.cell 3
  go_wp2_with fail
  clear La ca0 ca1 ca2 ca3 Lb cb0 cb1 cb2 cb3 Lm cm0 cm1 cm2 cm3
  have Nz : At (v8.alloc (.cells #[.int .u64 (wd N0 0 : Nat), .int .u64 (wd N0 1 : Nat), .int .u64 (wd N0 2 : Nat), .int .u64 (wd N0 3 : Nat)] 24)) (v8.heap.size) 24 #[.int .u64 (wd N0 0 : Nat), .int .u64 (wd N0 1 : Nat), .int .u64 (wd N0 2 : Nat), .int .u64 (wd N0 3 : Nat)] := At.at_ _ _ _ _ (by simp)
  have Na : At (v8.alloc (.cells #[.int .u64 (wd N0 0 : Nat), .int .u64 (wd N0 1 : Nat), .int .u64 (wd N0 2 : Nat), .int .u64 (wd N0 3 : Nat)] 24)) ga 24 #[.int .u64 (wd A 0 : Nat), .int .u64 (wd A 1 : Nat), .int .u64 (wd A 2 : Nat), .int .u64 (wd A 3 : Nat)] := Fa.out.alloc _
  have Nb : At (v8.alloc (.cells #[.int .u64 (wd N0 0 : Nat), .int .u64 (wd N0 1 : Nat), .int .u64 (wd N0 2 : Nat), .int .u64 (wd N0 3 : Nat)] 24)) gb 24 #[.int .u64 (wd B 0 : Nat), .int .u64 (wd B 1 : Nat), .int .u64 (wd B 2 : Nat), .int .u64 (wd B 3 : Nat)] := Fb.out.alloc _
  have Nm : At (v8.alloc (.cells #[.int .u64 (wd N0 0 : Nat), .int .u64 (wd N0 1 : Nat), .int .u64 (wd N0 2 : Nat), .int .u64 (wd N0 3 : Nat)] 24)) gm 24 #[.int .u64 (wd M 0 : Nat), .int .u64 (wd M 1 : Nat), .int .u64 (wd M 2 : Nat), .int .u64 (wd M 3 : Nat)] := Fm.out.alloc _
  have Nx : At (v8.alloc (.cells #[.int .u64 (wd N0 0 : Nat), .int .u64 (wd N0 1 : Nat), .int .u64 (wd N0 2 : Nat), .int .u64 (wd N0 3 : Nat)] 24)) gx 24 #[.int .u64 (wd N0 0 : Nat), .int .u64 (wd N0 1 : Nat), .int .u64 (wd N0 2 : Nat), .int .u64 (wd N0 3 : Nat)] := Fx.out.alloc _
  have Ny : At (v8.alloc (.cells #[.int .u64 (wd N0 0 : Nat), .int .u64 (wd N0 1 : Nat), .int .u64 (wd N0 2 : Nat), .int .u64 (wd N0 3 : Nat)] 24)) gy 24 #[.int .u64 (wd N0 0 : Nat), .int .u64 (wd N0 1 : Nat), .int .u64 (wd N0 2 : Nat), .int .u64 (wd N0 3 : Nat)] := Fy.out.alloc _
  have NB : Below w.heap.size w (v8.alloc (.cells #[.int .u64 (wd N0 0 : Nat), .int .u64 (wd N0 1 : Nat), .int .u64 (wd N0 2 : Nat), .int .u64 (wd N0 3 : Nat)] 24)) := gr_alloc BW.out _
  clear BW Fa Fb Fm Fx Fy
  generalize (v8.alloc (.cells #[.int .u64 (wd N0 0 : Nat), .int .u64 (wd N0 1 : Nat), .int .u64 (wd N0 2 : Nat), .int .u64 (wd N0 3 : Nat)] 24)) = W9 at *
  generalize v8.heap.size = gz at *
  have Fa := Lib.hid Na
  have Fb := Lib.hid Nb
  have Fm := Lib.hid Nm
  have Fx := Lib.hid Nx
  have Fy := Lib.hid Ny
  have Fz := Lib.hid Nz
  have BW := Lib.hid NB
  clear NB Na Nb Nm Nx Ny Nz
  refine (HA4.out _).mono ?_
  rintro e v10 ⟨rfl, z10⟩
  have Na := Lib.hid (Fa.out.on z10)
  have Nb := Lib.hid (Fb.out.on z10)
  have Nm := Lib.hid (Fm.out.on z10)
  have Nx := Lib.hid (Fx.out.on z10)
  have Ny := Lib.hid (Fy.out.on z10)
  have Nz := Lib.hid (Fz.out.on z10)
  have NB := Lib.hid (bel_tr BW.out z10)
  clear BW z10 Fa Fb Fm Fx Fy Fz
  have Fa := Na
  have Fb := Nb
  have Fm := Nm
  have Fx := Nx
  have Fy := Ny
  have Fz := Nz
  have BW := NB
  clear NB Na Nb Nm Nx Ny Nz
  have La := Fa.out.lt
  have ca0 : v10.cell? ⟨ga, 0, none⟩ = some (.int .u64 (wd A 0 : Nat)) := Fa.out.cell 0
  have ca1 : v10.cell? ⟨ga, 1, none⟩ = some (.int .u64 (wd A 1 : Nat)) := Fa.out.cell 1
  have ca2 : v10.cell? ⟨ga, 2, none⟩ = some (.int .u64 (wd A 2 : Nat)) := Fa.out.cell 2
  have ca3 : v10.cell? ⟨ga, 3, none⟩ = some (.int .u64 (wd A 3 : Nat)) := Fa.out.cell 3
  have Lm := Fm.out.lt
  have cm0 : v10.cell? ⟨gm, 0, none⟩ = some (.int .u64 (wd M 0 : Nat)) := Fm.out.cell 0
  have cm1 : v10.cell? ⟨gm, 1, none⟩ = some (.int .u64 (wd M 1 : Nat)) := Fm.out.cell 1
  have cm2 : v10.cell? ⟨gm, 2, none⟩ = some (.int .u64 (wd M 2 : Nat)) := Fm.out.cell 2
  have cm3 : v10.cell? ⟨gm, 3, none⟩ = some (.int .u64 (wd M 3 : Nat)) := Fm.out.cell 3
  go_wp2_with fail
  clear La ca0 ca1 ca2 ca3 Lm cm0 cm1 cm2 cm3
  have Nu : At (v10.alloc (.cells #[.int .u64 (wd N0 0 : Nat), .int .u64 (wd N0 1 : Nat), .int .u64 (wd N0 2 : Nat), .int .u64 (wd N0 3 : Nat)] 24)) (v10.heap.size) 24 #[.int .u64 (wd N0 0 : Nat), .int .u64 (wd N0 1 : Nat), .int .u64 (wd N0 2 : Nat), .int .u64 (wd N0 3 : Nat)] := At.at_ _ _ _ _ (by simp)
  have Na : At (v10.alloc (.cells #[.int .u64 (wd N0 0 : Nat), .int .u64 (wd N0 1 : Nat), .int .u64 (wd N0 2 : Nat), .int .u64 (wd N0 3 : Nat)] 24)) ga 24 #[.int .u64 (wd A 0 : Nat), .int .u64 (wd A 1 : Nat), .int .u64 (wd A 2 : Nat), .int .u64 (wd A 3 : Nat)] := Fa.out.alloc _
  have Nb : At (v10.alloc (.cells #[.int .u64 (wd N0 0 : Nat), .int .u64 (wd N0 1 : Nat), .int .u64 (wd N0 2 : Nat), .int .u64 (wd N0 3 : Nat)] 24)) gb 24 #[.int .u64 (wd B 0 : Nat), .int .u64 (wd B 1 : Nat), .int .u64 (wd B 2 : Nat), .int .u64 (wd B 3 : Nat)] := Fb.out.alloc _
  have Nm : At (v10.alloc (.cells #[.int .u64 (wd N0 0 : Nat), .int .u64 (wd N0 1 : Nat), .int .u64 (wd N0 2 : Nat), .int .u64 (wd N0 3 : Nat)] 24)) gm 24 #[.int .u64 (wd M 0 : Nat), .int .u64 (wd M 1 : Nat), .int .u64 (wd M 2 : Nat), .int .u64 (wd M 3 : Nat)] := Fm.out.alloc _
  have Nx : At (v10.alloc (.cells #[.int .u64 (wd N0 0 : Nat), .int .u64 (wd N0 1 : Nat), .int .u64 (wd N0 2 : Nat), .int .u64 (wd N0 3 : Nat)] 24)) gx 24 #[.int .u64 (wd N0 0 : Nat), .int .u64 (wd N0 1 : Nat), .int .u64 (wd N0 2 : Nat), .int .u64 (wd N0 3 : Nat)] := Fx.out.alloc _
  have Ny : At (v10.alloc (.cells #[.int .u64 (wd N0 0 : Nat), .int .u64 (wd N0 1 : Nat), .int .u64 (wd N0 2 : Nat), .int .u64 (wd N0 3 : Nat)] 24)) gy 24 #[.int .u64 (wd N0 0 : Nat), .int .u64 (wd N0 1 : Nat), .int .u64 (wd N0 2 : Nat), .int .u64 (wd N0 3 : Nat)] := Fy.out.alloc _
  have Nz : At (v10.alloc (.cells #[.int .u64 (wd N0 0 : Nat), .int .u64 (wd N0 1 : Nat), .int .u64 (wd N0 2 : Nat), .int .u64 (wd N0 3 : Nat)] 24)) gz 24 #[.int .u64 (wd N0 0 : Nat), .int .u64 (wd N0 1 : Nat), .int .u64 (wd N0 2 : Nat), .int .u64 (wd N0 3 : Nat)] := Fz.out.alloc _
  have NB : Below w.heap.size w (v10.alloc (.cells #[.int .u64 (wd N0 0 : Nat), .int .u64 (wd N0 1 : Nat), .int .u64 (wd N0 2 : Nat), .int .u64 (wd N0 3 : Nat)] 24)) := gr_alloc BW.out _
  clear BW Fa Fb Fm Fx Fy Fz
  generalize (v10.alloc (.cells #[.int .u64 (wd N0 0 : Nat), .int .u64 (wd N0 1 : Nat), .int .u64 (wd N0 2 : Nat), .int .u64 (wd N0 3 : Nat)] 24)) = W11 at *
  generalize v10.heap.size = gu at *
  have Fa := Lib.hid Na
  have Fb := Lib.hid Nb
  have Fm := Lib.hid Nm
  have Fx := Lib.hid Nx
  have Fy := Lib.hid Ny
  have Fz := Lib.hid Nz
  have Fu := Lib.hid Nu
  have BW := Lib.hid NB
  clear NB Na Nb Nm Nx Ny Nz Nu
  refine (HA5.out _).mono ?_
  rintro e v12 ⟨rfl, z12⟩
  have Na := Lib.hid (Fa.out.on z12)
  have Nb := Lib.hid (Fb.out.on z12)
  have Nm := Lib.hid (Fm.out.on z12)
  have Nx := Lib.hid (Fx.out.on z12)
  have Ny := Lib.hid (Fy.out.on z12)
  have Nz := Lib.hid (Fz.out.on z12)
  have Nu := Lib.hid (Fu.out.on z12)
  have NB := Lib.hid (bel_tr BW.out z12)
  clear BW z12 Fa Fb Fm Fx Fy Fz Fu
  have Fa := Na
  have Fb := Nb
  have Fm := Nm
  have Fx := Nx
  have Fy := Ny
  have Fz := Nz
  have Fu := Nu
  have BW := NB
  clear NB Na Nb Nm Nx Ny Nz Nu
  go_wp2_with fail
  have Nv : At (v12.alloc (.cells #[.int .u64 (wd N0 0 : Nat), .int .u64 (wd N0 1 : Nat), .int .u64 (wd N0 2 : Nat), .int .u64 (wd N0 3 : Nat)] 24)) (v12.heap.size) 24 #[.int .u64 (wd N0 0 : Nat), .int .u64 (wd N0 1 : Nat), .int .u64 (wd N0 2 : Nat), .int .u64 (wd N0 3 : Nat)] := At.at_ _ _ _ _ (by simp)
  have Na : At (v12.alloc (.cells #[.int .u64 (wd N0 0 : Nat), .int .u64 (wd N0 1 : Nat), .int .u64 (wd N0 2 : Nat), .int .u64 (wd N0 3 : Nat)] 24)) ga 24 #[.int .u64 (wd A 0 : Nat), .int .u64 (wd A 1 : Nat), .int .u64 (wd A 2 : Nat), .int .u64 (wd A 3 : Nat)] := Fa.out.alloc _
  have Nb : At (v12.alloc (.cells #[.int .u64 (wd N0 0 : Nat), .int .u64 (wd N0 1 : Nat), .int .u64 (wd N0 2 : Nat), .int .u64 (wd N0 3 : Nat)] 24)) gb 24 #[.int .u64 (wd B 0 : Nat), .int .u64 (wd B 1 : Nat), .int .u64 (wd B 2 : Nat), .int .u64 (wd B 3 : Nat)] := Fb.out.alloc _
  have Nm : At (v12.alloc (.cells #[.int .u64 (wd N0 0 : Nat), .int .u64 (wd N0 1 : Nat), .int .u64 (wd N0 2 : Nat), .int .u64 (wd N0 3 : Nat)] 24)) gm 24 #[.int .u64 (wd M 0 : Nat), .int .u64 (wd M 1 : Nat), .int .u64 (wd M 2 : Nat), .int .u64 (wd M 3 : Nat)] := Fm.out.alloc _
  have Nx : At (v12.alloc (.cells #[.int .u64 (wd N0 0 : Nat), .int .u64 (wd N0 1 : Nat), .int .u64 (wd N0 2 : Nat), .int .u64 (wd N0 3 : Nat)] 24)) gx 24 #[.int .u64 (wd N0 0 : Nat), .int .u64 (wd N0 1 : Nat), .int .u64 (wd N0 2 : Nat), .int .u64 (wd N0 3 : Nat)] := Fx.out.alloc _
  have Ny : At (v12.alloc (.cells #[.int .u64 (wd N0 0 : Nat), .int .u64 (wd N0 1 : Nat), .int .u64 (wd N0 2 : Nat), .int .u64 (wd N0 3 : Nat)] 24)) gy 24 #[.int .u64 (wd N0 0 : Nat), .int .u64 (wd N0 1 : Nat), .int .u64 (wd N0 2 : Nat), .int .u64 (wd N0 3 : Nat)] := Fy.out.alloc _
  have Nz : At (v12.alloc (.cells #[.int .u64 (wd N0 0 : Nat), .int .u64 (wd N0 1 : Nat), .int .u64 (wd N0 2 : Nat), .int .u64 (wd N0 3 : Nat)] 24)) gz 24 #[.int .u64 (wd N0 0 : Nat), .int .u64 (wd N0 1 : Nat), .int .u64 (wd N0 2 : Nat), .int .u64 (wd N0 3 : Nat)] := Fz.out.alloc _
  have Nu : At (v12.alloc (.cells #[.int .u64 (wd N0 0 : Nat), .int .u64 (wd N0 1 : Nat), .int .u64 (wd N0 2 : Nat), .int .u64 (wd N0 3 : Nat)] 24)) gu 24 #[.int .u64 (wd N0 0 : Nat), .int .u64 (wd N0 1 : Nat), .int .u64 (wd N0 2 : Nat), .int .u64 (wd N0 3 : Nat)] := Fu.out.alloc _
  have NB : Below w.heap.size w (v12.alloc (.cells #[.int .u64 (wd N0 0 : Nat), .int .u64 (wd N0 1 : Nat), .int .u64 (wd N0 2 : Nat), .int .u64 (wd N0 3 : Nat)] 24)) := gr_alloc BW.out _
  clear BW Fa Fb Fm Fx Fy Fz Fu
  generalize (v12.alloc (.cells #[.int .u64 (wd N0 0 : Nat), .int .u64 (wd N0 1 : Nat), .int .u64 (wd N0 2 : Nat), .int .u64 (wd N0 3 : Nat)] 24)) = W13 at *
  generalize v12.heap.size = gv at *
  have Fa := Lib.hid Na
  have Fb := Lib.hid Nb
  have Fm := Lib.hid Nm
  have Fx := Lib.hid Nx
  have Fy := Lib.hid Ny
  have Fz := Lib.hid Nz
  have Fu := Lib.hid Nu
  have Fv := Lib.hid Nv
  have BW := Lib.hid NB
  clear NB Na Nb Nm Nx Ny Nz Nu Nv
  clear Fa
  clear Fb
  clear Fm
  clear Fv
  try simp only [List.append_eq, List.cons_append, List.nil_append]
  refine wp_region_noPanic ?_
  refine wp_region_held_drew (S := fun w' => At w' gx 24 #[.int .u64 (wd N0 0 : Nat), .int .u64 (wd N0 1 : Nat), .int .u64 (wd N0 2 : Nat), .int .u64 (wd N0 3 : Nat)] ∧ At w' gy 24 #[.int .u64 (wd N0 0 : Nat), .int .u64 (wd N0 1 : Nat), .int .u64 (wd N0 2 : Nat), .int .u64 (wd N0 3 : Nat)] ∧ At w' gz 24 #[.int .u64 (wd N0 0 : Nat), .int .u64 (wd N0 1 : Nat), .int .u64 (wd N0 2 : Nat), .int .u64 (wd N0 3 : Nat)] ∧ At w' gu 24 #[.int .u64 (wd N0 0 : Nat), .int .u64 (wd N0 1 : Nat), .int .u64 (wd N0 2 : Nat), .int .u64 (wd N0 3 : Nat)]) (by kernel_rfl) (⟨Fx.out.drew, Fy.out.drew, Fz.out.drew, Fu.out.drew⟩) (fun _ => ?_)
  refine wpAnyH_cores (fuel := 1) (⟨0, 72, [], Kind.val (.bool true), false⟩ :: ⟨1, 73, [0], Kind.val (.bool true), true⟩ :: ⟨2, 74, [1], Kind.val (.int .i64 1), true⟩ :: ⟨3, 75, [1, 2], Kind.val (.bool true), true⟩ :: ⟨4, 76, [1, 3], Kind.val (.bool false), true⟩ :: ⟨5, 77, [1, 4], Kind.val (.bool true), true⟩ :: ⟨6, 78, [1, 3, 5], Kind.val (.bool true), true⟩ :: ⟨7, 79, [1, 6], Kind.val (.bool true), true⟩ :: ⟨8, 80, [7], Kind.val (.bool true), true⟩ :: ⟨9, 81, [8], Kind.val (.int .i64 1), true⟩ :: ⟨10, 82, [8, 9], Kind.val (.bool true), true⟩ :: ⟨11, 83, [8, 10], Kind.val (.bool false), true⟩ :: ⟨12, 84, [8, 11], Kind.val (.bool true), true⟩ :: ⟨13, 85, [8, 10, 12], Kind.val (.bool true), true⟩ :: ⟨14, 86, [8, 13], Kind.val (.bool true), true⟩ :: ⟨15, 87, [14], Kind.val (.bool true), true⟩ :: ⟨16, 88, [15], Kind.val (.int .i64 1), true⟩ :: ⟨17, 89, [15, 16], Kind.val (.bool true), true⟩ :: ⟨18, 90, [15, 17], Kind.val (.bool false), true⟩ :: ⟨19, 91, [15, 18], Kind.val (.bool true), true⟩ :: ⟨20, 92, [15, 17, 19], Kind.val (.bool true), true⟩ :: ⟨21, 93, [15, 20], Kind.val (.bool true), true⟩ :: ⟨22, 94, [21], Kind.val (.bool true), true⟩ :: ⟨23, 95, [22], Kind.val (.int .i64 1), true⟩ :: ⟨24, 96, [22, 23], Kind.val (.bool true), true⟩ :: ⟨25, 97, [22, 24], Kind.val (.bool false), true⟩ :: ⟨26, 98, [22, 25], Kind.val (.bool true), true⟩ :: ⟨27, 99, [22, 24, 26], Kind.val (.bool true), true⟩ :: ⟨28, 100, [22, 27], Kind.val (.bool true), true⟩ :: ⟨29, 101, [28], Kind.val (.bool true), true⟩ :: ⟨30, 102, [29], Kind.val (.int .i64 1), true⟩ :: ⟨31, 103, [29, 30], Kind.val (.bool true), true⟩ :: ⟨32, 104, [29, 31], Kind.val (.bool false), true⟩ :: ⟨33, 105, [29, 32], Kind.val (.bool true), true⟩ :: ⟨34, 106, [29, 31, 33], Kind.val (.bool true), true⟩ :: ⟨35, 107, [29, 34], Kind.val (.bool true), true⟩ :: ⟨36, 108, [35], Kind.val (.bool true), true⟩ :: ⟨37, 109, [36], Kind.val (.bool false), true⟩ :: ⟨38, 110, [36, 37], Kind.val (.bool false), true⟩ :: ⟨39, 111, [38], Kind.val (.agg #[.int .u64 (wd N0 0 : Nat), .int .u64 (wd N0 1 : Nat), .int .u64 (wd N0 2 : Nat), .int .u64 (wd N0 3 : Nat)]), true⟩ :: ⟨40, 112, [38, 39], Kind.val (.agg #[.int .u64 (wd N0 0 : Nat), .int .u64 (wd N0 1 : Nat), .int .u64 (wd N0 2 : Nat), .int .u64 (wd N0 3 : Nat)]), false⟩ :: ⟨41, 113, [38, 39, 40], Kind.val (.bool true), true⟩ :: ⟨42, 114, [38, 41], Kind.val (.bool true), true⟩ :: ⟨43, 115, [42], Kind.val (.agg #[.int .u64 (wd N0 0 : Nat), .int .u64 (wd N0 1 : Nat), .int .u64 (wd N0 2 : Nat), .int .u64 (wd N0 3 : Nat)]), true⟩ :: ⟨44, 116, [42, 43], Kind.val (.agg #[.int .u64 (wd N0 0 : Nat), .int .u64 (wd N0 1 : Nat), .int .u64 (wd N0 2 : Nat), .int .u64 (wd N0 3 : Nat)]), false⟩ :: ⟨45, 117, [42, 43, 44], Kind.val (.bool true), true⟩ :: ⟨46, 118, [38, 42, 45], Kind.val (.bool true), true⟩ :: ⟨47, 119, [38, 46], Kind.val (.bool true), true⟩ :: ⟨48, 120, [47], Kind.val (.agg #[.int .u64 (wd N0 0 : Nat), .int .u64 (wd N0 1 : Nat), .int .u64 (wd N0 2 : Nat), .int .u64 (wd N0 3 : Nat)]), true⟩ :: ⟨49, 121, [47, 48], Kind.val (.agg #[.int .u64 (wd N0 0 : Nat), .int .u64 (wd N0 1 : Nat), .int .u64 (wd N0 2 : Nat), .int .u64 (wd N0 3 : Nat)]), false⟩ :: ⟨50, 122, [47, 48, 49], Kind.val (.bool true), true⟩ :: ⟨51, 123, [38, 47, 50], Kind.val (.bool true), true⟩ :: ⟨52, 124, [36, 38, 51], Kind.val (.bool true), true⟩ :: ⟨53, 125, [36, 52], Kind.val (.bool true), true⟩ :: ⟨54, 126, [53], Kind.val (.bool true), true⟩ :: ⟨55, 127, [54], Kind.val (.bool false), true⟩ :: ⟨56, 128, [54, 55], Kind.val (.bool false), true⟩ :: ⟨57, 129, [56], Kind.val (.agg #[.int .u64 (wd N0 0 : Nat), .int .u64 (wd N0 1 : Nat), .int .u64 (wd N0 2 : Nat), .int .u64 (wd N0 3 : Nat)]), true⟩ :: ⟨58, 130, [56, 57], Kind.val (.agg #[.int .u64 (wd N0 0 : Nat), .int .u64 (wd N0 1 : Nat), .int .u64 (wd N0 2 : Nat), .int .u64 (wd N0 3 : Nat)]), false⟩ :: ⟨59, 131, [56, 57, 58], Kind.val (.bool true), true⟩ :: ⟨60, 132, [54, 56, 59], Kind.val (.bool true), true⟩ :: ⟨61, 133, [54, 60], Kind.val (.bool true), true⟩ :: []) _ _ W13 _ ?_ ?_ ?_ ?_ ?_ ?_ ?_ ?_ ?_ ?_ ?_
  · rfl
  · kernel_rfl
  · exact of_decide_eq_true (by kernel_rfl)
  · exact all_cons ⟨_, by rfl, by rfl⟩ (all_cons ⟨_, by rfl, by rfl⟩ (all_cons ⟨_, by rfl, by rfl⟩ (all_cons ⟨_, by rfl, by rfl⟩ (all_cons ⟨_, by rfl, by rfl⟩ (all_cons ⟨_, by rfl, by rfl⟩ (all_cons ⟨_, by rfl, by rfl⟩ (all_cons ⟨_, by rfl, by rfl⟩ (all_cons ⟨_, by rfl, by rfl⟩ (all_cons ⟨_, by rfl, by rfl⟩ (all_cons ⟨_, by rfl, by rfl⟩ (all_cons ⟨_, by rfl, by rfl⟩ (all_cons ⟨_, by rfl, by rfl⟩ (all_cons ⟨_, by rfl, by rfl⟩ (all_cons ⟨_, by rfl, by rfl⟩ (all_cons ⟨_, by rfl, by rfl⟩ (all_cons ⟨_, by rfl, by rfl⟩ (all_cons ⟨_, by rfl, by rfl⟩ (all_cons ⟨_, by rfl, by rfl⟩ (all_cons ⟨_, by rfl, by rfl⟩ (all_cons ⟨_, by rfl, by rfl⟩ (all_cons ⟨_, by rfl, by rfl⟩ (all_cons ⟨_, by rfl, by rfl⟩ (all_cons ⟨_, by rfl, by rfl⟩ (all_cons ⟨_, by rfl, by rfl⟩ (all_cons ⟨_, by rfl, by rfl⟩ (all_cons ⟨_, by rfl, by rfl⟩ (all_cons ⟨_, by rfl, by rfl⟩ (all_cons ⟨_, by rfl, by rfl⟩ (all_cons ⟨_, by rfl, by rfl⟩ (all_cons ⟨_, by rfl, by rfl⟩ (all_cons ⟨_, by rfl, by rfl⟩ (all_cons ⟨_, by rfl, by rfl⟩ (all_cons ⟨_, by rfl, by rfl⟩ (all_cons ⟨_, by rfl, by rfl⟩ (all_cons ⟨_, by rfl, by rfl⟩ (all_cons ⟨_, by rfl, by rfl⟩ (all_cons ⟨_, by rfl, by rfl⟩ (all_cons ⟨_, by rfl, by rfl⟩ (all_cons ⟨_, by rfl, by rfl⟩ (all_cons ⟨_, by rfl, by rfl⟩ (all_cons ⟨_, by rfl, by rfl⟩ (all_cons ⟨_, by rfl, by rfl⟩ (all_cons ⟨_, by rfl, by rfl⟩ (all_cons ⟨_, by rfl, by rfl⟩ (all_cons ⟨_, by rfl, by rfl⟩ (all_cons ⟨_, by rfl, by rfl⟩ (all_cons ⟨_, by rfl, by rfl⟩ (all_cons ⟨_, by rfl, by rfl⟩ (all_cons ⟨_, by rfl, by rfl⟩ (all_cons ⟨_, by rfl, by rfl⟩ (all_cons ⟨_, by rfl, by rfl⟩ (all_cons ⟨_, by rfl, by rfl⟩ (all_cons ⟨_, by rfl, by rfl⟩ (all_cons ⟨_, by rfl, by rfl⟩ (all_cons ⟨_, by rfl, by rfl⟩ (all_cons ⟨_, by rfl, by rfl⟩ (all_cons ⟨_, by rfl, by rfl⟩ (all_cons ⟨_, by rfl, by rfl⟩ (all_cons ⟨_, by rfl, by rfl⟩ (all_cons ⟨_, by rfl, by rfl⟩ (all_cons ⟨_, by rfl, by rfl⟩ (all_nil))))))))))))))))))))))))))))))))))))))))))))))))))))))))))))))
  · exact fun _ hb => ⟨Fx.out.on hb, Fy.out.on hb, Fz.out.on hb, Fu.out.on hb⟩
  · exact (Below.refl _ _).drew
  · kernel_rfl
  · exact fun _ _ _ _ _ h => h
  · refine all_cons ?_ (all_cons ?_ (all_cons ?_ (all_cons ?_ (all_cons ?_ (all_cons ?_ (all_cons ?_ (all_cons ?_ (all_cons ?_ (all_cons ?_ (all_cons ?_ (all_cons ?_ (all_cons ?_ (all_cons ?_ (all_cons ?_ (all_cons ?_ (all_cons ?_ (all_cons ?_ (all_cons ?_ (all_cons ?_ (all_cons ?_ (all_cons ?_ (all_cons ?_ (all_cons ?_ (all_cons ?_ (all_cons ?_ (all_cons ?_ (all_cons ?_ (all_cons ?_ (all_cons ?_ (all_cons ?_ (all_cons ?_ (all_cons ?_ (all_cons ?_ (all_cons ?_ (all_cons ?_ (all_cons ?_ (all_cons ?_ (all_cons ?_ (all_cons ?_ (all_cons ?_ (all_cons ?_ (all_cons ?_ (all_cons ?_ (all_cons ?_ (all_cons ?_ (all_cons ?_ (all_cons ?_ (all_cons ?_ (all_cons ?_ (all_cons ?_ (all_cons ?_ (all_cons ?_ (all_cons ?_ (all_cons ?_ (all_cons ?_ (all_cons ?_ (all_cons ?_ (all_cons ?_ (all_cons ?_ (all_cons ?_ (all_cons ?_ (all_nil))))))))))))))))))))))))))))))))))))))))))))))))))))))))))))))
    · exact core_pureAs _ (by rfl)
    · exact coreG_move _ _ _ _ _ _ _ (by rfl) (by rfl) (wants_none) (known_core 0 72 _ _ (of_decide_eq_true (by rfl)) (by rfl) (by rfl) (by rfl))
    · exact coreG_move _ _ _ _ _ _ _ (by rfl) (by rfl) (wants_core 1 73 1 _ _ _ (by rfl) (by rfl) (by rfl) (known_core 1 73 _ _ (of_decide_eq_true (by rfl)) (by rfl) (by rfl) (by rfl)) _ (by rfl)) (known_old 11 _ (of_decide_eq_true (by rfl)) (by rfl))
    · exact coreG_bin _ _ _ _ _ _ _ _ _ _ _ _ _ (by rfl) (by rfl) (wants_core 1 73 1 _ _ _ (by rfl) (by rfl) (by rfl) (known_core 1 73 _ _ (of_decide_eq_true (by rfl)) (by rfl) (by rfl) (by rfl)) _ (by rfl)) (known_core 2 74 _ _ (of_decide_eq_true (by rfl)) (by rfl) (by rfl) (by rfl)) (known_const _) ((fun ρ w hx hy => by simp only [execOp, hx, hy]; simp [go_sem]))
    · exact coreG_move _ _ _ _ _ _ _ (by rfl) (by rfl) (wants_core 1 73 1 _ _ _ (by rfl) (by rfl) (by rfl) (known_core 1 73 _ _ (of_decide_eq_true (by rfl)) (by rfl) (by rfl) (by rfl)) _ (by rfl)) (known_old 9 _ (of_decide_eq_true (by rfl)) (by rfl))
    · exact coreG_un _ _ _ _ _ _ _ _ _ _ (by rfl) (by rfl) (wants_core 1 73 1 _ _ _ (by rfl) (by rfl) (by rfl) (known_core 1 73 _ _ (of_decide_eq_true (by rfl)) (by rfl) (by rfl) (by rfl)) _ (by rfl)) (known_core 4 76 _ _ (of_decide_eq_true (by rfl)) (by rfl) (by rfl) (by rfl)) (fun ρ w hx => by simp only [execOp, hx]; simp [go_sem])
    · exact coreG_bin _ _ _ _ _ _ _ _ _ _ _ _ _ (by rfl) (by rfl) (wants_core 1 73 1 _ _ _ (by rfl) (by rfl) (by rfl) (known_core 1 73 _ _ (of_decide_eq_true (by rfl)) (by rfl) (by rfl) (by rfl)) _ (by rfl)) (known_core 3 75 _ _ (of_decide_eq_true (by rfl)) (by rfl) (by rfl) (by rfl)) (known_core 5 77 _ _ (of_decide_eq_true (by rfl)) (by rfl) (by rfl) (by rfl)) ((fun ρ w hx hy => by simp only [execOp, hx, hy]; simp [go_sem]))
    · exact coreG_pick _ _ _ _ _ _ _ _ _ _ _ _ (by rfl) (by rfl) (wants_none) (known_core 1 73 _ _ (of_decide_eq_true (by rfl)) (by rfl) (by rfl) (by rfl)) (known_core 6 78 _ _ (of_decide_eq_true (by rfl)) (by rfl) (by rfl) (by rfl)) (known_const _) (by rfl)
    · exact coreG_move _ _ _ _ _ _ _ (by rfl) (by rfl) (wants_none) (known_core 7 79 _ _ (of_decide_eq_true (by rfl)) (by rfl) (by rfl) (by rfl))
    · exact coreG_move _ _ _ _ _ _ _ (by rfl) (by rfl) (wants_core 8 80 8 _ _ _ (by rfl) (by rfl) (by rfl) (known_core 8 80 _ _ (of_decide_eq_true (by rfl)) (by rfl) (by rfl) (by rfl)) _ (by rfl)) (known_old 13 _ (of_decide_eq_true (by rfl)) (by rfl))
    · exact coreG_bin _ _ _ _ _ _ _ _ _ _ _ _ _ (by rfl) (by rfl) (wants_core 8 80 8 _ _ _ (by rfl) (by rfl) (by rfl) (known_core 8 80 _ _ (of_decide_eq_true (by rfl)) (by rfl) (by rfl) (by rfl)) _ (by rfl)) (known_core 9 81 _ _ (of_decide_eq_true (by rfl)) (by rfl) (by rfl) (by rfl)) (known_const _) ((fun ρ w hx hy => by simp only [execOp, hx, hy]; simp [go_sem]))
    · exact coreG_move _ _ _ _ _ _ _ (by rfl) (by rfl) (wants_core 8 80 8 _ _ _ (by rfl) (by rfl) (by rfl) (known_core 8 80 _ _ (of_decide_eq_true (by rfl)) (by rfl) (by rfl) (by rfl)) _ (by rfl)) (known_old 9 _ (of_decide_eq_true (by rfl)) (by rfl))
    · exact coreG_un _ _ _ _ _ _ _ _ _ _ (by rfl) (by rfl) (wants_core 8 80 8 _ _ _ (by rfl) (by rfl) (by rfl) (known_core 8 80 _ _ (of_decide_eq_true (by rfl)) (by rfl) (by rfl) (by rfl)) _ (by rfl)) (known_core 11 83 _ _ (of_decide_eq_true (by rfl)) (by rfl) (by rfl) (by rfl)) (fun ρ w hx => by simp only [execOp, hx]; simp [go_sem])
    · exact coreG_bin _ _ _ _ _ _ _ _ _ _ _ _ _ (by rfl) (by rfl) (wants_core 8 80 8 _ _ _ (by rfl) (by rfl) (by rfl) (known_core 8 80 _ _ (of_decide_eq_true (by rfl)) (by rfl) (by rfl) (by rfl)) _ (by rfl)) (known_core 10 82 _ _ (of_decide_eq_true (by rfl)) (by rfl) (by rfl) (by rfl)) (known_core 12 84 _ _ (of_decide_eq_true (by rfl)) (by rfl) (by rfl) (by rfl)) ((fun ρ w hx hy => by simp only [execOp, hx, hy]; simp [go_sem]))
    · exact coreG_pick _ _ _ _ _ _ _ _ _ _ _ _ (by rfl) (by rfl) (wants_none) (known_core 8 80 _ _ (of_decide_eq_true (by rfl)) (by rfl) (by rfl) (by rfl)) (known_core 13 85 _ _ (of_decide_eq_true (by rfl)) (by rfl) (by rfl) (by rfl)) (known_const _) (by rfl)
    · exact coreG_move _ _ _ _ _ _ _ (by rfl) (by rfl) (wants_none) (known_core 14 86 _ _ (of_decide_eq_true (by rfl)) (by rfl) (by rfl) (by rfl))
    · exact coreG_move _ _ _ _ _ _ _ (by rfl) (by rfl) (wants_core 15 87 15 _ _ _ (by rfl) (by rfl) (by rfl) (known_core 15 87 _ _ (of_decide_eq_true (by rfl)) (by rfl) (by rfl) (by rfl)) _ (by rfl)) (known_old 15 _ (of_decide_eq_true (by rfl)) (by rfl))
    · exact coreG_bin _ _ _ _ _ _ _ _ _ _ _ _ _ (by rfl) (by rfl) (wants_core 15 87 15 _ _ _ (by rfl) (by rfl) (by rfl) (known_core 15 87 _ _ (of_decide_eq_true (by rfl)) (by rfl) (by rfl) (by rfl)) _ (by rfl)) (known_core 16 88 _ _ (of_decide_eq_true (by rfl)) (by rfl) (by rfl) (by rfl)) (known_const _) ((fun ρ w hx hy => by simp only [execOp, hx, hy]; simp [go_sem]))
    · exact coreG_move _ _ _ _ _ _ _ (by rfl) (by rfl) (wants_core 15 87 15 _ _ _ (by rfl) (by rfl) (by rfl) (known_core 15 87 _ _ (of_decide_eq_true (by rfl)) (by rfl) (by rfl) (by rfl)) _ (by rfl)) (known_old 9 _ (of_decide_eq_true (by rfl)) (by rfl))
    · exact coreG_un _ _ _ _ _ _ _ _ _ _ (by rfl) (by rfl) (wants_core 15 87 15 _ _ _ (by rfl) (by rfl) (by rfl) (known_core 15 87 _ _ (of_decide_eq_true (by rfl)) (by rfl) (by rfl) (by rfl)) _ (by rfl)) (known_core 18 90 _ _ (of_decide_eq_true (by rfl)) (by rfl) (by rfl) (by rfl)) (fun ρ w hx => by simp only [execOp, hx]; simp [go_sem])
    · exact coreG_bin _ _ _ _ _ _ _ _ _ _ _ _ _ (by rfl) (by rfl) (wants_core 15 87 15 _ _ _ (by rfl) (by rfl) (by rfl) (known_core 15 87 _ _ (of_decide_eq_true (by rfl)) (by rfl) (by rfl) (by rfl)) _ (by rfl)) (known_core 17 89 _ _ (of_decide_eq_true (by rfl)) (by rfl) (by rfl) (by rfl)) (known_core 19 91 _ _ (of_decide_eq_true (by rfl)) (by rfl) (by rfl) (by rfl)) ((fun ρ w hx hy => by simp only [execOp, hx, hy]; simp [go_sem]))
    · exact coreG_pick _ _ _ _ _ _ _ _ _ _ _ _ (by rfl) (by rfl) (wants_none) (known_core 15 87 _ _ (of_decide_eq_true (by rfl)) (by rfl) (by rfl) (by rfl)) (known_core 20 92 _ _ (of_decide_eq_true (by rfl)) (by rfl) (by rfl) (by rfl)) (known_const _) (by rfl)
    · exact coreG_move _ _ _ _ _ _ _ (by rfl) (by rfl) (wants_none) (known_core 21 93 _ _ (of_decide_eq_true (by rfl)) (by rfl) (by rfl) (by rfl))
    · exact coreG_move _ _ _ _ _ _ _ (by rfl) (by rfl) (wants_core 22 94 22 _ _ _ (by rfl) (by rfl) (by rfl) (known_core 22 94 _ _ (of_decide_eq_true (by rfl)) (by rfl) (by rfl) (by rfl)) _ (by rfl)) (known_old 17 _ (of_decide_eq_true (by rfl)) (by rfl))
    · exact coreG_bin _ _ _ _ _ _ _ _ _ _ _ _ _ (by rfl) (by rfl) (wants_core 22 94 22 _ _ _ (by rfl) (by rfl) (by rfl) (known_core 22 94 _ _ (of_decide_eq_true (by rfl)) (by rfl) (by rfl) (by rfl)) _ (by rfl)) (known_core 23 95 _ _ (of_decide_eq_true (by rfl)) (by rfl) (by rfl) (by rfl)) (known_const _) ((fun ρ w hx hy => by simp only [execOp, hx, hy]; simp [go_sem]))
    · exact coreG_move _ _ _ _ _ _ _ (by rfl) (by rfl) (wants_core 22 94 22 _ _ _ (by rfl) (by rfl) (by rfl) (known_core 22 94 _ _ (of_decide_eq_true (by rfl)) (by rfl) (by rfl) (by rfl)) _ (by rfl)) (known_old 8 _ (of_decide_eq_true (by rfl)) (by rfl))
    · exact coreG_un _ _ _ _ _ _ _ _ _ _ (by rfl) (by rfl) (wants_core 22 94 22 _ _ _ (by rfl) (by rfl) (by rfl) (known_core 22 94 _ _ (of_decide_eq_true (by rfl)) (by rfl) (by rfl) (by rfl)) _ (by rfl)) (known_core 25 97 _ _ (of_decide_eq_true (by rfl)) (by rfl) (by rfl) (by rfl)) (fun ρ w hx => by simp only [execOp, hx]; simp [go_sem])
    · exact coreG_bin _ _ _ _ _ _ _ _ _ _ _ _ _ (by rfl) (by rfl) (wants_core 22 94 22 _ _ _ (by rfl) (by rfl) (by rfl) (known_core 22 94 _ _ (of_decide_eq_true (by rfl)) (by rfl) (by rfl) (by rfl)) _ (by rfl)) (known_core 24 96 _ _ (of_decide_eq_true (by rfl)) (by rfl) (by rfl) (by rfl)) (known_core 26 98 _ _ (of_decide_eq_true (by rfl)) (by rfl) (by rfl) (by rfl)) ((fun ρ w hx hy => by simp only [execOp, hx, hy]; simp [go_sem]))
    · exact coreG_pick _ _ _ _ _ _ _ _ _ _ _ _ (by rfl) (by rfl) (wants_none) (known_core 22 94 _ _ (of_decide_eq_true (by rfl)) (by rfl) (by rfl) (by rfl)) (known_core 27 99 _ _ (of_decide_eq_true (by rfl)) (by rfl) (by rfl) (by rfl)) (known_const _) (by rfl)
    · exact coreG_move _ _ _ _ _ _ _ (by rfl) (by rfl) (wants_none) (known_core 28 100 _ _ (of_decide_eq_true (by rfl)) (by rfl) (by rfl) (by rfl))
    · exact coreG_move _ _ _ _ _ _ _ (by rfl) (by rfl) (wants_core 29 101 29 _ _ _ (by rfl) (by rfl) (by rfl) (known_core 29 101 _ _ (of_decide_eq_true (by rfl)) (by rfl) (by rfl) (by rfl)) _ (by rfl)) (known_old 19 _ (of_decide_eq_true (by rfl)) (by rfl))
    · exact coreG_bin _ _ _ _ _ _ _ _ _ _ _ _ _ (by rfl) (by rfl) (wants_core 29 101 29 _ _ _ (by rfl) (by rfl) (by rfl) (known_core 29 101 _ _ (of_decide_eq_true (by rfl)) (by rfl) (by rfl) (by rfl)) _ (by rfl)) (known_core 30 102 _ _ (of_decide_eq_true (by rfl)) (by rfl) (by rfl) (by rfl)) (known_const _) ((fun ρ w hx hy => by simp only [execOp, hx, hy]; simp [go_sem]))
    · exact coreG_move _ _ _ _ _ _ _ (by rfl) (by rfl) (wants_core 29 101 29 _ _ _ (by rfl) (by rfl) (by rfl) (known_core 29 101 _ _ (of_decide_eq_true (by rfl)) (by rfl) (by rfl) (by rfl)) _ (by rfl)) (known_old 8 _ (of_decide_eq_true (by rfl)) (by rfl))
    · exact coreG_un _ _ _ _ _ _ _ _ _ _ (by rfl) (by rfl) (wants_core 29 101 29 _ _ _ (by rfl) (by rfl) (by rfl) (known_core 29 101 _ _ (of_decide_eq_true (by rfl)) (by rfl) (by rfl) (by rfl)) _ (by rfl)) (known_core 32 104 _ _ (of_decide_eq_true (by rfl)) (by rfl) (by rfl) (by rfl)) (fun ρ w hx => by simp only [execOp, hx]; simp [go_sem])
    · exact coreG_bin _ _ _ _ _ _ _ _ _ _ _ _ _ (by rfl) (by rfl) (wants_core 29 101 29 _ _ _ (by rfl) (by rfl) (by rfl) (known_core 29 101 _ _ (of_decide_eq_true (by rfl)) (by rfl) (by rfl) (by rfl)) _ (by rfl)) (known_core 31 103 _ _ (of_decide_eq_true (by rfl)) (by rfl) (by rfl) (by rfl)) (known_core 33 105 _ _ (of_decide_eq_true (by rfl)) (by rfl) (by rfl) (by rfl)) ((fun ρ w hx hy => by simp only [execOp, hx, hy]; simp [go_sem]))
    · exact coreG_pick _ _ _ _ _ _ _ _ _ _ _ _ (by rfl) (by rfl) (wants_none) (known_core 29 101 _ _ (of_decide_eq_true (by rfl)) (by rfl) (by rfl) (by rfl)) (known_core 34 106 _ _ (of_decide_eq_true (by rfl)) (by rfl) (by rfl) (by rfl)) (known_const _) (by rfl)
    · exact coreG_move _ _ _ _ _ _ _ (by rfl) (by rfl) (wants_none) (known_core 35 107 _ _ (of_decide_eq_true (by rfl)) (by rfl) (by rfl) (by rfl))
    · exact coreG_move _ _ _ _ _ _ _ (by rfl) (by rfl) (wants_core 36 108 36 _ _ _ (by rfl) (by rfl) (by rfl) (known_core 36 108 _ _ (of_decide_eq_true (by rfl)) (by rfl) (by rfl) (by rfl)) _ (by rfl)) (known_old 9 _ (of_decide_eq_true (by rfl)) (by rfl))
    · exact coreG_move _ _ _ _ _ _ _ (by rfl) (by rfl) (wants_core 36 108 36 _ _ _ (by rfl) (by rfl) (by rfl) (known_core 36 108 _ _ (of_decide_eq_true (by rfl)) (by rfl) (by rfl) (by rfl)) _ (by rfl)) (known_core 37 109 _ _ (of_decide_eq_true (by rfl)) (by rfl) (by rfl) (by rfl))
    · exact coreG_loadP _ _ _ _ _ _ gx _ _ _ _ (by rfl) (by rfl) (wants_core 38 110 38 _ _ _ (by rfl) (by rfl) (by rfl) (known_core 38 110 _ _ (of_decide_eq_true (by rfl)) (by rfl) (by rfl) (by rfl)) _ (by rfl)) (known_old 10 _ (of_decide_eq_true (by rfl)) (by rfl)) (fun _ hs => hs.1)
    · exact core_pureAs _ (by rfl)
    · exact coreG_bin _ _ _ _ _ _ _ _ _ _ _ _ _ (by rfl) (by rfl) (wants_core 38 110 38 _ _ _ (by rfl) (by rfl) (by rfl) (known_core 38 110 _ _ (of_decide_eq_true (by rfl)) (by rfl) (by rfl) (by rfl)) _ (by rfl)) (known_core 39 111 _ _ (of_decide_eq_true (by rfl)) (by rfl) (by rfl) (by rfl)) (known_core 40 112 _ _ (of_decide_eq_true (by rfl)) (by rfl) (by rfl) (by rfl)) (eql_run true _ _ _ _ _ _ _ _ _ _ _ _ _ _ _ (eqY N0))
    · exact coreG_move _ _ _ _ _ _ _ (by rfl) (by rfl) (wants_core 38 110 38 _ _ _ (by rfl) (by rfl) (by rfl) (known_core 38 110 _ _ (of_decide_eq_true (by rfl)) (by rfl) (by rfl) (by rfl)) _ (by rfl)) (known_core 41 113 _ _ (of_decide_eq_true (by rfl)) (by rfl) (by rfl) (by rfl))
    · exact coreG_loadP _ _ _ _ _ _ gy _ _ _ _ (by rfl) (by rfl) (wants_core 42 114 42 _ _ _ (by rfl) (by rfl) (by rfl) (known_core 42 114 _ _ (of_decide_eq_true (by rfl)) (by rfl) (by rfl) (by rfl)) _ (by rfl)) (known_old 12 _ (of_decide_eq_true (by rfl)) (by rfl)) (fun _ hs => hs.2.1)
    · exact core_pureAs _ (by rfl)
    · exact coreG_bin _ _ _ _ _ _ _ _ _ _ _ _ _ (by rfl) (by rfl) (wants_core 42 114 42 _ _ _ (by rfl) (by rfl) (by rfl) (known_core 42 114 _ _ (of_decide_eq_true (by rfl)) (by rfl) (by rfl) (by rfl)) _ (by rfl)) (known_core 43 115 _ _ (of_decide_eq_true (by rfl)) (by rfl) (by rfl) (by rfl)) (known_core 44 116 _ _ (of_decide_eq_true (by rfl)) (by rfl) (by rfl) (by rfl)) (eql_run true _ _ _ _ _ _ _ _ _ _ _ _ _ _ _ (eqY N0))
    · exact coreG_pick _ _ _ _ _ _ _ _ _ _ _ _ (by rfl) (by rfl) (wants_core 38 110 38 _ _ _ (by rfl) (by rfl) (by rfl) (known_core 38 110 _ _ (of_decide_eq_true (by rfl)) (by rfl) (by rfl) (by rfl)) _ (by rfl)) (known_core 42 114 _ _ (of_decide_eq_true (by rfl)) (by rfl) (by rfl) (by rfl)) (known_core 45 117 _ _ (of_decide_eq_true (by rfl)) (by rfl) (by rfl) (by rfl)) (known_const _) (by rfl)
    · exact coreG_move _ _ _ _ _ _ _ (by rfl) (by rfl) (wants_core 38 110 38 _ _ _ (by rfl) (by rfl) (by rfl) (known_core 38 110 _ _ (of_decide_eq_true (by rfl)) (by rfl) (by rfl) (by rfl)) _ (by rfl)) (known_core 46 118 _ _ (of_decide_eq_true (by rfl)) (by rfl) (by rfl) (by rfl))
    · exact coreG_loadP _ _ _ _ _ _ gz _ _ _ _ (by rfl) (by rfl) (wants_core 47 119 47 _ _ _ (by rfl) (by rfl) (by rfl) (known_core 47 119 _ _ (of_decide_eq_true (by rfl)) (by rfl) (by rfl) (by rfl)) _ (by rfl)) (known_old 14 _ (of_decide_eq_true (by rfl)) (by rfl)) (fun _ hs => hs.2.2.1)
    · exact core_pureAs _ (by rfl)
    · exact coreG_bin _ _ _ _ _ _ _ _ _ _ _ _ _ (by rfl) (by rfl) (wants_core 47 119 47 _ _ _ (by rfl) (by rfl) (by rfl) (known_core 47 119 _ _ (of_decide_eq_true (by rfl)) (by rfl) (by rfl) (by rfl)) _ (by rfl)) (known_core 48 120 _ _ (of_decide_eq_true (by rfl)) (by rfl) (by rfl) (by rfl)) (known_core 49 121 _ _ (of_decide_eq_true (by rfl)) (by rfl) (by rfl) (by rfl)) (eql_run true _ _ _ _ _ _ _ _ _ _ _ _ _ _ _ (eqY N0))
    · exact coreG_pick _ _ _ _ _ _ _ _ _ _ _ _ (by rfl) (by rfl) (wants_core 38 110 38 _ _ _ (by rfl) (by rfl) (by rfl) (known_core 38 110 _ _ (of_decide_eq_true (by rfl)) (by rfl) (by rfl) (by rfl)) _ (by rfl)) (known_core 47 119 _ _ (of_decide_eq_true (by rfl)) (by rfl) (by rfl) (by rfl)) (known_core 50 122 _ _ (of_decide_eq_true (by rfl)) (by rfl) (by rfl) (by rfl)) (known_const _) (by rfl)
    · exact coreG_pick _ _ _ _ _ _ _ _ _ _ _ _ (by rfl) (by rfl) (wants_core 36 108 36 _ _ _ (by rfl) (by rfl) (by rfl) (known_core 36 108 _ _ (of_decide_eq_true (by rfl)) (by rfl) (by rfl) (by rfl)) _ (by rfl)) (known_core 38 110 _ _ (of_decide_eq_true (by rfl)) (by rfl) (by rfl) (by rfl)) (known_const _) (known_core 51 123 _ _ (of_decide_eq_true (by rfl)) (by rfl) (by rfl) (by rfl)) (by rfl)
    · exact coreG_pick _ _ _ _ _ _ _ _ _ _ _ _ (by rfl) (by rfl) (wants_none) (known_core 36 108 _ _ (of_decide_eq_true (by rfl)) (by rfl) (by rfl) (by rfl)) (known_core 52 124 _ _ (of_decide_eq_true (by rfl)) (by rfl) (by rfl) (by rfl)) (known_const _) (by rfl)
    · exact coreG_move _ _ _ _ _ _ _ (by rfl) (by rfl) (wants_none) (known_core 53 125 _ _ (of_decide_eq_true (by rfl)) (by rfl) (by rfl) (by rfl))
    · exact coreG_move _ _ _ _ _ _ _ (by rfl) (by rfl) (wants_core 54 126 54 _ _ _ (by rfl) (by rfl) (by rfl) (known_core 54 126 _ _ (of_decide_eq_true (by rfl)) (by rfl) (by rfl) (by rfl)) _ (by rfl)) (known_old 8 _ (of_decide_eq_true (by rfl)) (by rfl))
    · exact coreG_move _ _ _ _ _ _ _ (by rfl) (by rfl) (wants_core 54 126 54 _ _ _ (by rfl) (by rfl) (by rfl) (known_core 54 126 _ _ (of_decide_eq_true (by rfl)) (by rfl) (by rfl) (by rfl)) _ (by rfl)) (known_core 55 127 _ _ (of_decide_eq_true (by rfl)) (by rfl) (by rfl) (by rfl))
    · exact coreG_loadP _ _ _ _ _ _ gu _ _ _ _ (by rfl) (by rfl) (wants_core 56 128 56 _ _ _ (by rfl) (by rfl) (by rfl) (known_core 56 128 _ _ (of_decide_eq_true (by rfl)) (by rfl) (by rfl) (by rfl)) _ (by rfl)) (known_old 16 _ (of_decide_eq_true (by rfl)) (by rfl)) (fun _ hs => hs.2.2.2)
    · exact core_pureAs _ (by rfl)
    · exact coreG_bin _ _ _ _ _ _ _ _ _ _ _ _ _ (by rfl) (by rfl) (wants_core 56 128 56 _ _ _ (by rfl) (by rfl) (by rfl) (known_core 56 128 _ _ (of_decide_eq_true (by rfl)) (by rfl) (by rfl) (by rfl)) _ (by rfl)) (known_core 57 129 _ _ (of_decide_eq_true (by rfl)) (by rfl) (by rfl) (by rfl)) (known_core 58 130 _ _ (of_decide_eq_true (by rfl)) (by rfl) (by rfl) (by rfl)) (eql_run true _ _ _ _ _ _ _ _ _ _ _ _ _ _ _ (eqY N0))
    · exact coreG_pick _ _ _ _ _ _ _ _ _ _ _ _ (by rfl) (by rfl) (wants_core 54 126 54 _ _ _ (by rfl) (by rfl) (by rfl) (known_core 54 126 _ _ (of_decide_eq_true (by rfl)) (by rfl) (by rfl) (by rfl)) _ (by rfl)) (known_core 56 128 _ _ (of_decide_eq_true (by rfl)) (by rfl) (by rfl) (by rfl)) (known_const _) (known_core 59 131 _ _ (of_decide_eq_true (by rfl)) (by rfl) (by rfl) (by rfl)) (by rfl)
    · exact coreG_pick _ _ _ _ _ _ _ _ _ _ _ _ (by rfl) (by rfl) (wants_none) (known_core 54 126 _ _ (of_decide_eq_true (by rfl)) (by rfl) (by rfl) (by rfl)) (known_core 60 132 _ _ (of_decide_eq_true (by rfl)) (by rfl) (by rfl) (by rfl)) (known_const _) (by rfl)
  · refine all_cons ?_ (all_cons ?_ (all_cons ?_ (all_cons ?_ (all_cons ?_ (all_cons ?_ (all_cons ?_ (all_cons ?_ (all_cons ?_ (all_cons ?_ (all_cons ?_ (all_cons ?_ (all_cons ?_ (all_cons ?_ (all_cons ?_ (all_cons ?_ (all_cons ?_ (all_cons ?_ (all_cons ?_ (all_cons ?_ (all_cons ?_ (all_cons ?_ (all_cons ?_ (all_cons ?_ (all_cons ?_ (all_cons ?_ (all_cons ?_ (all_cons ?_ (all_cons ?_ (all_cons ?_ (all_cons ?_ (all_cons ?_ (all_cons ?_ (all_cons ?_ (all_cons ?_ (all_cons ?_ (all_cons ?_ (all_cons ?_ (all_cons ?_ (all_cons ?_ (all_cons ?_ (all_cons ?_ (all_cons ?_ (all_cons ?_ (all_cons ?_ (all_cons ?_ (all_cons ?_ (all_cons ?_ (all_cons ?_ (all_cons ?_ (all_cons ?_ (all_cons ?_ (all_cons ?_ (all_cons ?_ (all_cons ?_ (all_cons ?_ (all_cons ?_ (all_cons ?_ (all_cons ?_ (all_cons ?_ (all_cons ?_ (all_cons ?_ (all_nil))))))))))))))))))))))))))))))))))))))))))))))))))))))))))))))
    · exact fun _ => coreG_call _ 29 _ _ [] _ _ _ _ _ _ _ (by rfl) Try.func29 (by kernel_rfl) (by rfl) (by rfl) (wants_none) .nil (alive4_any)
    · exact core_stepAs _ (by rfl)
    · exact core_stepAs _ (by rfl)
    · exact core_stepAs _ (by rfl)
    · exact core_stepAs _ (by rfl)
    · exact core_stepAs _ (by rfl)
    · exact core_stepAs _ (by rfl)
    · exact core_stepAs _ (by rfl)
    · exact core_stepAs _ (by rfl)
    · exact core_stepAs _ (by rfl)
    · exact core_stepAs _ (by rfl)
    · exact core_stepAs _ (by rfl)
    · exact core_stepAs _ (by rfl)
    · exact core_stepAs _ (by rfl)
    · exact core_stepAs _ (by rfl)
    · exact core_stepAs _ (by rfl)
    · exact core_stepAs _ (by rfl)
    · exact core_stepAs _ (by rfl)
    · exact core_stepAs _ (by rfl)
    · exact core_stepAs _ (by rfl)
    · exact core_stepAs _ (by rfl)
    · exact core_stepAs _ (by rfl)
    · exact core_stepAs _ (by rfl)
    · exact core_stepAs _ (by rfl)
    · exact core_stepAs _ (by rfl)
    · exact core_stepAs _ (by rfl)
    · exact core_stepAs _ (by rfl)
    · exact core_stepAs _ (by rfl)
    · exact core_stepAs _ (by rfl)
    · exact core_stepAs _ (by rfl)
    · exact core_stepAs _ (by rfl)
    · exact core_stepAs _ (by rfl)
    · exact core_stepAs _ (by rfl)
    · exact core_stepAs _ (by rfl)
    · exact core_stepAs _ (by rfl)
    · exact core_stepAs _ (by rfl)
    · exact core_stepAs _ (by rfl)
    · exact core_stepAs _ (by rfl)
    · exact core_stepAs _ (by rfl)
    · exact core_stepAs _ (by rfl)
    · exact fun _ => coreG_call _ 28 _ _ [.const (.int .u64 0)] _ _ _ _ _ _ _ (by rfl) Try.func28 (by kernel_rfl) (by rfl) (by rfl) (wants_core 38 110 38 _ _ _ (by rfl) (by rfl) (by rfl) (known_core 38 110 _ _ (of_decide_eq_true (by rfl)) (by rfl) (by rfl) (by rfl)) _ (by rfl)) (.cons (known_const _) .nil) (HN.out)
    · exact core_stepAs _ (by rfl)
    · exact core_stepAs _ (by rfl)
    · exact core_stepAs _ (by rfl)
    · exact fun _ => coreG_call _ 28 _ _ [.const (.int .u64 0)] _ _ _ _ _ _ _ (by rfl) Try.func28 (by kernel_rfl) (by rfl) (by rfl) (wants_core 42 114 42 _ _ _ (by rfl) (by rfl) (by rfl) (known_core 42 114 _ _ (of_decide_eq_true (by rfl)) (by rfl) (by rfl) (by rfl)) _ (by rfl)) (.cons (known_const _) .nil) (HN.out)
    · exact core_stepAs _ (by rfl)
    · exact core_stepAs _ (by rfl)
    · exact core_stepAs _ (by rfl)
    · exact core_stepAs _ (by rfl)
    · exact fun _ => coreG_call _ 28 _ _ [.const (.int .u64 0)] _ _ _ _ _ _ _ (by rfl) Try.func28 (by kernel_rfl) (by rfl) (by rfl) (wants_core 47 119 47 _ _ _ (by rfl) (by rfl) (by rfl) (known_core 47 119 _ _ (of_decide_eq_true (by rfl)) (by rfl) (by rfl) (by rfl)) _ (by rfl)) (.cons (known_const _) .nil) (HN.out)
    · exact core_stepAs _ (by rfl)
    · exact core_stepAs _ (by rfl)
    · exact core_stepAs _ (by rfl)
    · exact core_stepAs _ (by rfl)
    · exact core_stepAs _ (by rfl)
    · exact core_stepAs _ (by rfl)
    · exact core_stepAs _ (by rfl)
    · exact core_stepAs _ (by rfl)
    · exact fun _ => coreG_call _ 28 _ _ [.const (.int .u64 0)] _ _ _ _ _ _ _ (by rfl) Try.func28 (by kernel_rfl) (by rfl) (by rfl) (wants_core 56 128 56 _ _ _ (by rfl) (by rfl) (by rfl) (known_core 56 128 _ _ (of_decide_eq_true (by rfl)) (by rfl) (by rfl) (by rfl)) _ (by rfl)) (.cons (known_const _) .nil) (HN.out)
    · exact core_stepAs _ (by rfl)
    · exact core_stepAs _ (by rfl)
    · exact core_stepAs _ (by rfl)
  intro vs y14 hc
  have BZ := bel_tr BW.out hc.bel
  refine assign_one (i := 62) (.tmp 133) 6 _ _ _ (.bool true) (by kernel_rfl) (by rfl) (hc.at_ (of_decide_eq_true (by kernel_rfl)) (by rfl) 61 133 _ (.bool true) (by rfl) (by rfl) (by rfl)) (⟨Fx.out.on hc.bel, Fy.out.on hc.bel, Fz.out.on hc.bel, Fu.out.on hc.bel⟩) ?_
  refine wpAnyH_done (by kernel_rfl) ?_ _
  refine NoPanic.normal ?_
  generalize hA : Act.put (over _ _ vs) (some 6) (.bool true) = A
  have hA0 : A.tmps.getD 6 undef = .bool true := by rw [← hA]; exact put_at _ _ _ (by rw [over_size]; exact Nat.le_of_ble_eq_true rfl)
  have hAd : A.defers = [] := by rw [← hA, put_defers, over_defers]
  clear hA hc
  go_wp2_with fail
  refine bodyPost_ret (v := .bool true) (by simp [results, Try.results9, go_sem] at hA0 ⊢; simp [hA0]) hAd ⟨rfl, BZ⟩

set_option maxRecDepth 100000 in
set_option maxHeartbeats 8000000 in
theorem refuse_b (A B M Z N0 u v : Nat) (k j i ei : Int)
    (hk : 0 < k)
    (hj : j < 0)
    (hi : 0 ≤ i)
    (hei : ¬ ei = 1)
    (O : ∀ w, Calls Try.prog 28 #[.int .u64 1] w fun e w' => e = .returned (num Z) ∧ Below w.heap.size w w')
    (K : ∀ w, Calls Try.prog 27 #[num M, num Z] w fun e w' => e = .returned (.int .i64 k) ∧ Below w.heap.size w w')
    (N : ∀ w, Calls Try.prog 28 #[.int .u64 0] w fun e w' => e = .returned (num N0) ∧ Below w.heap.size w w')
    (J : ∀ w, Calls Try.prog 27 #[num A, num M] w fun e w' => e = .returned (.int .i64 j) ∧ Below w.heap.size w w')
    (I : ∀ w, Calls Try.prog 27 #[num B, num M] w fun e w' => e = .returned (.int .i64 i) ∧ Below w.heap.size w w')
    (A1 : ∀ w, Calls Try.prog 17 #[num A, num B, num M] w fun e w' => e = .returned (.tuple #[num N0, .int .i64 1]) ∧ Below w.heap.size w w')
    (A2 : ∀ w, Calls Try.prog 18 #[num A, num B, num M] w fun e w' => e = .returned (.tuple #[num N0, .int .i64 1]) ∧ Below w.heap.size w w')
    (A3 : ∀ w, Calls Try.prog 19 #[num A, num B, num M] w fun e w' => e = .returned (.tuple #[num N0, .int .i64 1]) ∧ Below w.heap.size w w')
    (A4 : ∀ w, Calls Try.prog 20 #[num A, num B, num M] w fun e w' => e = .returned (.tuple #[num u, .int .i64 0]) ∧ Below w.heap.size w w')
    (A5 : ∀ w, Calls Try.prog 21 #[num A, num M] w fun e w' => e = .returned (.tuple #[num v, .int .i64 ei]) ∧ Below w.heap.size w w')
    (w : World) : Calls Try.prog 9 #[num A, num B, num M] w fun e w' => e = .returned (.bool true) ∧ Below w.heap.size w w' := by
  have HO := Lib.hid O
  have HK := Lib.hid K
  have HN := Lib.hid N
  have HJ := Lib.hid J
  have HI := Lib.hid I
  have HA1 := Lib.hid A1
  have HA2 := Lib.hid A2
  have HA3 := Lib.hid A3
  have HA4 := Lib.hid A4
  have HA5 := Lib.hid A5
  clear O K N J I A1 A2 A3 A4 A5
  go_enter Try.func9, Try.ntmps9
  go_wp2_with fail
  have BW := Lib.hid (Below.refl w.heap.size w)
  have Na : At (((w.alloc (.cells #[.int .u64 (wd A 0 : Nat), .int .u64 (wd A 1 : Nat), .int .u64 (wd A 2 : Nat), .int .u64 (wd A 3 : Nat)] 24)).alloc (.cells #[.int .u64 (wd B 0 : Nat), .int .u64 (wd B 1 : Nat), .int .u64 (wd B 2 : Nat), .int .u64 (wd B 3 : Nat)] 24)).alloc (.cells #[.int .u64 (wd M 0 : Nat), .int .u64 (wd M 1 : Nat), .int .u64 (wd M 2 : Nat), .int .u64 (wd M 3 : Nat)] 24)) (w.heap.size) 24 #[.int .u64 (wd A 0 : Nat), .int .u64 (wd A 1 : Nat), .int .u64 (wd A 2 : Nat), .int .u64 (wd A 3 : Nat)] := ((At.at_ _ _ _ _ (by simp)).alloc _).alloc _
  have Nb : At (((w.alloc (.cells #[.int .u64 (wd A 0 : Nat), .int .u64 (wd A 1 : Nat), .int .u64 (wd A 2 : Nat), .int .u64 (wd A 3 : Nat)] 24)).alloc (.cells #[.int .u64 (wd B 0 : Nat), .int .u64 (wd B 1 : Nat), .int .u64 (wd B 2 : Nat), .int .u64 (wd B 3 : Nat)] 24)).alloc (.cells #[.int .u64 (wd M 0 : Nat), .int .u64 (wd M 1 : Nat), .int .u64 (wd M 2 : Nat), .int .u64 (wd M 3 : Nat)] 24)) (w.heap.size + 1) 24 #[.int .u64 (wd B 0 : Nat), .int .u64 (wd B 1 : Nat), .int .u64 (wd B 2 : Nat), .int .u64 (wd B 3 : Nat)] := (At.at_ _ _ _ _ (by simp)).alloc _
  have Nm : At (((w.alloc (.cells #[.int .u64 (wd A 0 : Nat), .int .u64 (wd A 1 : Nat), .int .u64 (wd A 2 : Nat), .int .u64 (wd A 3 : Nat)] 24)).alloc (.cells #[.int .u64 (wd B 0 : Nat), .int .u64 (wd B 1 : Nat), .int .u64 (wd B 2 : Nat), .int .u64 (wd B 3 : Nat)] 24)).alloc (.cells #[.int .u64 (wd M 0 : Nat), .int .u64 (wd M 1 : Nat), .int .u64 (wd M 2 : Nat), .int .u64 (wd M 3 : Nat)] 24)) (w.heap.size + 1 + 1) 24 #[.int .u64 (wd M 0 : Nat), .int .u64 (wd M 1 : Nat), .int .u64 (wd M 2 : Nat), .int .u64 (wd M 3 : Nat)] := At.at_ _ _ _ _ (by simp)
  have NB : Below w.heap.size w (((w.alloc (.cells #[.int .u64 (wd A 0 : Nat), .int .u64 (wd A 1 : Nat), .int .u64 (wd A 2 : Nat), .int .u64 (wd A 3 : Nat)] 24)).alloc (.cells #[.int .u64 (wd B 0 : Nat), .int .u64 (wd B 1 : Nat), .int .u64 (wd B 2 : Nat), .int .u64 (wd B 3 : Nat)] 24)).alloc (.cells #[.int .u64 (wd M 0 : Nat), .int .u64 (wd M 1 : Nat), .int .u64 (wd M 2 : Nat), .int .u64 (wd M 3 : Nat)] 24)) := gr_alloc (gr_alloc (gr_alloc BW.out _) _) _
  clear BW 
  generalize (((w.alloc (.cells #[.int .u64 (wd A 0 : Nat), .int .u64 (wd A 1 : Nat), .int .u64 (wd A 2 : Nat), .int .u64 (wd A 3 : Nat)] 24)).alloc (.cells #[.int .u64 (wd B 0 : Nat), .int .u64 (wd B 1 : Nat), .int .u64 (wd B 2 : Nat), .int .u64 (wd B 3 : Nat)] 24)).alloc (.cells #[.int .u64 (wd M 0 : Nat), .int .u64 (wd M 1 : Nat), .int .u64 (wd M 2 : Nat), .int .u64 (wd M 3 : Nat)] 24)) = W1 at *
  generalize w.heap.size + 1 + 1 = gm at *
  generalize w.heap.size + 1 = gb at *
  obtain ⟨ga, hg0⟩ : ∃ g, g = w.heap.size := ⟨_, rfl⟩
  rw [← hg0] at Na ⊢
  clear hg0
  have Fa := Lib.hid Na
  have Fb := Lib.hid Nb
  have Fm := Lib.hid Nm
  have BW := Lib.hid NB
  clear NB Na Nb Nm
  try simp only [List.append_eq, List.cons_append, List.nil_append]
  refine wp_region_noPanic ?_
  refine wp_region_held_drew (S := fun w' => At w' gm 24 #[.int .u64 (wd M 0 : Nat), .int .u64 (wd M 1 : Nat), .int .u64 (wd M 2 : Nat), .int .u64 (wd M 3 : Nat)]) (by kernel_rfl) (Fm.out.drew) (fun _ => ?_)
  refine wpAnyH_cores (fuel := 1) (⟨0, 20, [], Kind.val (.agg #[.int .u64 (wd M 0 : Nat), .int .u64 (wd M 1 : Nat), .int .u64 (wd M 2 : Nat), .int .u64 (wd M 3 : Nat)]), true⟩ :: ⟨1, 21, [0], Kind.val (.agg #[.int .u64 (wd Z 0 : Nat), .int .u64 (wd Z 1 : Nat), .int .u64 (wd Z 2 : Nat), .int .u64 (wd Z 3 : Nat)]), false⟩ :: ⟨2, 22, [0, 1], Kind.val (.int .i64 k), false⟩ :: ⟨3, 23, [2], Kind.val (.bool true), true⟩ :: []) _ _ W1 _ ?_ ?_ ?_ ?_ ?_ ?_ ?_ ?_ ?_ ?_ ?_
  · rfl
  · kernel_rfl
  · exact of_decide_eq_true (by kernel_rfl)
  · exact all_cons ⟨_, by rfl, by rfl⟩ (all_cons ⟨_, by rfl, by rfl⟩ (all_cons ⟨_, by rfl, by rfl⟩ (all_cons ⟨_, by rfl, by rfl⟩ (all_nil))))
  · exact fun _ hb => Fm.out.on hb
  · exact (Below.refl _ _).drew
  · kernel_rfl
  · exact fun _ _ _ _ _ h => h
  · refine all_cons ?_ (all_cons ?_ (all_cons ?_ (all_cons ?_ (all_nil))))
    · exact coreG_loadP _ _ _ _ _ _ gm _ _ _ _ (by rfl) (by rfl) (wants_none) (known_old 5 _ (of_decide_eq_true (by rfl)) (by rfl)) (fun _ hs => hs)
    · exact core_pureAs _ (by rfl)
    · exact core_pureAs _ (by rfl)
    · exact coreG_bin _ _ _ _ _ _ _ _ _ _ _ _ _ (by rfl) (by rfl) (wants_none) (known_core 2 22 _ _ (of_decide_eq_true (by rfl)) (by rfl) (by rfl) (by rfl)) (known_const _) ((fun ρ w hx hy => by simp only [execOp, hx, hy]; simp [go_sem]; exact hk))
  · refine all_cons ?_ (all_cons ?_ (all_cons ?_ (all_cons ?_ (all_nil))))
    · exact core_stepAs _ (by rfl)
    · exact fun _ => coreG_call _ 28 _ _ [.const (.int .u64 1)] _ _ _ _ _ _ _ (by rfl) Try.func28 (by kernel_rfl) (by rfl) (by rfl) (wants_none) (.cons (known_const _) .nil) (HO.out)
    · exact fun _ => coreG_call _ 27 _ _ [.tmp 20, .tmp 21] _ _ _ _ _ _ _ (by rfl) Try.func27 (by kernel_rfl) (by rfl) (by rfl) (wants_none) (.cons (known_core 0 20 _ _ (of_decide_eq_true (by rfl)) (by rfl) (by rfl) (by rfl)) (.cons (known_core 1 21 _ _ (of_decide_eq_true (by rfl)) (by rfl) (by rfl) (by rfl)) .nil)) (HK.out)
    · exact core_stepAs _ (by rfl)
  intro vs y2 hc
  obtain ⟨vv0, vv1, vv2, vv3, rfl⟩ := len4 vs hc.lv
  have qq0 : vv0 = .agg #[.int .u64 (wd M 0 : Nat), .int .u64 (wd M 1 : Nat), .int .u64 (wd M 2 : Nat), .int .u64 (wd M 3 : Nat)] := by obtain ⟨xx, hx, hy⟩ := hc.ok 0 _ rfl rfl; exact (Option.some.inj (show some vv0 = some xx from hx)).trans hy
  have qq1 : vv1 = .agg #[.int .u64 (wd Z 0 : Nat), .int .u64 (wd Z 1 : Nat), .int .u64 (wd Z 2 : Nat), .int .u64 (wd Z 3 : Nat)] := by obtain ⟨xx, hx, hy⟩ := hc.ok 1 _ rfl rfl; exact (Option.some.inj (show some vv1 = some xx from hx)).trans hy
  have qq2 : vv2 = .int .i64 k := by obtain ⟨xx, hx, hy⟩ := hc.ok 2 _ rfl rfl; exact (Option.some.inj (show some vv2 = some xx from hx)).trans hy
  have qq3 : vv3 = .bool true := by obtain ⟨xx, hx, hy⟩ := hc.ok 3 _ rfl rfl; exact (Option.some.inj (show some vv3 = some xx from hx)).trans hy
  have BZ := hc.bel
  clear hc
  have Na := Fa.out.on BZ
  have Nb := Fb.out.on BZ
  have Nm := Fm.out.on BZ
  have NB := bel_tr BW.out BZ
  clear BW BZ Fa Fb Fm
  subst qq0 qq1 qq2 qq3
  simp only [List.map_cons, List.map_nil, over, Act.put, List.setIfInBounds_toArray, List.set_cons_zero, List.set_cons_succ]
  refine assign_one (i := 4) _ 7 _ _ _ _ (by kernel_rfl) (by rfl) (by rfl) (Nm) ?_
  try simp only [Act.put, List.setIfInBounds_toArray, List.set_cons_zero, List.set_cons_succ]
  refine wpAnyH_done (by kernel_rfl) ?_ _
  refine NoPanic.normal ?_
  have Fa := Lib.hid Na
  have Fb := Lib.hid Nb
  have Fm := Lib.hid Nm
  have BW := Lib.hid NB
  clear NB Na Nb Nm
  have La := Fa.out.lt
  have ca0 : y2.cell? ⟨ga, 0, none⟩ = some (.int .u64 (wd A 0 : Nat)) := Fa.out.cell 0
  have ca1 : y2.cell? ⟨ga, 1, none⟩ = some (.int .u64 (wd A 1 : Nat)) := Fa.out.cell 1
  have ca2 : y2.cell? ⟨ga, 2, none⟩ = some (.int .u64 (wd A 2 : Nat)) := Fa.out.cell 2
  have ca3 : y2.cell? ⟨ga, 3, none⟩ = some (.int .u64 (wd A 3 : Nat)) := Fa.out.cell 3
  have Lm := Fm.out.lt
  have cm0 : y2.cell? ⟨gm, 0, none⟩ = some (.int .u64 (wd M 0 : Nat)) := Fm.out.cell 0
  have cm1 : y2.cell? ⟨gm, 1, none⟩ = some (.int .u64 (wd M 1 : Nat)) := Fm.out.cell 1
  have cm2 : y2.cell? ⟨gm, 2, none⟩ = some (.int .u64 (wd M 2 : Nat)) := Fm.out.cell 2
  have cm3 : y2.cell? ⟨gm, 3, none⟩ = some (.int .u64 (wd M 3 : Nat)) := Fm.out.cell 3
  go_wp2_with fail
  clear La ca0 ca1 ca2 ca3 Lm cm0 cm1 cm2 cm3
  refine (HJ.out _).mono ?_
  rintro e v3 ⟨rfl, z3⟩
  have Na := Lib.hid (Fa.out.on z3)
  have Nb := Lib.hid (Fb.out.on z3)
  have Nm := Lib.hid (Fm.out.on z3)
  have NB := Lib.hid (bel_tr BW.out z3)
  clear BW z3 Fa Fb Fm
  have Fa := Na
  have Fb := Nb
  have Fm := Nm
  have BW := NB
  clear NB Na Nb Nm
  have Lb := Fb.out.lt
  have cb0 : v3.cell? ⟨gb, 0, none⟩ = some (.int .u64 (wd B 0 : Nat)) := Fb.out.cell 0
  have cb1 : v3.cell? ⟨gb, 1, none⟩ = some (.int .u64 (wd B 1 : Nat)) := Fb.out.cell 1
  have cb2 : v3.cell? ⟨gb, 2, none⟩ = some (.int .u64 (wd B 2 : Nat)) := Fb.out.cell 2
  have cb3 : v3.cell? ⟨gb, 3, none⟩ = some (.int .u64 (wd B 3 : Nat)) := Fb.out.cell 3
  have Lm := Fm.out.lt
  have cm0 : v3.cell? ⟨gm, 0, none⟩ = some (.int .u64 (wd M 0 : Nat)) := Fm.out.cell 0
  have cm1 : v3.cell? ⟨gm, 1, none⟩ = some (.int .u64 (wd M 1 : Nat)) := Fm.out.cell 1
  have cm2 : v3.cell? ⟨gm, 2, none⟩ = some (.int .u64 (wd M 2 : Nat)) := Fm.out.cell 2
  have cm3 : v3.cell? ⟨gm, 3, none⟩ = some (.int .u64 (wd M 3 : Nat)) := Fm.out.cell 3
  go_wp2_with fail
  clear Lb cb0 cb1 cb2 cb3 Lm cm0 cm1 cm2 cm3
  refine (HI.out _).mono ?_
  rintro e v4 ⟨rfl, z4⟩
  have Na := Lib.hid (Fa.out.on z4)
  have Nb := Lib.hid (Fb.out.on z4)
  have Nm := Lib.hid (Fm.out.on z4)
  have NB := Lib.hid (bel_tr BW.out z4)
  clear BW z4 Fa Fb Fm
  have Fa := Na
  have Fb := Nb
  have Fm := Nm
  have BW := NB
  clear NB Na Nb Nm
  have La := Fa.out.lt
  have ca0 : v4.cell? ⟨ga, 0, none⟩ = some (.int .u64 (wd A 0 : Nat)) := Fa.out.cell 0
  have ca1 : v4.cell? ⟨ga, 1, none⟩ = some (.int .u64 (wd A 1 : Nat)) := Fa.out.cell 1
  have ca2 : v4.cell? ⟨ga, 2, none⟩ = some (.int .u64 (wd A 2 : Nat)) := Fa.out.cell 2
  have ca3 : v4.cell? ⟨ga, 3, none⟩ = some (.int .u64 (wd A 3 : Nat)) := Fa.out.cell 3
  have Lb := Fb.out.lt
  have cb0 : v4.cell? ⟨gb, 0, none⟩ = some (.int .u64 (wd B 0 : Nat)) := Fb.out.cell 0
  have cb1 : v4.cell? ⟨gb, 1, none⟩ = some (.int .u64 (wd B 1 : Nat)) := Fb.out.cell 1
  have cb2 : v4.cell? ⟨gb, 2, none⟩ = some (.int .u64 (wd B 2 : Nat)) := Fb.out.cell 2
  have cb3 : v4.cell? ⟨gb, 3, none⟩ = some (.int .u64 (wd B 3 : Nat)) := Fb.out.cell 3
  have Lm := Fm.out.lt
  have cm0 : v4.cell? ⟨gm, 0, none⟩ = some (.int .u64 (wd M 0 : Nat)) := Fm.out.cell 0
  have cm1 : v4.cell? ⟨gm, 1, none⟩ = some (.int .u64 (wd M 1 : Nat)) := Fm.out.cell 1
  have cm2 : v4.cell? ⟨gm, 2, none⟩ = some (.int .u64 (wd M 2 : Nat)) := Fm.out.cell 2
  have cm3 : v4.cell? ⟨gm, 3, none⟩ = some (.int .u64 (wd M 3 : Nat)) := Fm.out.cell 3
  have hi2 : ¬ i < 0 := by omega
  have hi3 : decide (i < 0) = false := by simp; omega
  go_wp2_with fail
  clear La ca0 ca1 ca2 ca3 Lb cb0 cb1 cb2 cb3 Lm cm0 cm1 cm2 cm3
  refine (HA1.out _).mono ?_
  rintro e v5 ⟨rfl, z5⟩
  have Na := Lib.hid (Fa.out.on z5)
  have Nb := Lib.hid (Fb.out.on z5)
  have Nm := Lib.hid (Fm.out.on z5)
  have NB := Lib.hid (bel_tr BW.out z5)
  clear BW z5 Fa Fb Fm
  have Fa := Na
  have Fb := Nb
  have Fm := Nm
  have BW := NB
  clear NB Na Nb Nm
  have La := Fa.out.lt
  have ca0 : v5.cell? ⟨ga, 0, none⟩ = some (.int .u64 (wd A 0 : Nat)) := Fa.out.cell 0
  have ca1 : v5.cell? ⟨ga, 1, none⟩ = some (.int .u64 (wd A 1 : Nat)) := Fa.out.cell 1
  have ca2 : v5.cell? ⟨ga, 2, none⟩ = some (.int .u64 (wd A 2 : Nat)) := Fa.out.cell 2
  have ca3 : v5.cell? ⟨ga, 3, none⟩ = some (.int .u64 (wd A 3 : Nat)) := Fa.out.cell 3
  have Lb := Fb.out.lt
  have cb0 : v5.cell? ⟨gb, 0, none⟩ = some (.int .u64 (wd B 0 : Nat)) := Fb.out.cell 0
  have cb1 : v5.cell? ⟨gb, 1, none⟩ = some (.int .u64 (wd B 1 : Nat)) := Fb.out.cell 1
  have cb2 : v5.cell? ⟨gb, 2, none⟩ = some (.int .u64 (wd B 2 : Nat)) := Fb.out.cell 2
  have cb3 : v5.cell? ⟨gb, 3, none⟩ = some (.int .u64 (wd B 3 : Nat)) := Fb.out.cell 3
  have Lm := Fm.out.lt
  have cm0 : v5.cell? ⟨gm, 0, none⟩ = some (.int .u64 (wd M 0 : Nat)) := Fm.out.cell 0
  have cm1 : v5.cell? ⟨gm, 1, none⟩ = some (.int .u64 (wd M 1 : Nat)) := Fm.out.cell 1
  have cm2 : v5.cell? ⟨gm, 2, none⟩ = some (.int .u64 (wd M 2 : Nat)) := Fm.out.cell 2
  have cm3 : v5.cell? ⟨gm, 3, none⟩ = some (.int .u64 (wd M 3 : Nat)) := Fm.out.cell 3
  go_wp2_with fail
  clear La ca0 ca1 ca2 ca3 Lb cb0 cb1 cb2 cb3 Lm cm0 cm1 cm2 cm3
  have Nx : At (v5.alloc (.cells #[.int .u64 (wd N0 0 : Nat), .int .u64 (wd N0 1 : Nat), .int .u64 (wd N0 2 : Nat), .int .u64 (wd N0 3 : Nat)] 24)) (v5.heap.size) 24 #[.int .u64 (wd N0 0 : Nat), .int .u64 (wd N0 1 : Nat), .int .u64 (wd N0 2 : Nat), .int .u64 (wd N0 3 : Nat)] := At.at_ _ _ _ _ (by simp)
  have Na : At (v5.alloc (.cells #[.int .u64 (wd N0 0 : Nat), .int .u64 (wd N0 1 : Nat), .int .u64 (wd N0 2 : Nat), .int .u64 (wd N0 3 : Nat)] 24)) ga 24 #[.int .u64 (wd A 0 : Nat), .int .u64 (wd A 1 : Nat), .int .u64 (wd A 2 : Nat), .int .u64 (wd A 3 : Nat)] := Fa.out.alloc _
  have Nb : At (v5.alloc (.cells #[.int .u64 (wd N0 0 : Nat), .int .u64 (wd N0 1 : Nat), .int .u64 (wd N0 2 : Nat), .int .u64 (wd N0 3 : Nat)] 24)) gb 24 #[.int .u64 (wd B 0 : Nat), .int .u64 (wd B 1 : Nat), .int .u64 (wd B 2 : Nat), .int .u64 (wd B 3 : Nat)] := Fb.out.alloc _
  have Nm : At (v5.alloc (.cells #[.int .u64 (wd N0 0 : Nat), .int .u64 (wd N0 1 : Nat), .int .u64 (wd N0 2 : Nat), .int .u64 (wd N0 3 : Nat)] 24)) gm 24 #[.int .u64 (wd M 0 : Nat), .int .u64 (wd M 1 : Nat), .int .u64 (wd M 2 : Nat), .int .u64 (wd M 3 : Nat)] := Fm.out.alloc _
  have NB : Below w.heap.size w (v5.alloc (.cells #[.int .u64 (wd N0 0 : Nat), .int .u64 (wd N0 1 : Nat), .int .u64 (wd N0 2 : Nat), .int .u64 (wd N0 3 : Nat)] 24)) := gr_alloc BW.out _
  clear BW Fa Fb Fm
  generalize (v5.alloc (.cells #[.int .u64 (wd N0 0 : Nat), .int .u64 (wd N0 1 : Nat), .int .u64 (wd N0 2 : Nat), .int .u64 (wd N0 3 : Nat)] 24)) = W6 at *
  generalize v5.heap.size = gx at *
  have Fa := Lib.hid Na
  have Fb := Lib.hid Nb
  have Fm := Lib.hid Nm
  have Fx := Lib.hid Nx
  have BW := Lib.hid NB
  clear NB Na Nb Nm Nx
  refine (HA2.out _).mono ?_
  rintro e v7 ⟨rfl, z7⟩
  have Na := Lib.hid (Fa.out.on z7)
  have Nb := Lib.hid (Fb.out.on z7)
  have Nm := Lib.hid (Fm.out.on z7)
  have Nx := Lib.hid (Fx.out.on z7)
  have NB := Lib.hid (bel_tr BW.out z7)
  clear BW z7 Fa Fb Fm Fx
  have Fa := Na
  have Fb := Nb
  have Fm := Nm
  have Fx := Nx
  have BW := NB
  clear NB Na Nb Nm Nx
  have La := Fa.out.lt
  have ca0 : v7.cell? ⟨ga, 0, none⟩ = some (.int .u64 (wd A 0 : Nat)) := Fa.out.cell 0
  have ca1 : v7.cell? ⟨ga, 1, none⟩ = some (.int .u64 (wd A 1 : Nat)) := Fa.out.cell 1
  have ca2 : v7.cell? ⟨ga, 2, none⟩ = some (.int .u64 (wd A 2 : Nat)) := Fa.out.cell 2
  have ca3 : v7.cell? ⟨ga, 3, none⟩ = some (.int .u64 (wd A 3 : Nat)) := Fa.out.cell 3
  have Lb := Fb.out.lt
  have cb0 : v7.cell? ⟨gb, 0, none⟩ = some (.int .u64 (wd B 0 : Nat)) := Fb.out.cell 0
  have cb1 : v7.cell? ⟨gb, 1, none⟩ = some (.int .u64 (wd B 1 : Nat)) := Fb.out.cell 1
  have cb2 : v7.cell? ⟨gb, 2, none⟩ = some (.int .u64 (wd B 2 : Nat)) := Fb.out.cell 2
  have cb3 : v7.cell? ⟨gb, 3, none⟩ = some (.int .u64 (wd B 3 : Nat)) := Fb.out.cell 3
  have Lm := Fm.out.lt
  have cm0 : v7.cell? ⟨gm, 0, none⟩ = some (.int .u64 (wd M 0 : Nat)) := Fm.out.cell 0
  have cm1 : v7.cell? ⟨gm, 1, none⟩ = some (.int .u64 (wd M 1 : Nat)) := Fm.out.cell 1
  have cm2 : v7.cell? ⟨gm, 2, none⟩ = some (.int .u64 (wd M 2 : Nat)) := Fm.out.cell 2
  have cm3 : v7.cell? ⟨gm, 3, none⟩ = some (.int .u64 (wd M 3 : Nat)) := Fm.out.cell 3
  go_wp2_with fail
  clear La ca0 ca1 ca2 ca3 Lb cb0 cb1 cb2 cb3 Lm cm0 cm1 cm2 cm3
  have Ny : At (v7.alloc (.cells #[.int .u64 (wd N0 0 : Nat), .int .u64 (wd N0 1 : Nat), .int .u64 (wd N0 2 : Nat), .int .u64 (wd N0 3 : Nat)] 24)) (v7.heap.size) 24 #[.int .u64 (wd N0 0 : Nat), .int .u64 (wd N0 1 : Nat), .int .u64 (wd N0 2 : Nat), .int .u64 (wd N0 3 : Nat)] := At.at_ _ _ _ _ (by simp)
  have Na : At (v7.alloc (.cells #[.int .u64 (wd N0 0 : Nat), .int .u64 (wd N0 1 : Nat), .int .u64 (wd N0 2 : Nat), .int .u64 (wd N0 3 : Nat)] 24)) ga 24 #[.int .u64 (wd A 0 : Nat), .int .u64 (wd A 1 : Nat), .int .u64 (wd A 2 : Nat), .int .u64 (wd A 3 : Nat)] := Fa.out.alloc _
  have Nb : At (v7.alloc (.cells #[.int .u64 (wd N0 0 : Nat), .int .u64 (wd N0 1 : Nat), .int .u64 (wd N0 2 : Nat), .int .u64 (wd N0 3 : Nat)] 24)) gb 24 #[.int .u64 (wd B 0 : Nat), .int .u64 (wd B 1 : Nat), .int .u64 (wd B 2 : Nat), .int .u64 (wd B 3 : Nat)] := Fb.out.alloc _
  have Nm : At (v7.alloc (.cells #[.int .u64 (wd N0 0 : Nat), .int .u64 (wd N0 1 : Nat), .int .u64 (wd N0 2 : Nat), .int .u64 (wd N0 3 : Nat)] 24)) gm 24 #[.int .u64 (wd M 0 : Nat), .int .u64 (wd M 1 : Nat), .int .u64 (wd M 2 : Nat), .int .u64 (wd M 3 : Nat)] := Fm.out.alloc _
  have Nx : At (v7.alloc (.cells #[.int .u64 (wd N0 0 : Nat), .int .u64 (wd N0 1 : Nat), .int .u64 (wd N0 2 : Nat), .int .u64 (wd N0 3 : Nat)] 24)) gx 24 #[.int .u64 (wd N0 0 : Nat), .int .u64 (wd N0 1 : Nat), .int .u64 (wd N0 2 : Nat), .int .u64 (wd N0 3 : Nat)] := Fx.out.alloc _
  have NB : Below w.heap.size w (v7.alloc (.cells #[.int .u64 (wd N0 0 : Nat), .int .u64 (wd N0 1 : Nat), .int .u64 (wd N0 2 : Nat), .int .u64 (wd N0 3 : Nat)] 24)) := gr_alloc BW.out _
  clear BW Fa Fb Fm Fx
  generalize (v7.alloc (.cells #[.int .u64 (wd N0 0 : Nat), .int .u64 (wd N0 1 : Nat), .int .u64 (wd N0 2 : Nat), .int .u64 (wd N0 3 : Nat)] 24)) = W8 at *
  generalize v7.heap.size = gy at *
  have Fa := Lib.hid Na
  have Fb := Lib.hid Nb
  have Fm := Lib.hid Nm
  have Fx := Lib.hid Nx
  have Fy := Lib.hid Ny
  have BW := Lib.hid NB
  clear NB Na Nb Nm Nx Ny
  refine (HA3.out _).mono ?_
  rintro e v9 ⟨rfl, z9⟩
  have Na := Lib.hid (Fa.out.on z9)
  have Nb := Lib.hid (Fb.out.on z9)
  have Nm := Lib.hid (Fm.out.on z9)
  have Nx := Lib.hid (Fx.out.on z9)
  have Ny := Lib.hid (Fy.out.on z9)
  have NB := Lib.hid (bel_tr BW.out z9)
  clear BW z9 Fa Fb Fm Fx Fy
  have Fa := Na
  have Fb := Nb
  have Fm := Nm
  have Fx := Nx
  have Fy := Ny
  have BW := NB
  clear NB Na Nb Nm Nx Ny
  have La := Fa.out.lt
  have ca0 : v9.cell? ⟨ga, 0, none⟩ = some (.int .u64 (wd A 0 : Nat)) := Fa.out.cell 0
  have ca1 : v9.cell? ⟨ga, 1, none⟩ = some (.int .u64 (wd A 1 : Nat)) := Fa.out.cell 1
  have ca2 : v9.cell? ⟨ga, 2, none⟩ = some (.int .u64 (wd A 2 : Nat)) := Fa.out.cell 2
  have ca3 : v9.cell? ⟨ga, 3, none⟩ = some (.int .u64 (wd A 3 : Nat)) := Fa.out.cell 3
  have Lb := Fb.out.lt
  have cb0 : v9.cell? ⟨gb, 0, none⟩ = some (.int .u64 (wd B 0 : Nat)) := Fb.out.cell 0
  have cb1 : v9.cell? ⟨gb, 1, none⟩ = some (.int .u64 (wd B 1 : Nat)) := Fb.out.cell 1
  have cb2 : v9.cell? ⟨gb, 2, none⟩ = some (.int .u64 (wd B 2 : Nat)) := Fb.out.cell 2
  have cb3 : v9.cell? ⟨gb, 3, none⟩ = some (.int .u64 (wd B 3 : Nat)) := Fb.out.cell 3
  have Lm := Fm.out.lt
  have cm0 : v9.cell? ⟨gm, 0, none⟩ = some (.int .u64 (wd M 0 : Nat)) := Fm.out.cell 0
  have cm1 : v9.cell? ⟨gm, 1, none⟩ = some (.int .u64 (wd M 1 : Nat)) := Fm.out.cell 1
  have cm2 : v9.cell? ⟨gm, 2, none⟩ = some (.int .u64 (wd M 2 : Nat)) := Fm.out.cell 2
  have cm3 : v9.cell? ⟨gm, 3, none⟩ = some (.int .u64 (wd M 3 : Nat)) := Fm.out.cell 3
  go_wp2_with fail
  clear La ca0 ca1 ca2 ca3 Lb cb0 cb1 cb2 cb3 Lm cm0 cm1 cm2 cm3
  have Nz : At (v9.alloc (.cells #[.int .u64 (wd N0 0 : Nat), .int .u64 (wd N0 1 : Nat), .int .u64 (wd N0 2 : Nat), .int .u64 (wd N0 3 : Nat)] 24)) (v9.heap.size) 24 #[.int .u64 (wd N0 0 : Nat), .int .u64 (wd N0 1 : Nat), .int .u64 (wd N0 2 : Nat), .int .u64 (wd N0 3 : Nat)] := At.at_ _ _ _ _ (by simp)
  have Na : At (v9.alloc (.cells #[.int .u64 (wd N0 0 : Nat), .int .u64 (wd N0 1 : Nat), .int .u64 (wd N0 2 : Nat), .int .u64 (wd N0 3 : Nat)] 24)) ga 24 #[.int .u64 (wd A 0 : Nat), .int .u64 (wd A 1 : Nat), .int .u64 (wd A 2 : Nat), .int .u64 (wd A 3 : Nat)] := Fa.out.alloc _
  have Nb : At (v9.alloc (.cells #[.int .u64 (wd N0 0 : Nat), .int .u64 (wd N0 1 : Nat), .int .u64 (wd N0 2 : Nat), .int .u64 (wd N0 3 : Nat)] 24)) gb 24 #[.int .u64 (wd B 0 : Nat), .int .u64 (wd B 1 : Nat), .int .u64 (wd B 2 : Nat), .int .u64 (wd B 3 : Nat)] := Fb.out.alloc _
  have Nm : At (v9.alloc (.cells #[.int .u64 (wd N0 0 : Nat), .int .u64 (wd N0 1 : Nat), .int .u64 (wd N0 2 : Nat), .int .u64 (wd N0 3 : Nat)] 24)) gm 24 #[.int .u64 (wd M 0 : Nat), .int .u64 (wd M 1 : Nat), .int .u64 (wd M 2 : Nat), .int .u64 (wd M 3 : Nat)] := Fm.out.alloc _
  have Nx : At (v9.alloc (.cells #[.int .u64 (wd N0 0 : Nat), .int .u64 (wd N0 1 : Nat), .int .u64 (wd N0 2 : Nat), .int .u64 (wd N0 3 : Nat)] 24)) gx 24 #[.int .u64 (wd N0 0 : Nat), .int .u64 (wd N0 1 : Nat), .int .u64 (wd N0 2 : Nat), .int .u64 (wd N0 3 : Nat)] := Fx.out.alloc _
  have Ny : At (v9.alloc (.cells #[.int .u64 (wd N0 0 : Nat), .int .u64 (wd N0 1 : Nat), .int .u64 (wd N0 2 : Nat), .int .u64 (wd N0 3 : Nat)] 24)) gy 24 #[.int .u64 (wd N0 0 : Nat), .int .u64 (wd N0 1 : Nat), .int .u64 (wd N0 2 : Nat), .int .u64 (wd N0 3 : Nat)] := Fy.out.alloc _
  have NB : Below w.heap.size w (v9.alloc (.cells #[.int .u64 (wd N0 0 : Nat), .int .u64 (wd N0 1 : Nat), .int .u64 (wd N0 2 : Nat), .int .u64 (wd N0 3 : Nat)] 24)) := gr_alloc BW.out _
  clear BW Fa Fb Fm Fx Fy
  generalize (v9.alloc (.cells #[.int .u64 (wd N0 0 : Nat), .int .u64 (wd N0 1 : Nat), .int .u64 (wd N0 2 : Nat), .int .u64 (wd N0 3 : Nat)] 24)) = W10 at *
  generalize v9.heap.size = gz at *
  have Fa := Lib.hid Na
  have Fb := Lib.hid Nb
  have Fm := Lib.hid Nm
  have Fx := Lib.hid Nx
  have Fy := Lib.hid Ny
  have Fz := Lib.hid Nz
  have BW := Lib.hid NB
  clear NB Na Nb Nm Nx Ny Nz
  refine (HA4.out _).mono ?_
  rintro e v11 ⟨rfl, z11⟩
  have Na := Lib.hid (Fa.out.on z11)
  have Nb := Lib.hid (Fb.out.on z11)
  have Nm := Lib.hid (Fm.out.on z11)
  have Nx := Lib.hid (Fx.out.on z11)
  have Ny := Lib.hid (Fy.out.on z11)
  have Nz := Lib.hid (Fz.out.on z11)
  have NB := Lib.hid (bel_tr BW.out z11)
  clear BW z11 Fa Fb Fm Fx Fy Fz
  have Fa := Na
  have Fb := Nb
  have Fm := Nm
  have Fx := Nx
  have Fy := Ny
  have Fz := Nz
  have BW := NB
  clear NB Na Nb Nm Nx Ny Nz
  have La := Fa.out.lt
  have ca0 : v11.cell? ⟨ga, 0, none⟩ = some (.int .u64 (wd A 0 : Nat)) := Fa.out.cell 0
  have ca1 : v11.cell? ⟨ga, 1, none⟩ = some (.int .u64 (wd A 1 : Nat)) := Fa.out.cell 1
  have ca2 : v11.cell? ⟨ga, 2, none⟩ = some (.int .u64 (wd A 2 : Nat)) := Fa.out.cell 2
  have ca3 : v11.cell? ⟨ga, 3, none⟩ = some (.int .u64 (wd A 3 : Nat)) := Fa.out.cell 3
  have Lm := Fm.out.lt
  have cm0 : v11.cell? ⟨gm, 0, none⟩ = some (.int .u64 (wd M 0 : Nat)) := Fm.out.cell 0
  have cm1 : v11.cell? ⟨gm, 1, none⟩ = some (.int .u64 (wd M 1 : Nat)) := Fm.out.cell 1
  have cm2 : v11.cell? ⟨gm, 2, none⟩ = some (.int .u64 (wd M 2 : Nat)) := Fm.out.cell 2
  have cm3 : v11.cell? ⟨gm, 3, none⟩ = some (.int .u64 (wd M 3 : Nat)) := Fm.out.cell 3
  go_wp2_with fail
  clear La ca0 ca1 ca2 ca3 Lm cm0 cm1 cm2 cm3
  have Nu : At (v11.alloc (.cells #[.int .u64 (wd u 0 : Nat), .int .u64 (wd u 1 : Nat), .int .u64 (wd u 2 : Nat), .int .u64 (wd u 3 : Nat)] 24)) (v11.heap.size) 24 #[.int .u64 (wd u 0 : Nat), .int .u64 (wd u 1 : Nat), .int .u64 (wd u 2 : Nat), .int .u64 (wd u 3 : Nat)] := At.at_ _ _ _ _ (by simp)
  have Na : At (v11.alloc (.cells #[.int .u64 (wd u 0 : Nat), .int .u64 (wd u 1 : Nat), .int .u64 (wd u 2 : Nat), .int .u64 (wd u 3 : Nat)] 24)) ga 24 #[.int .u64 (wd A 0 : Nat), .int .u64 (wd A 1 : Nat), .int .u64 (wd A 2 : Nat), .int .u64 (wd A 3 : Nat)] := Fa.out.alloc _
  have Nb : At (v11.alloc (.cells #[.int .u64 (wd u 0 : Nat), .int .u64 (wd u 1 : Nat), .int .u64 (wd u 2 : Nat), .int .u64 (wd u 3 : Nat)] 24)) gb 24 #[.int .u64 (wd B 0 : Nat), .int .u64 (wd B 1 : Nat), .int .u64 (wd B 2 : Nat), .int .u64 (wd B 3 : Nat)] := Fb.out.alloc _
  have Nm : At (v11.alloc (.cells #[.int .u64 (wd u 0 : Nat), .int .u64 (wd u 1 : Nat), .int .u64 (wd u 2 : Nat), .int .u64 (wd u 3 : Nat)] 24)) gm 24 #[.int .u64 (wd M 0 : Nat), .int .u64 (wd M 1 : Nat), .int .u64 (wd M 2 : Nat), .int .u64 (wd M 3 : Nat)] := Fm.out.alloc _
  have Nx : At (v11.alloc (.cells #[.int .u64 (wd u 0 : Nat), .int .u64 (wd u 1 : Nat), .int .u64 (wd u 2 : Nat), .int .u64 (wd u 3 : Nat)] 24)) gx 24 #[.int .u64 (wd N0 0 : Nat), .int .u64 (wd N0 1 : Nat), .int .u64 (wd N0 2 : Nat), .int .u64 (wd N0 3 : Nat)] := Fx.out.alloc _
  have Ny : At (v11.alloc (.cells #[.int .u64 (wd u 0 : Nat), .int .u64 (wd u 1 : Nat), .int .u64 (wd u 2 : Nat), .int .u64 (wd u 3 : Nat)] 24)) gy 24 #[.int .u64 (wd N0 0 : Nat), .int .u64 (wd N0 1 : Nat), .int .u64 (wd N0 2 : Nat), .int .u64 (wd N0 3 : Nat)] := Fy.out.alloc _
  have Nz : At (v11.alloc (.cells #[.int .u64 (wd u 0 : Nat), .int .u64 (wd u 1 : Nat), .int .u64 (wd u 2 : Nat), .int .u64 (wd u 3 : Nat)] 24)) gz 24 #[.int .u64 (wd N0 0 : Nat), .int .u64 (wd N0 1 : Nat), .int .u64 (wd N0 2 : Nat), .int .u64 (wd N0 3 : Nat)] := Fz.out.alloc _
  have NB : Below w.heap.size w (v11.alloc (.cells #[.int .u64 (wd u 0 : Nat), .int .u64 (wd u 1 : Nat), .int .u64 (wd u 2 : Nat), .int .u64 (wd u 3 : Nat)] 24)) := gr_alloc BW.out _
  clear BW Fa Fb Fm Fx Fy Fz
  generalize (v11.alloc (.cells #[.int .u64 (wd u 0 : Nat), .int .u64 (wd u 1 : Nat), .int .u64 (wd u 2 : Nat), .int .u64 (wd u 3 : Nat)] 24)) = W12 at *
  generalize v11.heap.size = gu at *
  have Fa := Lib.hid Na
  have Fb := Lib.hid Nb
  have Fm := Lib.hid Nm
  have Fx := Lib.hid Nx
  have Fy := Lib.hid Ny
  have Fz := Lib.hid Nz
  have Fu := Lib.hid Nu
  have BW := Lib.hid NB
  clear NB Na Nb Nm Nx Ny Nz Nu
  refine (HA5.out _).mono ?_
  rintro e v13 ⟨rfl, z13⟩
  have Na := Lib.hid (Fa.out.on z13)
  have Nb := Lib.hid (Fb.out.on z13)
  have Nm := Lib.hid (Fm.out.on z13)
  have Nx := Lib.hid (Fx.out.on z13)
  have Ny := Lib.hid (Fy.out.on z13)
  have Nz := Lib.hid (Fz.out.on z13)
  have Nu := Lib.hid (Fu.out.on z13)
  have NB := Lib.hid (bel_tr BW.out z13)
  clear BW z13 Fa Fb Fm Fx Fy Fz Fu
  have Fa := Na
  have Fb := Nb
  have Fm := Nm
  have Fx := Nx
  have Fy := Ny
  have Fz := Nz
  have Fu := Nu
  have BW := NB
  clear NB Na Nb Nm Nx Ny Nz Nu
  go_wp2_with fail
  have Nv : At (v13.alloc (.cells #[.int .u64 (wd v 0 : Nat), .int .u64 (wd v 1 : Nat), .int .u64 (wd v 2 : Nat), .int .u64 (wd v 3 : Nat)] 24)) (v13.heap.size) 24 #[.int .u64 (wd v 0 : Nat), .int .u64 (wd v 1 : Nat), .int .u64 (wd v 2 : Nat), .int .u64 (wd v 3 : Nat)] := At.at_ _ _ _ _ (by simp)
  have Na : At (v13.alloc (.cells #[.int .u64 (wd v 0 : Nat), .int .u64 (wd v 1 : Nat), .int .u64 (wd v 2 : Nat), .int .u64 (wd v 3 : Nat)] 24)) ga 24 #[.int .u64 (wd A 0 : Nat), .int .u64 (wd A 1 : Nat), .int .u64 (wd A 2 : Nat), .int .u64 (wd A 3 : Nat)] := Fa.out.alloc _
  have Nb : At (v13.alloc (.cells #[.int .u64 (wd v 0 : Nat), .int .u64 (wd v 1 : Nat), .int .u64 (wd v 2 : Nat), .int .u64 (wd v 3 : Nat)] 24)) gb 24 #[.int .u64 (wd B 0 : Nat), .int .u64 (wd B 1 : Nat), .int .u64 (wd B 2 : Nat), .int .u64 (wd B 3 : Nat)] := Fb.out.alloc _
  have Nm : At (v13.alloc (.cells #[.int .u64 (wd v 0 : Nat), .int .u64 (wd v 1 : Nat), .int .u64 (wd v 2 : Nat), .int .u64 (wd v 3 : Nat)] 24)) gm 24 #[.int .u64 (wd M 0 : Nat), .int .u64 (wd M 1 : Nat), .int .u64 (wd M 2 : Nat), .int .u64 (wd M 3 : Nat)] := Fm.out.alloc _
  have Nx : At (v13.alloc (.cells #[.int .u64 (wd v 0 : Nat), .int .u64 (wd v 1 : Nat), .int .u64 (wd v 2 : Nat), .int .u64 (wd v 3 : Nat)] 24)) gx 24 #[.int .u64 (wd N0 0 : Nat), .int .u64 (wd N0 1 : Nat), .int .u64 (wd N0 2 : Nat), .int .u64 (wd N0 3 : Nat)] := Fx.out.alloc _
  have Ny : At (v13.alloc (.cells #[.int .u64 (wd v 0 : Nat), .int .u64 (wd v 1 : Nat), .int .u64 (wd v 2 : Nat), .int .u64 (wd v 3 : Nat)] 24)) gy 24 #[.int .u64 (wd N0 0 : Nat), .int .u64 (wd N0 1 : Nat), .int .u64 (wd N0 2 : Nat), .int .u64 (wd N0 3 : Nat)] := Fy.out.alloc _
  have Nz : At (v13.alloc (.cells #[.int .u64 (wd v 0 : Nat), .int .u64 (wd v 1 : Nat), .int .u64 (wd v 2 : Nat), .int .u64 (wd v 3 : Nat)] 24)) gz 24 #[.int .u64 (wd N0 0 : Nat), .int .u64 (wd N0 1 : Nat), .int .u64 (wd N0 2 : Nat), .int .u64 (wd N0 3 : Nat)] := Fz.out.alloc _
  have Nu : At (v13.alloc (.cells #[.int .u64 (wd v 0 : Nat), .int .u64 (wd v 1 : Nat), .int .u64 (wd v 2 : Nat), .int .u64 (wd v 3 : Nat)] 24)) gu 24 #[.int .u64 (wd u 0 : Nat), .int .u64 (wd u 1 : Nat), .int .u64 (wd u 2 : Nat), .int .u64 (wd u 3 : Nat)] := Fu.out.alloc _
  have NB : Below w.heap.size w (v13.alloc (.cells #[.int .u64 (wd v 0 : Nat), .int .u64 (wd v 1 : Nat), .int .u64 (wd v 2 : Nat), .int .u64 (wd v 3 : Nat)] 24)) := gr_alloc BW.out _
  clear BW Fa Fb Fm Fx Fy Fz Fu
  generalize (v13.alloc (.cells #[.int .u64 (wd v 0 : Nat), .int .u64 (wd v 1 : Nat), .int .u64 (wd v 2 : Nat), .int .u64 (wd v 3 : Nat)] 24)) = W14 at *
  generalize v13.heap.size = gv at *
  have Fa := Lib.hid Na
  have Fb := Lib.hid Nb
  have Fm := Lib.hid Nm
  have Fx := Lib.hid Nx
  have Fy := Lib.hid Ny
  have Fz := Lib.hid Nz
  have Fu := Lib.hid Nu
  have Fv := Lib.hid Nv
  have BW := Lib.hid NB
  clear NB Na Nb Nm Nx Ny Nz Nu Nv
  clear Fa
  clear Fb
  clear Fm
  clear Fv
  try simp only [List.append_eq, List.cons_append, List.nil_append]
  refine wp_region_noPanic ?_
  refine wp_region_held_drew (S := fun w' => At w' gx 24 #[.int .u64 (wd N0 0 : Nat), .int .u64 (wd N0 1 : Nat), .int .u64 (wd N0 2 : Nat), .int .u64 (wd N0 3 : Nat)] ∧ At w' gy 24 #[.int .u64 (wd N0 0 : Nat), .int .u64 (wd N0 1 : Nat), .int .u64 (wd N0 2 : Nat), .int .u64 (wd N0 3 : Nat)] ∧ At w' gz 24 #[.int .u64 (wd N0 0 : Nat), .int .u64 (wd N0 1 : Nat), .int .u64 (wd N0 2 : Nat), .int .u64 (wd N0 3 : Nat)] ∧ At w' gu 24 #[.int .u64 (wd u 0 : Nat), .int .u64 (wd u 1 : Nat), .int .u64 (wd u 2 : Nat), .int .u64 (wd u 3 : Nat)]) (by kernel_rfl) (⟨Fx.out.drew, Fy.out.drew, Fz.out.drew, Fu.out.drew⟩) (fun _ => ?_)
  refine wpAnyH_cores (fuel := 1) (⟨0, 72, [], Kind.val (.bool true), false⟩ :: ⟨1, 73, [0], Kind.val (.bool true), true⟩ :: ⟨2, 74, [1], Kind.val (.int .i64 1), true⟩ :: ⟨3, 75, [1, 2], Kind.val (.bool true), true⟩ :: ⟨4, 76, [1, 3], Kind.val (.bool false), true⟩ :: ⟨5, 77, [1, 4], Kind.val (.bool true), true⟩ :: ⟨6, 78, [1, 3, 5], Kind.val (.bool true), true⟩ :: ⟨7, 79, [1, 6], Kind.val (.bool true), true⟩ :: ⟨8, 80, [7], Kind.val (.bool true), true⟩ :: ⟨9, 81, [8], Kind.val (.int .i64 1), true⟩ :: ⟨10, 82, [8, 9], Kind.val (.bool true), true⟩ :: ⟨11, 83, [8, 10], Kind.val (.bool false), true⟩ :: ⟨12, 84, [8, 11], Kind.val (.bool true), true⟩ :: ⟨13, 85, [8, 10, 12], Kind.val (.bool true), true⟩ :: ⟨14, 86, [8, 13], Kind.val (.bool true), true⟩ :: ⟨15, 87, [14], Kind.val (.bool true), true⟩ :: ⟨16, 88, [15], Kind.val (.int .i64 1), true⟩ :: ⟨17, 89, [15, 16], Kind.val (.bool true), true⟩ :: ⟨18, 90, [15, 17], Kind.val (.bool false), true⟩ :: ⟨19, 91, [15, 18], Kind.val (.bool true), true⟩ :: ⟨20, 92, [15, 17, 19], Kind.val (.bool true), true⟩ :: ⟨21, 93, [15, 20], Kind.val (.bool true), true⟩ :: ⟨22, 94, [21], Kind.val (.bool true), true⟩ :: ⟨23, 95, [22], Kind.val (.int .i64 0), true⟩ :: ⟨24, 96, [22, 23], Kind.val (.bool false), true⟩ :: ⟨25, 97, [22, 24], Kind.val (.bool true), true⟩ :: ⟨26, 98, [22, 25], Kind.val (.bool false), true⟩ :: ⟨27, 99, [22, 24, 26], Kind.val (.bool true), true⟩ :: ⟨28, 100, [22, 27], Kind.val (.bool true), true⟩ :: ⟨29, 101, [28], Kind.val (.bool true), true⟩ :: ⟨30, 102, [29], Kind.val (.int .i64 ei), true⟩ :: ⟨31, 103, [29, 30], Kind.val (.bool false), true⟩ :: ⟨32, 104, [29, 31], Kind.val (.bool true), true⟩ :: ⟨33, 105, [29, 32], Kind.val (.bool false), true⟩ :: ⟨34, 106, [29, 31, 33], Kind.val (.bool true), true⟩ :: ⟨35, 107, [29, 34], Kind.val (.bool true), true⟩ :: ⟨36, 108, [35], Kind.val (.bool true), true⟩ :: ⟨37, 109, [36], Kind.val (.bool false), true⟩ :: ⟨38, 110, [36, 37], Kind.val (.bool false), true⟩ :: ⟨39, 111, [38], Kind.val (.agg #[.int .u64 (wd N0 0 : Nat), .int .u64 (wd N0 1 : Nat), .int .u64 (wd N0 2 : Nat), .int .u64 (wd N0 3 : Nat)]), true⟩ :: ⟨40, 112, [38, 39], Kind.val (.agg #[.int .u64 (wd N0 0 : Nat), .int .u64 (wd N0 1 : Nat), .int .u64 (wd N0 2 : Nat), .int .u64 (wd N0 3 : Nat)]), false⟩ :: ⟨41, 113, [38, 39, 40], Kind.val (.bool true), true⟩ :: ⟨42, 114, [38, 41], Kind.val (.bool true), true⟩ :: ⟨43, 115, [42], Kind.val (.agg #[.int .u64 (wd N0 0 : Nat), .int .u64 (wd N0 1 : Nat), .int .u64 (wd N0 2 : Nat), .int .u64 (wd N0 3 : Nat)]), true⟩ :: ⟨44, 116, [42, 43], Kind.val (.agg #[.int .u64 (wd N0 0 : Nat), .int .u64 (wd N0 1 : Nat), .int .u64 (wd N0 2 : Nat), .int .u64 (wd N0 3 : Nat)]), false⟩ :: ⟨45, 117, [42, 43, 44], Kind.val (.bool true), true⟩ :: ⟨46, 118, [38, 42, 45], Kind.val (.bool true), true⟩ :: ⟨47, 119, [38, 46], Kind.val (.bool true), true⟩ :: ⟨48, 120, [47], Kind.val (.agg #[.int .u64 (wd N0 0 : Nat), .int .u64 (wd N0 1 : Nat), .int .u64 (wd N0 2 : Nat), .int .u64 (wd N0 3 : Nat)]), true⟩ :: ⟨49, 121, [47, 48], Kind.val (.agg #[.int .u64 (wd N0 0 : Nat), .int .u64 (wd N0 1 : Nat), .int .u64 (wd N0 2 : Nat), .int .u64 (wd N0 3 : Nat)]), false⟩ :: ⟨50, 122, [47, 48, 49], Kind.val (.bool true), true⟩ :: ⟨51, 123, [38, 47, 50], Kind.val (.bool true), true⟩ :: ⟨52, 124, [36, 38, 51], Kind.val (.bool true), true⟩ :: ⟨53, 125, [36, 52], Kind.val (.bool true), true⟩ :: ⟨54, 126, [53], Kind.val (.bool true), true⟩ :: ⟨55, 127, [54], Kind.val (.bool true), true⟩ :: ⟨56, 128, [54, 55], Kind.val (.bool true), true⟩ :: ⟨57, 129, [56], Kind.val (undef), true⟩ :: ⟨58, 130, [56, 57], Kind.val (undef), true⟩ :: ⟨59, 131, [56, 57, 58], Kind.val (undef), true⟩ :: ⟨60, 132, [54, 56, 59], Kind.val (.bool true), true⟩ :: ⟨61, 133, [54, 60], Kind.val (.bool true), true⟩ :: []) _ _ W14 _ ?_ ?_ ?_ ?_ ?_ ?_ ?_ ?_ ?_ ?_ ?_
  · rfl
  · kernel_rfl
  · exact of_decide_eq_true (by kernel_rfl)
  · exact all_cons ⟨_, by rfl, by rfl⟩ (all_cons ⟨_, by rfl, by rfl⟩ (all_cons ⟨_, by rfl, by rfl⟩ (all_cons ⟨_, by rfl, by rfl⟩ (all_cons ⟨_, by rfl, by rfl⟩ (all_cons ⟨_, by rfl, by rfl⟩ (all_cons ⟨_, by rfl, by rfl⟩ (all_cons ⟨_, by rfl, by rfl⟩ (all_cons ⟨_, by rfl, by rfl⟩ (all_cons ⟨_, by rfl, by rfl⟩ (all_cons ⟨_, by rfl, by rfl⟩ (all_cons ⟨_, by rfl, by rfl⟩ (all_cons ⟨_, by rfl, by rfl⟩ (all_cons ⟨_, by rfl, by rfl⟩ (all_cons ⟨_, by rfl, by rfl⟩ (all_cons ⟨_, by rfl, by rfl⟩ (all_cons ⟨_, by rfl, by rfl⟩ (all_cons ⟨_, by rfl, by rfl⟩ (all_cons ⟨_, by rfl, by rfl⟩ (all_cons ⟨_, by rfl, by rfl⟩ (all_cons ⟨_, by rfl, by rfl⟩ (all_cons ⟨_, by rfl, by rfl⟩ (all_cons ⟨_, by rfl, by rfl⟩ (all_cons ⟨_, by rfl, by rfl⟩ (all_cons ⟨_, by rfl, by rfl⟩ (all_cons ⟨_, by rfl, by rfl⟩ (all_cons ⟨_, by rfl, by rfl⟩ (all_cons ⟨_, by rfl, by rfl⟩ (all_cons ⟨_, by rfl, by rfl⟩ (all_cons ⟨_, by rfl, by rfl⟩ (all_cons ⟨_, by rfl, by rfl⟩ (all_cons ⟨_, by rfl, by rfl⟩ (all_cons ⟨_, by rfl, by rfl⟩ (all_cons ⟨_, by rfl, by rfl⟩ (all_cons ⟨_, by rfl, by rfl⟩ (all_cons ⟨_, by rfl, by rfl⟩ (all_cons ⟨_, by rfl, by rfl⟩ (all_cons ⟨_, by rfl, by rfl⟩ (all_cons ⟨_, by rfl, by rfl⟩ (all_cons ⟨_, by rfl, by rfl⟩ (all_cons ⟨_, by rfl, by rfl⟩ (all_cons ⟨_, by rfl, by rfl⟩ (all_cons ⟨_, by rfl, by rfl⟩ (all_cons ⟨_, by rfl, by rfl⟩ (all_cons ⟨_, by rfl, by rfl⟩ (all_cons ⟨_, by rfl, by rfl⟩ (all_cons ⟨_, by rfl, by rfl⟩ (all_cons ⟨_, by rfl, by rfl⟩ (all_cons ⟨_, by rfl, by rfl⟩ (all_cons ⟨_, by rfl, by rfl⟩ (all_cons ⟨_, by rfl, by rfl⟩ (all_cons ⟨_, by rfl, by rfl⟩ (all_cons ⟨_, by rfl, by rfl⟩ (all_cons ⟨_, by rfl, by rfl⟩ (all_cons ⟨_, by rfl, by rfl⟩ (all_cons ⟨_, by rfl, by rfl⟩ (all_cons ⟨_, by rfl, by rfl⟩ (all_cons ⟨_, by rfl, by rfl⟩ (all_cons ⟨_, by rfl, by rfl⟩ (all_cons ⟨_, by rfl, by rfl⟩ (all_cons ⟨_, by rfl, by rfl⟩ (all_cons ⟨_, by rfl, by rfl⟩ (all_nil))))))))))))))))))))))))))))))))))))))))))))))))))))))))))))))
  · exact fun _ hb => ⟨Fx.out.on hb, Fy.out.on hb, Fz.out.on hb, Fu.out.on hb⟩
  · exact (Below.refl _ _).drew
  · kernel_rfl
  · exact fun _ _ _ _ _ h => h
  · refine all_cons ?_ (all_cons ?_ (all_cons ?_ (all_cons ?_ (all_cons ?_ (all_cons ?_ (all_cons ?_ (all_cons ?_ (all_cons ?_ (all_cons ?_ (all_cons ?_ (all_cons ?_ (all_cons ?_ (all_cons ?_ (all_cons ?_ (all_cons ?_ (all_cons ?_ (all_cons ?_ (all_cons ?_ (all_cons ?_ (all_cons ?_ (all_cons ?_ (all_cons ?_ (all_cons ?_ (all_cons ?_ (all_cons ?_ (all_cons ?_ (all_cons ?_ (all_cons ?_ (all_cons ?_ (all_cons ?_ (all_cons ?_ (all_cons ?_ (all_cons ?_ (all_cons ?_ (all_cons ?_ (all_cons ?_ (all_cons ?_ (all_cons ?_ (all_cons ?_ (all_cons ?_ (all_cons ?_ (all_cons ?_ (all_cons ?_ (all_cons ?_ (all_cons ?_ (all_cons ?_ (all_cons ?_ (all_cons ?_ (all_cons ?_ (all_cons ?_ (all_cons ?_ (all_cons ?_ (all_cons ?_ (all_cons ?_ (all_cons ?_ (all_cons ?_ (all_cons ?_ (all_cons ?_ (all_cons ?_ (all_cons ?_ (all_cons ?_ (all_nil))))))))))))))))))))))))))))))))))))))))))))))))))))))))))))))
    · exact core_pureAs _ (by rfl)
    · exact coreG_move _ _ _ _ _ _ _ (by rfl) (by rfl) (wants_none) (known_core 0 72 _ _ (of_decide_eq_true (by rfl)) (by rfl) (by rfl) (by rfl))
    · exact coreG_move _ _ _ _ _ _ _ (by rfl) (by rfl) (wants_core 1 73 1 _ _ _ (by rfl) (by rfl) (by rfl) (known_core 1 73 _ _ (of_decide_eq_true (by rfl)) (by rfl) (by rfl) (by rfl)) _ (by rfl)) (known_old 11 _ (of_decide_eq_true (by rfl)) (by rfl))
    · exact coreG_bin _ _ _ _ _ _ _ _ _ _ _ _ _ (by rfl) (by rfl) (wants_core 1 73 1 _ _ _ (by rfl) (by rfl) (by rfl) (known_core 1 73 _ _ (of_decide_eq_true (by rfl)) (by rfl) (by rfl) (by rfl)) _ (by rfl)) (known_core 2 74 _ _ (of_decide_eq_true (by rfl)) (by rfl) (by rfl) (by rfl)) (known_const _) ((fun ρ w hx hy => by simp only [execOp, hx, hy]; simp [go_sem]))
    · exact coreG_move _ _ _ _ _ _ _ (by rfl) (by rfl) (wants_core 1 73 1 _ _ _ (by rfl) (by rfl) (by rfl) (known_core 1 73 _ _ (of_decide_eq_true (by rfl)) (by rfl) (by rfl) (by rfl)) _ (by rfl)) (known_old 9 _ (of_decide_eq_true (by rfl)) (by rfl))
    · exact coreG_un _ _ _ _ _ _ _ _ _ _ (by rfl) (by rfl) (wants_core 1 73 1 _ _ _ (by rfl) (by rfl) (by rfl) (known_core 1 73 _ _ (of_decide_eq_true (by rfl)) (by rfl) (by rfl) (by rfl)) _ (by rfl)) (known_core 4 76 _ _ (of_decide_eq_true (by rfl)) (by rfl) (by rfl) (by rfl)) (fun ρ w hx => by simp only [execOp, hx]; simp [go_sem])
    · exact coreG_bin _ _ _ _ _ _ _ _ _ _ _ _ _ (by rfl) (by rfl) (wants_core 1 73 1 _ _ _ (by rfl) (by rfl) (by rfl) (known_core 1 73 _ _ (of_decide_eq_true (by rfl)) (by rfl) (by rfl) (by rfl)) _ (by rfl)) (known_core 3 75 _ _ (of_decide_eq_true (by rfl)) (by rfl) (by rfl) (by rfl)) (known_core 5 77 _ _ (of_decide_eq_true (by rfl)) (by rfl) (by rfl) (by rfl)) ((fun ρ w hx hy => by simp only [execOp, hx, hy]; simp [go_sem]))
    · exact coreG_pick _ _ _ _ _ _ _ _ _ _ _ _ (by rfl) (by rfl) (wants_none) (known_core 1 73 _ _ (of_decide_eq_true (by rfl)) (by rfl) (by rfl) (by rfl)) (known_core 6 78 _ _ (of_decide_eq_true (by rfl)) (by rfl) (by rfl) (by rfl)) (known_const _) (by rfl)
    · exact coreG_move _ _ _ _ _ _ _ (by rfl) (by rfl) (wants_none) (known_core 7 79 _ _ (of_decide_eq_true (by rfl)) (by rfl) (by rfl) (by rfl))
    · exact coreG_move _ _ _ _ _ _ _ (by rfl) (by rfl) (wants_core 8 80 8 _ _ _ (by rfl) (by rfl) (by rfl) (known_core 8 80 _ _ (of_decide_eq_true (by rfl)) (by rfl) (by rfl) (by rfl)) _ (by rfl)) (known_old 13 _ (of_decide_eq_true (by rfl)) (by rfl))
    · exact coreG_bin _ _ _ _ _ _ _ _ _ _ _ _ _ (by rfl) (by rfl) (wants_core 8 80 8 _ _ _ (by rfl) (by rfl) (by rfl) (known_core 8 80 _ _ (of_decide_eq_true (by rfl)) (by rfl) (by rfl) (by rfl)) _ (by rfl)) (known_core 9 81 _ _ (of_decide_eq_true (by rfl)) (by rfl) (by rfl) (by rfl)) (known_const _) ((fun ρ w hx hy => by simp only [execOp, hx, hy]; simp [go_sem]))
    · exact coreG_move _ _ _ _ _ _ _ (by rfl) (by rfl) (wants_core 8 80 8 _ _ _ (by rfl) (by rfl) (by rfl) (known_core 8 80 _ _ (of_decide_eq_true (by rfl)) (by rfl) (by rfl) (by rfl)) _ (by rfl)) (known_old 9 _ (of_decide_eq_true (by rfl)) (by rfl))
    · exact coreG_un _ _ _ _ _ _ _ _ _ _ (by rfl) (by rfl) (wants_core 8 80 8 _ _ _ (by rfl) (by rfl) (by rfl) (known_core 8 80 _ _ (of_decide_eq_true (by rfl)) (by rfl) (by rfl) (by rfl)) _ (by rfl)) (known_core 11 83 _ _ (of_decide_eq_true (by rfl)) (by rfl) (by rfl) (by rfl)) (fun ρ w hx => by simp only [execOp, hx]; simp [go_sem])
    · exact coreG_bin _ _ _ _ _ _ _ _ _ _ _ _ _ (by rfl) (by rfl) (wants_core 8 80 8 _ _ _ (by rfl) (by rfl) (by rfl) (known_core 8 80 _ _ (of_decide_eq_true (by rfl)) (by rfl) (by rfl) (by rfl)) _ (by rfl)) (known_core 10 82 _ _ (of_decide_eq_true (by rfl)) (by rfl) (by rfl) (by rfl)) (known_core 12 84 _ _ (of_decide_eq_true (by rfl)) (by rfl) (by rfl) (by rfl)) ((fun ρ w hx hy => by simp only [execOp, hx, hy]; simp [go_sem]))
    · exact coreG_pick _ _ _ _ _ _ _ _ _ _ _ _ (by rfl) (by rfl) (wants_none) (known_core 8 80 _ _ (of_decide_eq_true (by rfl)) (by rfl) (by rfl) (by rfl)) (known_core 13 85 _ _ (of_decide_eq_true (by rfl)) (by rfl) (by rfl) (by rfl)) (known_const _) (by rfl)
    · exact coreG_move _ _ _ _ _ _ _ (by rfl) (by rfl) (wants_none) (known_core 14 86 _ _ (of_decide_eq_true (by rfl)) (by rfl) (by rfl) (by rfl))
    · exact coreG_move _ _ _ _ _ _ _ (by rfl) (by rfl) (wants_core 15 87 15 _ _ _ (by rfl) (by rfl) (by rfl) (known_core 15 87 _ _ (of_decide_eq_true (by rfl)) (by rfl) (by rfl) (by rfl)) _ (by rfl)) (known_old 15 _ (of_decide_eq_true (by rfl)) (by rfl))
    · exact coreG_bin _ _ _ _ _ _ _ _ _ _ _ _ _ (by rfl) (by rfl) (wants_core 15 87 15 _ _ _ (by rfl) (by rfl) (by rfl) (known_core 15 87 _ _ (of_decide_eq_true (by rfl)) (by rfl) (by rfl) (by rfl)) _ (by rfl)) (known_core 16 88 _ _ (of_decide_eq_true (by rfl)) (by rfl) (by rfl) (by rfl)) (known_const _) ((fun ρ w hx hy => by simp only [execOp, hx, hy]; simp [go_sem]))
    · exact coreG_move _ _ _ _ _ _ _ (by rfl) (by rfl) (wants_core 15 87 15 _ _ _ (by rfl) (by rfl) (by rfl) (known_core 15 87 _ _ (of_decide_eq_true (by rfl)) (by rfl) (by rfl) (by rfl)) _ (by rfl)) (known_old 9 _ (of_decide_eq_true (by rfl)) (by rfl))
    · exact coreG_un _ _ _ _ _ _ _ _ _ _ (by rfl) (by rfl) (wants_core 15 87 15 _ _ _ (by rfl) (by rfl) (by rfl) (known_core 15 87 _ _ (of_decide_eq_true (by rfl)) (by rfl) (by rfl) (by rfl)) _ (by rfl)) (known_core 18 90 _ _ (of_decide_eq_true (by rfl)) (by rfl) (by rfl) (by rfl)) (fun ρ w hx => by simp only [execOp, hx]; simp [go_sem])
    · exact coreG_bin _ _ _ _ _ _ _ _ _ _ _ _ _ (by rfl) (by rfl) (wants_core 15 87 15 _ _ _ (by rfl) (by rfl) (by rfl) (known_core 15 87 _ _ (of_decide_eq_true (by rfl)) (by rfl) (by rfl) (by rfl)) _ (by rfl)) (known_core 17 89 _ _ (of_decide_eq_true (by rfl)) (by rfl) (by rfl) (by rfl)) (known_core 19 91 _ _ (of_decide_eq_true (by rfl)) (by rfl) (by rfl) (by rfl)) ((fun ρ w hx hy => by simp only [execOp, hx, hy]; simp [go_sem]))
    · exact coreG_pick _ _ _ _ _ _ _ _ _ _ _ _ (by rfl) (by rfl) (wants_none) (known_core 15 87 _ _ (of_decide_eq_true (by rfl)) (by rfl) (by rfl) (by rfl)) (known_core 20 92 _ _ (of_decide_eq_true (by rfl)) (by rfl) (by rfl) (by rfl)) (known_const _) (by rfl)
    · exact coreG_move _ _ _ _ _ _ _ (by rfl) (by rfl) (wants_none) (known_core 21 93 _ _ (of_decide_eq_true (by rfl)) (by rfl) (by rfl) (by rfl))
    · exact coreG_move _ _ _ _ _ _ _ (by rfl) (by rfl) (wants_core 22 94 22 _ _ _ (by rfl) (by rfl) (by rfl) (known_core 22 94 _ _ (of_decide_eq_true (by rfl)) (by rfl) (by rfl) (by rfl)) _ (by rfl)) (known_old 17 _ (of_decide_eq_true (by rfl)) (by rfl))
    · exact coreG_bin _ _ _ _ _ _ _ _ _ _ _ _ _ (by rfl) (by rfl) (wants_core 22 94 22 _ _ _ (by rfl) (by rfl) (by rfl) (known_core 22 94 _ _ (of_decide_eq_true (by rfl)) (by rfl) (by rfl) (by rfl)) _ (by rfl)) (known_core 23 95 _ _ (of_decide_eq_true (by rfl)) (by rfl) (by rfl) (by rfl)) (known_const _) ((fun ρ w hx hy => by simp only [execOp, hx, hy]; simp [go_sem]))
    · exact coreG_move _ _ _ _ _ _ _ (by rfl) (by rfl) (wants_core 22 94 22 _ _ _ (by rfl) (by rfl) (by rfl) (known_core 22 94 _ _ (of_decide_eq_true (by rfl)) (by rfl) (by rfl) (by rfl)) _ (by rfl)) (known_old 8 _ (of_decide_eq_true (by rfl)) (by rfl))
    · exact coreG_un _ _ _ _ _ _ _ _ _ _ (by rfl) (by rfl) (wants_core 22 94 22 _ _ _ (by rfl) (by rfl) (by rfl) (known_core 22 94 _ _ (of_decide_eq_true (by rfl)) (by rfl) (by rfl) (by rfl)) _ (by rfl)) (known_core 25 97 _ _ (of_decide_eq_true (by rfl)) (by rfl) (by rfl) (by rfl)) (fun ρ w hx => by simp only [execOp, hx]; simp [go_sem])
    · exact coreG_bin _ _ _ _ _ _ _ _ _ _ _ _ _ (by rfl) (by rfl) (wants_core 22 94 22 _ _ _ (by rfl) (by rfl) (by rfl) (known_core 22 94 _ _ (of_decide_eq_true (by rfl)) (by rfl) (by rfl) (by rfl)) _ (by rfl)) (known_core 24 96 _ _ (of_decide_eq_true (by rfl)) (by rfl) (by rfl) (by rfl)) (known_core 26 98 _ _ (of_decide_eq_true (by rfl)) (by rfl) (by rfl) (by rfl)) ((fun ρ w hx hy => by simp only [execOp, hx, hy]; simp [go_sem]))
    · exact coreG_pick _ _ _ _ _ _ _ _ _ _ _ _ (by rfl) (by rfl) (wants_none) (known_core 22 94 _ _ (of_decide_eq_true (by rfl)) (by rfl) (by rfl) (by rfl)) (known_core 27 99 _ _ (of_decide_eq_true (by rfl)) (by rfl) (by rfl) (by rfl)) (known_const _) (by rfl)
    · exact coreG_move _ _ _ _ _ _ _ (by rfl) (by rfl) (wants_none) (known_core 28 100 _ _ (of_decide_eq_true (by rfl)) (by rfl) (by rfl) (by rfl))
    · exact coreG_move _ _ _ _ _ _ _ (by rfl) (by rfl) (wants_core 29 101 29 _ _ _ (by rfl) (by rfl) (by rfl) (known_core 29 101 _ _ (of_decide_eq_true (by rfl)) (by rfl) (by rfl) (by rfl)) _ (by rfl)) (known_old 19 _ (of_decide_eq_true (by rfl)) (by rfl))
    · exact coreG_bin _ _ _ _ _ _ _ _ _ _ _ _ _ (by rfl) (by rfl) (wants_core 29 101 29 _ _ _ (by rfl) (by rfl) (by rfl) (known_core 29 101 _ _ (of_decide_eq_true (by rfl)) (by rfl) (by rfl) (by rfl)) _ (by rfl)) (known_core 30 102 _ _ (of_decide_eq_true (by rfl)) (by rfl) (by rfl) (by rfl)) (known_const _) ((fun ρ w hx hy => by simp only [execOp, hx, hy]; simp [go_sem]; exact hei))
    · exact coreG_move _ _ _ _ _ _ _ (by rfl) (by rfl) (wants_core 29 101 29 _ _ _ (by rfl) (by rfl) (by rfl) (known_core 29 101 _ _ (of_decide_eq_true (by rfl)) (by rfl) (by rfl) (by rfl)) _ (by rfl)) (known_old 8 _ (of_decide_eq_true (by rfl)) (by rfl))
    · exact coreG_un _ _ _ _ _ _ _ _ _ _ (by rfl) (by rfl) (wants_core 29 101 29 _ _ _ (by rfl) (by rfl) (by rfl) (known_core 29 101 _ _ (of_decide_eq_true (by rfl)) (by rfl) (by rfl) (by rfl)) _ (by rfl)) (known_core 32 104 _ _ (of_decide_eq_true (by rfl)) (by rfl) (by rfl) (by rfl)) (fun ρ w hx => by simp only [execOp, hx]; simp [go_sem])
    · exact coreG_bin _ _ _ _ _ _ _ _ _ _ _ _ _ (by rfl) (by rfl) (wants_core 29 101 29 _ _ _ (by rfl) (by rfl) (by rfl) (known_core 29 101 _ _ (of_decide_eq_true (by rfl)) (by rfl) (by rfl) (by rfl)) _ (by rfl)) (known_core 31 103 _ _ (of_decide_eq_true (by rfl)) (by rfl) (by rfl) (by rfl)) (known_core 33 105 _ _ (of_decide_eq_true (by rfl)) (by rfl) (by rfl) (by rfl)) ((fun ρ w hx hy => by simp only [execOp, hx, hy]; simp [go_sem]))
    · exact coreG_pick _ _ _ _ _ _ _ _ _ _ _ _ (by rfl) (by rfl) (wants_none) (known_core 29 101 _ _ (of_decide_eq_true (by rfl)) (by rfl) (by rfl) (by rfl)) (known_core 34 106 _ _ (of_decide_eq_true (by rfl)) (by rfl) (by rfl) (by rfl)) (known_const _) (by rfl)
    · exact coreG_move _ _ _ _ _ _ _ (by rfl) (by rfl) (wants_none) (known_core 35 107 _ _ (of_decide_eq_true (by rfl)) (by rfl) (by rfl) (by rfl))
    · exact coreG_move _ _ _ _ _ _ _ (by rfl) (by rfl) (wants_core 36 108 36 _ _ _ (by rfl) (by rfl) (by rfl) (known_core 36 108 _ _ (of_decide_eq_true (by rfl)) (by rfl) (by rfl) (by rfl)) _ (by rfl)) (known_old 9 _ (of_decide_eq_true (by rfl)) (by rfl))
    · exact coreG_move _ _ _ _ _ _ _ (by rfl) (by rfl) (wants_core 36 108 36 _ _ _ (by rfl) (by rfl) (by rfl) (known_core 36 108 _ _ (of_decide_eq_true (by rfl)) (by rfl) (by rfl) (by rfl)) _ (by rfl)) (known_core 37 109 _ _ (of_decide_eq_true (by rfl)) (by rfl) (by rfl) (by rfl))
    · exact coreG_loadP _ _ _ _ _ _ gx _ _ _ _ (by rfl) (by rfl) (wants_core 38 110 38 _ _ _ (by rfl) (by rfl) (by rfl) (known_core 38 110 _ _ (of_decide_eq_true (by rfl)) (by rfl) (by rfl) (by rfl)) _ (by rfl)) (known_old 10 _ (of_decide_eq_true (by rfl)) (by rfl)) (fun _ hs => hs.1)
    · exact core_pureAs _ (by rfl)
    · exact coreG_bin _ _ _ _ _ _ _ _ _ _ _ _ _ (by rfl) (by rfl) (wants_core 38 110 38 _ _ _ (by rfl) (by rfl) (by rfl) (known_core 38 110 _ _ (of_decide_eq_true (by rfl)) (by rfl) (by rfl) (by rfl)) _ (by rfl)) (known_core 39 111 _ _ (of_decide_eq_true (by rfl)) (by rfl) (by rfl) (by rfl)) (known_core 40 112 _ _ (of_decide_eq_true (by rfl)) (by rfl) (by rfl) (by rfl)) (eql_run true _ _ _ _ _ _ _ _ _ _ _ _ _ _ _ (eqY N0))
    · exact coreG_move _ _ _ _ _ _ _ (by rfl) (by rfl) (wants_core 38 110 38 _ _ _ (by rfl) (by rfl) (by rfl) (known_core 38 110 _ _ (of_decide_eq_true (by rfl)) (by rfl) (by rfl) (by rfl)) _ (by rfl)) (known_core 41 113 _ _ (of_decide_eq_true (by rfl)) (by rfl) (by rfl) (by rfl))
    · exact coreG_loadP _ _ _ _ _ _ gy _ _ _ _ (by rfl) (by rfl) (wants_core 42 114 42 _ _ _ (by rfl) (by rfl) (by rfl) (known_core 42 114 _ _ (of_decide_eq_true (by rfl)) (by rfl) (by rfl) (by rfl)) _ (by rfl)) (known_old 12 _ (of_decide_eq_true (by rfl)) (by rfl)) (fun _ hs => hs.2.1)
    · exact core_pureAs _ (by rfl)
    · exact coreG_bin _ _ _ _ _ _ _ _ _ _ _ _ _ (by rfl) (by rfl) (wants_core 42 114 42 _ _ _ (by rfl) (by rfl) (by rfl) (known_core 42 114 _ _ (of_decide_eq_true (by rfl)) (by rfl) (by rfl) (by rfl)) _ (by rfl)) (known_core 43 115 _ _ (of_decide_eq_true (by rfl)) (by rfl) (by rfl) (by rfl)) (known_core 44 116 _ _ (of_decide_eq_true (by rfl)) (by rfl) (by rfl) (by rfl)) (eql_run true _ _ _ _ _ _ _ _ _ _ _ _ _ _ _ (eqY N0))
    · exact coreG_pick _ _ _ _ _ _ _ _ _ _ _ _ (by rfl) (by rfl) (wants_core 38 110 38 _ _ _ (by rfl) (by rfl) (by rfl) (known_core 38 110 _ _ (of_decide_eq_true (by rfl)) (by rfl) (by rfl) (by rfl)) _ (by rfl)) (known_core 42 114 _ _ (of_decide_eq_true (by rfl)) (by rfl) (by rfl) (by rfl)) (known_core 45 117 _ _ (of_decide_eq_true (by rfl)) (by rfl) (by rfl) (by rfl)) (known_const _) (by rfl)
    · exact coreG_move _ _ _ _ _ _ _ (by rfl) (by rfl) (wants_core 38 110 38 _ _ _ (by rfl) (by rfl) (by rfl) (known_core 38 110 _ _ (of_decide_eq_true (by rfl)) (by rfl) (by rfl) (by rfl)) _ (by rfl)) (known_core 46 118 _ _ (of_decide_eq_true (by rfl)) (by rfl) (by rfl) (by rfl))
    · exact coreG_loadP _ _ _ _ _ _ gz _ _ _ _ (by rfl) (by rfl) (wants_core 47 119 47 _ _ _ (by rfl) (by rfl) (by rfl) (known_core 47 119 _ _ (of_decide_eq_true (by rfl)) (by rfl) (by rfl) (by rfl)) _ (by rfl)) (known_old 14 _ (of_decide_eq_true (by rfl)) (by rfl)) (fun _ hs => hs.2.2.1)
    · exact core_pureAs _ (by rfl)
    · exact coreG_bin _ _ _ _ _ _ _ _ _ _ _ _ _ (by rfl) (by rfl) (wants_core 47 119 47 _ _ _ (by rfl) (by rfl) (by rfl) (known_core 47 119 _ _ (of_decide_eq_true (by rfl)) (by rfl) (by rfl) (by rfl)) _ (by rfl)) (known_core 48 120 _ _ (of_decide_eq_true (by rfl)) (by rfl) (by rfl) (by rfl)) (known_core 49 121 _ _ (of_decide_eq_true (by rfl)) (by rfl) (by rfl) (by rfl)) (eql_run true _ _ _ _ _ _ _ _ _ _ _ _ _ _ _ (eqY N0))
    · exact coreG_pick _ _ _ _ _ _ _ _ _ _ _ _ (by rfl) (by rfl) (wants_core 38 110 38 _ _ _ (by rfl) (by rfl) (by rfl) (known_core 38 110 _ _ (of_decide_eq_true (by rfl)) (by rfl) (by rfl) (by rfl)) _ (by rfl)) (known_core 47 119 _ _ (of_decide_eq_true (by rfl)) (by rfl) (by rfl) (by rfl)) (known_core 50 122 _ _ (of_decide_eq_true (by rfl)) (by rfl) (by rfl) (by rfl)) (known_const _) (by rfl)
    · exact coreG_pick _ _ _ _ _ _ _ _ _ _ _ _ (by rfl) (by rfl) (wants_core 36 108 36 _ _ _ (by rfl) (by rfl) (by rfl) (known_core 36 108 _ _ (of_decide_eq_true (by rfl)) (by rfl) (by rfl) (by rfl)) _ (by rfl)) (known_core 38 110 _ _ (of_decide_eq_true (by rfl)) (by rfl) (by rfl) (by rfl)) (known_const _) (known_core 51 123 _ _ (of_decide_eq_true (by rfl)) (by rfl) (by rfl) (by rfl)) (by rfl)
    · exact coreG_pick _ _ _ _ _ _ _ _ _ _ _ _ (by rfl) (by rfl) (wants_none) (known_core 36 108 _ _ (of_decide_eq_true (by rfl)) (by rfl) (by rfl) (by rfl)) (known_core 52 124 _ _ (of_decide_eq_true (by rfl)) (by rfl) (by rfl) (by rfl)) (known_const _) (by rfl)
    · exact coreG_move _ _ _ _ _ _ _ (by rfl) (by rfl) (wants_none) (known_core 53 125 _ _ (of_decide_eq_true (by rfl)) (by rfl) (by rfl) (by rfl))
    · exact coreG_move _ _ _ _ _ _ _ (by rfl) (by rfl) (wants_core 54 126 54 _ _ _ (by rfl) (by rfl) (by rfl) (known_core 54 126 _ _ (of_decide_eq_true (by rfl)) (by rfl) (by rfl) (by rfl)) _ (by rfl)) (known_old 8 _ (of_decide_eq_true (by rfl)) (by rfl))
    · exact coreG_move _ _ _ _ _ _ _ (by rfl) (by rfl) (wants_core 54 126 54 _ _ _ (by rfl) (by rfl) (by rfl) (known_core 54 126 _ _ (of_decide_eq_true (by rfl)) (by rfl) (by rfl) (by rfl)) _ (by rfl)) (known_core 55 127 _ _ (of_decide_eq_true (by rfl)) (by rfl) (by rfl) (by rfl))
    · exact coreG_skip _ _ _ _ _ _ (by rfl) (by rfl) (wants_core 56 128 56 _ _ _ (by rfl) (by rfl) (by rfl) (known_core 56 128 _ _ (of_decide_eq_true (by rfl)) (by rfl) (by rfl) (by rfl)) _ (by rfl))
    · exact coreG_skip _ _ _ _ _ _ (by rfl) (by rfl) (wants_core 56 128 56 _ _ _ (by rfl) (by rfl) (by rfl) (known_core 56 128 _ _ (of_decide_eq_true (by rfl)) (by rfl) (by rfl) (by rfl)) _ (by rfl))
    · exact coreG_skip _ _ _ _ _ _ (by rfl) (by rfl) (wants_core 56 128 56 _ _ _ (by rfl) (by rfl) (by rfl) (known_core 56 128 _ _ (of_decide_eq_true (by rfl)) (by rfl) (by rfl) (by rfl)) _ (by rfl))
    · exact coreG_pick _ _ _ _ _ _ _ _ _ _ _ _ (by rfl) (by rfl) (wants_core 54 126 54 _ _ _ (by rfl) (by rfl) (by rfl) (known_core 54 126 _ _ (of_decide_eq_true (by rfl)) (by rfl) (by rfl) (by rfl)) _ (by rfl)) (known_core 56 128 _ _ (of_decide_eq_true (by rfl)) (by rfl) (by rfl) (by rfl)) (known_const _) (known_core 59 131 _ _ (of_decide_eq_true (by rfl)) (by rfl) (by rfl) (by rfl)) (by rfl)
    · exact coreG_pick _ _ _ _ _ _ _ _ _ _ _ _ (by rfl) (by rfl) (wants_none) (known_core 54 126 _ _ (of_decide_eq_true (by rfl)) (by rfl) (by rfl) (by rfl)) (known_core 60 132 _ _ (of_decide_eq_true (by rfl)) (by rfl) (by rfl) (by rfl)) (known_const _) (by rfl)
  · refine all_cons ?_ (all_cons ?_ (all_cons ?_ (all_cons ?_ (all_cons ?_ (all_cons ?_ (all_cons ?_ (all_cons ?_ (all_cons ?_ (all_cons ?_ (all_cons ?_ (all_cons ?_ (all_cons ?_ (all_cons ?_ (all_cons ?_ (all_cons ?_ (all_cons ?_ (all_cons ?_ (all_cons ?_ (all_cons ?_ (all_cons ?_ (all_cons ?_ (all_cons ?_ (all_cons ?_ (all_cons ?_ (all_cons ?_ (all_cons ?_ (all_cons ?_ (all_cons ?_ (all_cons ?_ (all_cons ?_ (all_cons ?_ (all_cons ?_ (all_cons ?_ (all_cons ?_ (all_cons ?_ (all_cons ?_ (all_cons ?_ (all_cons ?_ (all_cons ?_ (all_cons ?_ (all_cons ?_ (all_cons ?_ (all_cons ?_ (all_cons ?_ (all_cons ?_ (all_cons ?_ (all_cons ?_ (all_cons ?_ (all_cons ?_ (all_cons ?_ (all_cons ?_ (all_cons ?_ (all_cons ?_ (all_cons ?_ (all_cons ?_ (all_cons ?_ (all_cons ?_ (all_cons ?_ (all_cons ?_ (all_cons ?_ (all_cons ?_ (all_nil))))))))))))))))))))))))))))))))))))))))))))))))))))))))))))))
    · exact fun _ => coreG_call _ 29 _ _ [] _ _ _ _ _ _ _ (by rfl) Try.func29 (by kernel_rfl) (by rfl) (by rfl) (wants_none) .nil (alive4_any)
    · exact core_stepAs _ (by rfl)
    · exact core_stepAs _ (by rfl)
    · exact core_stepAs _ (by rfl)
    · exact core_stepAs _ (by rfl)
    · exact core_stepAs _ (by rfl)
    · exact core_stepAs _ (by rfl)
    · exact core_stepAs _ (by rfl)
    · exact core_stepAs _ (by rfl)
    · exact core_stepAs _ (by rfl)
    · exact core_stepAs _ (by rfl)
    · exact core_stepAs _ (by rfl)
    · exact core_stepAs _ (by rfl)
    · exact core_stepAs _ (by rfl)
    · exact core_stepAs _ (by rfl)
    · exact core_stepAs _ (by rfl)
    · exact core_stepAs _ (by rfl)
    · exact core_stepAs _ (by rfl)
    · exact core_stepAs _ (by rfl)
    · exact core_stepAs _ (by rfl)
    · exact core_stepAs _ (by rfl)
    · exact core_stepAs _ (by rfl)
    · exact core_stepAs _ (by rfl)
    · exact core_stepAs _ (by rfl)
    · exact core_stepAs _ (by rfl)
    · exact core_stepAs _ (by rfl)
    · exact core_stepAs _ (by rfl)
    · exact core_stepAs _ (by rfl)
    · exact core_stepAs _ (by rfl)
    · exact core_stepAs _ (by rfl)
    · exact core_stepAs _ (by rfl)
    · exact core_stepAs _ (by rfl)
    · exact core_stepAs _ (by rfl)
    · exact core_stepAs _ (by rfl)
    · exact core_stepAs _ (by rfl)
    · exact core_stepAs _ (by rfl)
    · exact core_stepAs _ (by rfl)
    · exact core_stepAs _ (by rfl)
    · exact core_stepAs _ (by rfl)
    · exact core_stepAs _ (by rfl)
    · exact fun _ => coreG_call _ 28 _ _ [.const (.int .u64 0)] _ _ _ _ _ _ _ (by rfl) Try.func28 (by kernel_rfl) (by rfl) (by rfl) (wants_core 38 110 38 _ _ _ (by rfl) (by rfl) (by rfl) (known_core 38 110 _ _ (of_decide_eq_true (by rfl)) (by rfl) (by rfl) (by rfl)) _ (by rfl)) (.cons (known_const _) .nil) (HN.out)
    · exact core_stepAs _ (by rfl)
    · exact core_stepAs _ (by rfl)
    · exact core_stepAs _ (by rfl)
    · exact fun _ => coreG_call _ 28 _ _ [.const (.int .u64 0)] _ _ _ _ _ _ _ (by rfl) Try.func28 (by kernel_rfl) (by rfl) (by rfl) (wants_core 42 114 42 _ _ _ (by rfl) (by rfl) (by rfl) (known_core 42 114 _ _ (of_decide_eq_true (by rfl)) (by rfl) (by rfl) (by rfl)) _ (by rfl)) (.cons (known_const _) .nil) (HN.out)
    · exact core_stepAs _ (by rfl)
    · exact core_stepAs _ (by rfl)
    · exact core_stepAs _ (by rfl)
    · exact core_stepAs _ (by rfl)
    · exact fun _ => coreG_call _ 28 _ _ [.const (.int .u64 0)] _ _ _ _ _ _ _ (by rfl) Try.func28 (by kernel_rfl) (by rfl) (by rfl) (wants_core 47 119 47 _ _ _ (by rfl) (by rfl) (by rfl) (known_core 47 119 _ _ (of_decide_eq_true (by rfl)) (by rfl) (by rfl) (by rfl)) _ (by rfl)) (.cons (known_const _) .nil) (HN.out)
    · exact core_stepAs _ (by rfl)
    · exact core_stepAs _ (by rfl)
    · exact core_stepAs _ (by rfl)
    · exact core_stepAs _ (by rfl)
    · exact core_stepAs _ (by rfl)
    · exact core_stepAs _ (by rfl)
    · exact core_stepAs _ (by rfl)
    · exact core_stepAs _ (by rfl)
    · exact core_stepAs _ (by rfl)
    · exact core_stepAs _ (by rfl)
    · exact core_stepAs _ (by rfl)
    · exact core_stepAs _ (by rfl)
  intro vs y15 hc
  have BZ := bel_tr BW.out hc.bel
  refine assign_one (i := 62) (.tmp 133) 6 _ _ _ (.bool true) (by kernel_rfl) (by rfl) (hc.at_ (of_decide_eq_true (by kernel_rfl)) (by rfl) 61 133 _ (.bool true) (by rfl) (by rfl) (by rfl)) (⟨Fx.out.on hc.bel, Fy.out.on hc.bel, Fz.out.on hc.bel, Fu.out.on hc.bel⟩) ?_
  refine wpAnyH_done (by kernel_rfl) ?_ _
  refine NoPanic.normal ?_
  generalize hA : Act.put (over _ _ vs) (some 6) (.bool true) = A
  have hA0 : A.tmps.getD 6 undef = .bool true := by rw [← hA]; exact put_at _ _ _ (by rw [over_size]; exact Nat.le_of_ble_eq_true rfl)
  have hAd : A.defers = [] := by rw [← hA, put_defers, over_defers]
  clear hA hc
  go_wp2_with fail
  refine bodyPost_ret (v := .bool true) (by simp [results, Try.results9, go_sem] at hA0 ⊢; simp [hA0]) hAd ⟨rfl, BZ⟩

set_option maxRecDepth 100000 in
set_option maxHeartbeats 8000000 in
theorem refuse_none (A B M Z N0 x y z u v : Nat) (k j i ei : Int)
    (hk : 0 < k)
    (hj : j < 0)
    (hi : i < 0)
    (hei : ¬ ei = 1)
    (O : ∀ w, Calls Try.prog 28 #[.int .u64 1] w fun e w' => e = .returned (num Z) ∧ Below w.heap.size w w')
    (K : ∀ w, Calls Try.prog 27 #[num M, num Z] w fun e w' => e = .returned (.int .i64 k) ∧ Below w.heap.size w w')
    (N : ∀ w, Calls Try.prog 28 #[.int .u64 0] w fun e w' => e = .returned (num N0) ∧ Below w.heap.size w w')
    (J : ∀ w, Calls Try.prog 27 #[num A, num M] w fun e w' => e = .returned (.int .i64 j) ∧ Below w.heap.size w w')
    (I : ∀ w, Calls Try.prog 27 #[num B, num M] w fun e w' => e = .returned (.int .i64 i) ∧ Below w.heap.size w w')
    (A1 : ∀ w, Calls Try.prog 17 #[num A, num B, num M] w fun e w' => e = .returned (.tuple #[num x, .int .i64 0]) ∧ Below w.heap.size w w')
    (A2 : ∀ w, Calls Try.prog 18 #[num A, num B, num M] w fun e w' => e = .returned (.tuple #[num y, .int .i64 0]) ∧ Below w.heap.size w w')
    (A3 : ∀ w, Calls Try.prog 19 #[num A, num B, num M] w fun e w' => e = .returned (.tuple #[num z, .int .i64 0]) ∧ Below w.heap.size w w')
    (A4 : ∀ w, Calls Try.prog 20 #[num A, num B, num M] w fun e w' => e = .returned (.tuple #[num u, .int .i64 0]) ∧ Below w.heap.size w w')
    (A5 : ∀ w, Calls Try.prog 21 #[num A, num M] w fun e w' => e = .returned (.tuple #[num v, .int .i64 ei]) ∧ Below w.heap.size w w')
    (w : World) : Calls Try.prog 9 #[num A, num B, num M] w fun e w' => e = .returned (.bool true) ∧ Below w.heap.size w w' := by
  have HO := Lib.hid O
  have HK := Lib.hid K
  have HN := Lib.hid N
  have HJ := Lib.hid J
  have HI := Lib.hid I
  have HA1 := Lib.hid A1
  have HA2 := Lib.hid A2
  have HA3 := Lib.hid A3
  have HA4 := Lib.hid A4
  have HA5 := Lib.hid A5
  clear O K N J I A1 A2 A3 A4 A5
  go_enter Try.func9, Try.ntmps9
  go_wp2_with fail
  have BW := Lib.hid (Below.refl w.heap.size w)
  have Na : At (((w.alloc (.cells #[.int .u64 (wd A 0 : Nat), .int .u64 (wd A 1 : Nat), .int .u64 (wd A 2 : Nat), .int .u64 (wd A 3 : Nat)] 24)).alloc (.cells #[.int .u64 (wd B 0 : Nat), .int .u64 (wd B 1 : Nat), .int .u64 (wd B 2 : Nat), .int .u64 (wd B 3 : Nat)] 24)).alloc (.cells #[.int .u64 (wd M 0 : Nat), .int .u64 (wd M 1 : Nat), .int .u64 (wd M 2 : Nat), .int .u64 (wd M 3 : Nat)] 24)) (w.heap.size) 24 #[.int .u64 (wd A 0 : Nat), .int .u64 (wd A 1 : Nat), .int .u64 (wd A 2 : Nat), .int .u64 (wd A 3 : Nat)] := ((At.at_ _ _ _ _ (by simp)).alloc _).alloc _
  have Nb : At (((w.alloc (.cells #[.int .u64 (wd A 0 : Nat), .int .u64 (wd A 1 : Nat), .int .u64 (wd A 2 : Nat), .int .u64 (wd A 3 : Nat)] 24)).alloc (.cells #[.int .u64 (wd B 0 : Nat), .int .u64 (wd B 1 : Nat), .int .u64 (wd B 2 : Nat), .int .u64 (wd B 3 : Nat)] 24)).alloc (.cells #[.int .u64 (wd M 0 : Nat), .int .u64 (wd M 1 : Nat), .int .u64 (wd M 2 : Nat), .int .u64 (wd M 3 : Nat)] 24)) (w.heap.size + 1) 24 #[.int .u64 (wd B 0 : Nat), .int .u64 (wd B 1 : Nat), .int .u64 (wd B 2 : Nat), .int .u64 (wd B 3 : Nat)] := (At.at_ _ _ _ _ (by simp)).alloc _
  have Nm : At (((w.alloc (.cells #[.int .u64 (wd A 0 : Nat), .int .u64 (wd A 1 : Nat), .int .u64 (wd A 2 : Nat), .int .u64 (wd A 3 : Nat)] 24)).alloc (.cells #[.int .u64 (wd B 0 : Nat), .int .u64 (wd B 1 : Nat), .int .u64 (wd B 2 : Nat), .int .u64 (wd B 3 : Nat)] 24)).alloc (.cells #[.int .u64 (wd M 0 : Nat), .int .u64 (wd M 1 : Nat), .int .u64 (wd M 2 : Nat), .int .u64 (wd M 3 : Nat)] 24)) (w.heap.size + 1 + 1) 24 #[.int .u64 (wd M 0 : Nat), .int .u64 (wd M 1 : Nat), .int .u64 (wd M 2 : Nat), .int .u64 (wd M 3 : Nat)] := At.at_ _ _ _ _ (by simp)
  have NB : Below w.heap.size w (((w.alloc (.cells #[.int .u64 (wd A 0 : Nat), .int .u64 (wd A 1 : Nat), .int .u64 (wd A 2 : Nat), .int .u64 (wd A 3 : Nat)] 24)).alloc (.cells #[.int .u64 (wd B 0 : Nat), .int .u64 (wd B 1 : Nat), .int .u64 (wd B 2 : Nat), .int .u64 (wd B 3 : Nat)] 24)).alloc (.cells #[.int .u64 (wd M 0 : Nat), .int .u64 (wd M 1 : Nat), .int .u64 (wd M 2 : Nat), .int .u64 (wd M 3 : Nat)] 24)) := gr_alloc (gr_alloc (gr_alloc BW.out _) _) _
  clear BW 
  generalize (((w.alloc (.cells #[.int .u64 (wd A 0 : Nat), .int .u64 (wd A 1 : Nat), .int .u64 (wd A 2 : Nat), .int .u64 (wd A 3 : Nat)] 24)).alloc (.cells #[.int .u64 (wd B 0 : Nat), .int .u64 (wd B 1 : Nat), .int .u64 (wd B 2 : Nat), .int .u64 (wd B 3 : Nat)] 24)).alloc (.cells #[.int .u64 (wd M 0 : Nat), .int .u64 (wd M 1 : Nat), .int .u64 (wd M 2 : Nat), .int .u64 (wd M 3 : Nat)] 24)) = W1 at *
  generalize w.heap.size + 1 + 1 = gm at *
  generalize w.heap.size + 1 = gb at *
  obtain ⟨ga, hg0⟩ : ∃ g, g = w.heap.size := ⟨_, rfl⟩
  rw [← hg0] at Na ⊢
  clear hg0
  have Fa := Lib.hid Na
  have Fb := Lib.hid Nb
  have Fm := Lib.hid Nm
  have BW := Lib.hid NB
  clear NB Na Nb Nm
  try simp only [List.append_eq, List.cons_append, List.nil_append]
  refine wp_region_noPanic ?_
  refine wp_region_held_drew (S := fun w' => At w' gm 24 #[.int .u64 (wd M 0 : Nat), .int .u64 (wd M 1 : Nat), .int .u64 (wd M 2 : Nat), .int .u64 (wd M 3 : Nat)]) (by kernel_rfl) (Fm.out.drew) (fun _ => ?_)
  refine wpAnyH_cores (fuel := 1) (⟨0, 20, [], Kind.val (.agg #[.int .u64 (wd M 0 : Nat), .int .u64 (wd M 1 : Nat), .int .u64 (wd M 2 : Nat), .int .u64 (wd M 3 : Nat)]), true⟩ :: ⟨1, 21, [0], Kind.val (.agg #[.int .u64 (wd Z 0 : Nat), .int .u64 (wd Z 1 : Nat), .int .u64 (wd Z 2 : Nat), .int .u64 (wd Z 3 : Nat)]), false⟩ :: ⟨2, 22, [0, 1], Kind.val (.int .i64 k), false⟩ :: ⟨3, 23, [2], Kind.val (.bool true), true⟩ :: []) _ _ W1 _ ?_ ?_ ?_ ?_ ?_ ?_ ?_ ?_ ?_ ?_ ?_
  · rfl
  · kernel_rfl
  · exact of_decide_eq_true (by kernel_rfl)
  · exact all_cons ⟨_, by rfl, by rfl⟩ (all_cons ⟨_, by rfl, by rfl⟩ (all_cons ⟨_, by rfl, by rfl⟩ (all_cons ⟨_, by rfl, by rfl⟩ (all_nil))))
  · exact fun _ hb => Fm.out.on hb
  · exact (Below.refl _ _).drew
  · kernel_rfl
  · exact fun _ _ _ _ _ h => h
  · refine all_cons ?_ (all_cons ?_ (all_cons ?_ (all_cons ?_ (all_nil))))
    · exact coreG_loadP _ _ _ _ _ _ gm _ _ _ _ (by rfl) (by rfl) (wants_none) (known_old 5 _ (of_decide_eq_true (by rfl)) (by rfl)) (fun _ hs => hs)
    · exact core_pureAs _ (by rfl)
    · exact core_pureAs _ (by rfl)
    · exact coreG_bin _ _ _ _ _ _ _ _ _ _ _ _ _ (by rfl) (by rfl) (wants_none) (known_core 2 22 _ _ (of_decide_eq_true (by rfl)) (by rfl) (by rfl) (by rfl)) (known_const _) ((fun ρ w hx hy => by simp only [execOp, hx, hy]; simp [go_sem]; exact hk))
  · refine all_cons ?_ (all_cons ?_ (all_cons ?_ (all_cons ?_ (all_nil))))
    · exact core_stepAs _ (by rfl)
    · exact fun _ => coreG_call _ 28 _ _ [.const (.int .u64 1)] _ _ _ _ _ _ _ (by rfl) Try.func28 (by kernel_rfl) (by rfl) (by rfl) (wants_none) (.cons (known_const _) .nil) (HO.out)
    · exact fun _ => coreG_call _ 27 _ _ [.tmp 20, .tmp 21] _ _ _ _ _ _ _ (by rfl) Try.func27 (by kernel_rfl) (by rfl) (by rfl) (wants_none) (.cons (known_core 0 20 _ _ (of_decide_eq_true (by rfl)) (by rfl) (by rfl) (by rfl)) (.cons (known_core 1 21 _ _ (of_decide_eq_true (by rfl)) (by rfl) (by rfl) (by rfl)) .nil)) (HK.out)
    · exact core_stepAs _ (by rfl)
  intro vs y2 hc
  obtain ⟨vv0, vv1, vv2, vv3, rfl⟩ := len4 vs hc.lv
  have qq0 : vv0 = .agg #[.int .u64 (wd M 0 : Nat), .int .u64 (wd M 1 : Nat), .int .u64 (wd M 2 : Nat), .int .u64 (wd M 3 : Nat)] := by obtain ⟨xx, hx, hy⟩ := hc.ok 0 _ rfl rfl; exact (Option.some.inj (show some vv0 = some xx from hx)).trans hy
  have qq1 : vv1 = .agg #[.int .u64 (wd Z 0 : Nat), .int .u64 (wd Z 1 : Nat), .int .u64 (wd Z 2 : Nat), .int .u64 (wd Z 3 : Nat)] := by obtain ⟨xx, hx, hy⟩ := hc.ok 1 _ rfl rfl; exact (Option.some.inj (show some vv1 = some xx from hx)).trans hy
  have qq2 : vv2 = .int .i64 k := by obtain ⟨xx, hx, hy⟩ := hc.ok 2 _ rfl rfl; exact (Option.some.inj (show some vv2 = some xx from hx)).trans hy
  have qq3 : vv3 = .bool true := by obtain ⟨xx, hx, hy⟩ := hc.ok 3 _ rfl rfl; exact (Option.some.inj (show some vv3 = some xx from hx)).trans hy
  have BZ := hc.bel
  clear hc
  have Na := Fa.out.on BZ
  have Nb := Fb.out.on BZ
  have Nm := Fm.out.on BZ
  have NB := bel_tr BW.out BZ
  clear BW BZ Fa Fb Fm
  subst qq0 qq1 qq2 qq3
  simp only [List.map_cons, List.map_nil, over, Act.put, List.setIfInBounds_toArray, List.set_cons_zero, List.set_cons_succ]
  refine assign_one (i := 4) _ 7 _ _ _ _ (by kernel_rfl) (by rfl) (by rfl) (Nm) ?_
  try simp only [Act.put, List.setIfInBounds_toArray, List.set_cons_zero, List.set_cons_succ]
  refine wpAnyH_done (by kernel_rfl) ?_ _
  refine NoPanic.normal ?_
  have Fa := Lib.hid Na
  have Fb := Lib.hid Nb
  have Fm := Lib.hid Nm
  have BW := Lib.hid NB
  clear NB Na Nb Nm
  have La := Fa.out.lt
  have ca0 : y2.cell? ⟨ga, 0, none⟩ = some (.int .u64 (wd A 0 : Nat)) := Fa.out.cell 0
  have ca1 : y2.cell? ⟨ga, 1, none⟩ = some (.int .u64 (wd A 1 : Nat)) := Fa.out.cell 1
  have ca2 : y2.cell? ⟨ga, 2, none⟩ = some (.int .u64 (wd A 2 : Nat)) := Fa.out.cell 2
  have ca3 : y2.cell? ⟨ga, 3, none⟩ = some (.int .u64 (wd A 3 : Nat)) := Fa.out.cell 3
  have Lm := Fm.out.lt
  have cm0 : y2.cell? ⟨gm, 0, none⟩ = some (.int .u64 (wd M 0 : Nat)) := Fm.out.cell 0
  have cm1 : y2.cell? ⟨gm, 1, none⟩ = some (.int .u64 (wd M 1 : Nat)) := Fm.out.cell 1
  have cm2 : y2.cell? ⟨gm, 2, none⟩ = some (.int .u64 (wd M 2 : Nat)) := Fm.out.cell 2
  have cm3 : y2.cell? ⟨gm, 3, none⟩ = some (.int .u64 (wd M 3 : Nat)) := Fm.out.cell 3
  go_wp2_with fail
  clear La ca0 ca1 ca2 ca3 Lm cm0 cm1 cm2 cm3
  refine (HJ.out _).mono ?_
  rintro e v3 ⟨rfl, z3⟩
  have Na := Lib.hid (Fa.out.on z3)
  have Nb := Lib.hid (Fb.out.on z3)
  have Nm := Lib.hid (Fm.out.on z3)
  have NB := Lib.hid (bel_tr BW.out z3)
  clear BW z3 Fa Fb Fm
  have Fa := Na
  have Fb := Nb
  have Fm := Nm
  have BW := NB
  clear NB Na Nb Nm
  have Lb := Fb.out.lt
  have cb0 : v3.cell? ⟨gb, 0, none⟩ = some (.int .u64 (wd B 0 : Nat)) := Fb.out.cell 0
  have cb1 : v3.cell? ⟨gb, 1, none⟩ = some (.int .u64 (wd B 1 : Nat)) := Fb.out.cell 1
  have cb2 : v3.cell? ⟨gb, 2, none⟩ = some (.int .u64 (wd B 2 : Nat)) := Fb.out.cell 2
  have cb3 : v3.cell? ⟨gb, 3, none⟩ = some (.int .u64 (wd B 3 : Nat)) := Fb.out.cell 3
  have Lm := Fm.out.lt
  have cm0 : v3.cell? ⟨gm, 0, none⟩ = some (.int .u64 (wd M 0 : Nat)) := Fm.out.cell 0
  have cm1 : v3.cell? ⟨gm, 1, none⟩ = some (.int .u64 (wd M 1 : Nat)) := Fm.out.cell 1
  have cm2 : v3.cell? ⟨gm, 2, none⟩ = some (.int .u64 (wd M 2 : Nat)) := Fm.out.cell 2
  have cm3 : v3.cell? ⟨gm, 3, none⟩ = some (.int .u64 (wd M 3 : Nat)) := Fm.out.cell 3
  go_wp2_with fail
  clear Lb cb0 cb1 cb2 cb3 Lm cm0 cm1 cm2 cm3
  refine (HI.out _).mono ?_
  rintro e v4 ⟨rfl, z4⟩
  have Na := Lib.hid (Fa.out.on z4)
  have Nb := Lib.hid (Fb.out.on z4)
  have Nm := Lib.hid (Fm.out.on z4)
  have NB := Lib.hid (bel_tr BW.out z4)
  clear BW z4 Fa Fb Fm
  have Fa := Na
  have Fb := Nb
  have Fm := Nm
  have BW := NB
  clear NB Na Nb Nm
  have La := Fa.out.lt
  have ca0 : v4.cell? ⟨ga, 0, none⟩ = some (.int .u64 (wd A 0 : Nat)) := Fa.out.cell 0
  have ca1 : v4.cell? ⟨ga, 1, none⟩ = some (.int .u64 (wd A 1 : Nat)) := Fa.out.cell 1
  have ca2 : v4.cell? ⟨ga, 2, none⟩ = some (.int .u64 (wd A 2 : Nat)) := Fa.out.cell 2
  have ca3 : v4.cell? ⟨ga, 3, none⟩ = some (.int .u64 (wd A 3 : Nat)) := Fa.out.cell 3
  have Lb := Fb.out.lt
  have cb0 : v4.cell? ⟨gb, 0, none⟩ = some (.int .u64 (wd B 0 : Nat)) := Fb.out.cell 0
  have cb1 : v4.cell? ⟨gb, 1, none⟩ = some (.int .u64 (wd B 1 : Nat)) := Fb.out.cell 1
  have cb2 : v4.cell? ⟨gb, 2, none⟩ = some (.int .u64 (wd B 2 : Nat)) := Fb.out.cell 2
  have cb3 : v4.cell? ⟨gb, 3, none⟩ = some (.int .u64 (wd B 3 : Nat)) := Fb.out.cell 3
  have Lm := Fm.out.lt
  have cm0 : v4.cell? ⟨gm, 0, none⟩ = some (.int .u64 (wd M 0 : Nat)) := Fm.out.cell 0
  have cm1 : v4.cell? ⟨gm, 1, none⟩ = some (.int .u64 (wd M 1 : Nat)) := Fm.out.cell 1
  have cm2 : v4.cell? ⟨gm, 2, none⟩ = some (.int .u64 (wd M 2 : Nat)) := Fm.out.cell 2
  have cm3 : v4.cell? ⟨gm, 3, none⟩ = some (.int .u64 (wd M 3 : Nat)) := Fm.out.cell 3
  go_wp2_with fail
  clear La ca0 ca1 ca2 ca3 Lb cb0 cb1 cb2 cb3 Lm cm0 cm1 cm2 cm3
  refine (HA1.out _).mono ?_
  rintro e v5 ⟨rfl, z5⟩
  have Na := Lib.hid (Fa.out.on z5)
  have Nb := Lib.hid (Fb.out.on z5)
  have Nm := Lib.hid (Fm.out.on z5)
  have NB := Lib.hid (bel_tr BW.out z5)
  clear BW z5 Fa Fb Fm
  have Fa := Na
  have Fb := Nb
  have Fm := Nm
  have BW := NB
  clear NB Na Nb Nm
  have La := Fa.out.lt
  have ca0 : v5.cell? ⟨ga, 0, none⟩ = some (.int .u64 (wd A 0 : Nat)) := Fa.out.cell 0
  have ca1 : v5.cell? ⟨ga, 1, none⟩ = some (.int .u64 (wd A 1 : Nat)) := Fa.out.cell 1
  have ca2 : v5.cell? ⟨ga, 2, none⟩ = some (.int .u64 (wd A 2 : Nat)) := Fa.out.cell 2
  have ca3 : v5.cell? ⟨ga, 3, none⟩ = some (.int .u64 (wd A 3 : Nat)) := Fa.out.cell 3
  have Lb := Fb.out.lt
  have cb0 : v5.cell? ⟨gb, 0, none⟩ = some (.int .u64 (wd B 0 : Nat)) := Fb.out.cell 0
  have cb1 : v5.cell? ⟨gb, 1, none⟩ = some (.int .u64 (wd B 1 : Nat)) := Fb.out.cell 1
  have cb2 : v5.cell? ⟨gb, 2, none⟩ = some (.int .u64 (wd B 2 : Nat)) := Fb.out.cell 2
  have cb3 : v5.cell? ⟨gb, 3, none⟩ = some (.int .u64 (wd B 3 : Nat)) := Fb.out.cell 3
  have Lm := Fm.out.lt
  have cm0 : v5.cell? ⟨gm, 0, none⟩ = some (.int .u64 (wd M 0 : Nat)) := Fm.out.cell 0
  have cm1 : v5.cell? ⟨gm, 1, none⟩ = some (.int .u64 (wd M 1 : Nat)) := Fm.out.cell 1
  have cm2 : v5.cell? ⟨gm, 2, none⟩ = some (.int .u64 (wd M 2 : Nat)) := Fm.out.cell 2
  have cm3 : v5.cell? ⟨gm, 3, none⟩ = some (.int .u64 (wd M 3 : Nat)) := Fm.out.cell 3
  go_wp2_with fail
  clear La ca0 ca1 ca2 ca3 Lb cb0 cb1 cb2 cb3 Lm cm0 cm1 cm2 cm3
  have Nx : At (v5.alloc (.cells #[.int .u64 (wd x 0 : Nat), .int .u64 (wd x 1 : Nat), .int .u64 (wd x 2 : Nat), .int .u64 (wd x 3 : Nat)] 24)) (v5.heap.size) 24 #[.int .u64 (wd x 0 : Nat), .int .u64 (wd x 1 : Nat), .int .u64 (wd x 2 : Nat), .int .u64 (wd x 3 : Nat)] := At.at_ _ _ _ _ (by simp)
  have Na : At (v5.alloc (.cells #[.int .u64 (wd x 0 : Nat), .int .u64 (wd x 1 : Nat), .int .u64 (wd x 2 : Nat), .int .u64 (wd x 3 : Nat)] 24)) ga 24 #[.int .u64 (wd A 0 : Nat), .int .u64 (wd A 1 : Nat), .int .u64 (wd A 2 : Nat), .int .u64 (wd A 3 : Nat)] := Fa.out.alloc _
  have Nb : At (v5.alloc (.cells #[.int .u64 (wd x 0 : Nat), .int .u64 (wd x 1 : Nat), .int .u64 (wd x 2 : Nat), .int .u64 (wd x 3 : Nat)] 24)) gb 24 #[.int .u64 (wd B 0 : Nat), .int .u64 (wd B 1 : Nat), .int .u64 (wd B 2 : Nat), .int .u64 (wd B 3 : Nat)] := Fb.out.alloc _
  have Nm : At (v5.alloc (.cells #[.int .u64 (wd x 0 : Nat), .int .u64 (wd x 1 : Nat), .int .u64 (wd x 2 : Nat), .int .u64 (wd x 3 : Nat)] 24)) gm 24 #[.int .u64 (wd M 0 : Nat), .int .u64 (wd M 1 : Nat), .int .u64 (wd M 2 : Nat), .int .u64 (wd M 3 : Nat)] := Fm.out.alloc _
  have NB : Below w.heap.size w (v5.alloc (.cells #[.int .u64 (wd x 0 : Nat), .int .u64 (wd x 1 : Nat), .int .u64 (wd x 2 : Nat), .int .u64 (wd x 3 : Nat)] 24)) := gr_alloc BW.out _
  clear BW Fa Fb Fm
  generalize (v5.alloc (.cells #[.int .u64 (wd x 0 : Nat), .int .u64 (wd x 1 : Nat), .int .u64 (wd x 2 : Nat), .int .u64 (wd x 3 : Nat)] 24)) = W6 at *
  generalize v5.heap.size = gx at *
  have Fa := Lib.hid Na
  have Fb := Lib.hid Nb
  have Fm := Lib.hid Nm
  have Fx := Lib.hid Nx
  have BW := Lib.hid NB
  clear NB Na Nb Nm Nx
  refine (HA2.out _).mono ?_
  rintro e v7 ⟨rfl, z7⟩
  have Na := Lib.hid (Fa.out.on z7)
  have Nb := Lib.hid (Fb.out.on z7)
  have Nm := Lib.hid (Fm.out.on z7)
  have Nx := Lib.hid (Fx.out.on z7)
  have NB := Lib.hid (bel_tr BW.out z7)
  clear BW z7 Fa Fb Fm Fx
  have Fa := Na
  have Fb := Nb
  have Fm := Nm
  have Fx := Nx
  have BW := NB
  clear NB Na Nb Nm Nx
  have La := Fa.out.lt
  have ca0 : v7.cell? ⟨ga, 0, none⟩ = some (.int .u64 (wd A 0 : Nat)) := Fa.out.cell 0
  have ca1 : v7.cell? ⟨ga, 1, none⟩ = some (.int .u64 (wd A 1 : Nat)) := Fa.out.cell 1
  have ca2 : v7.cell? ⟨ga, 2, none⟩ = some (.int .u64 (wd A 2 : Nat)) := Fa.out.cell 2
  have ca3 : v7.cell? ⟨ga, 3, none⟩ = some (.int .u64 (wd A 3 : Nat)) := Fa.out.cell 3
  have Lb := Fb.out.lt
  have cb0 : v7.cell? ⟨gb, 0, none⟩ = some (.int .u64 (wd B 0 : Nat)) := Fb.out.cell 0
  have cb1 : v7.cell? ⟨gb, 1, none⟩ = some (.int .u64 (wd B 1 : Nat)) := Fb.out.cell 1
  have cb2 : v7.cell? ⟨gb, 2, none⟩ = some (.int .u64 (wd B 2 : Nat)) := Fb.out.cell 2
  have cb3 : v7.cell? ⟨gb, 3, none⟩ = some (.int .u64 (wd B 3 : Nat)) := Fb.out.cell 3
  have Lm := Fm.out.lt
  have cm0 : v7.cell? ⟨gm, 0, none⟩ = some (.int .u64 (wd M 0 : Nat)) := Fm.out.cell 0
  have cm1 : v7.cell? ⟨gm, 1, none⟩ = some (.int .u64 (wd M 1 : Nat)) := Fm.out.cell 1
  have cm2 : v7.cell? ⟨gm, 2, none⟩ = some (.int .u64 (wd M 2 : Nat)) := Fm.out.cell 2
  have cm3 : v7.cell? ⟨gm, 3, none⟩ = some (.int .u64 (wd M 3 : Nat)) := Fm.out.cell 3
  go_wp2_with fail
  clear La ca0 ca1 ca2 ca3 Lb cb0 cb1 cb2 cb3 Lm cm0 cm1 cm2 cm3
  have Ny : At (v7.alloc (.cells #[.int .u64 (wd y 0 : Nat), .int .u64 (wd y 1 : Nat), .int .u64 (wd y 2 : Nat), .int .u64 (wd y 3 : Nat)] 24)) (v7.heap.size) 24 #[.int .u64 (wd y 0 : Nat), .int .u64 (wd y 1 : Nat), .int .u64 (wd y 2 : Nat), .int .u64 (wd y 3 : Nat)] := At.at_ _ _ _ _ (by simp)
  have Na : At (v7.alloc (.cells #[.int .u64 (wd y 0 : Nat), .int .u64 (wd y 1 : Nat), .int .u64 (wd y 2 : Nat), .int .u64 (wd y 3 : Nat)] 24)) ga 24 #[.int .u64 (wd A 0 : Nat), .int .u64 (wd A 1 : Nat), .int .u64 (wd A 2 : Nat), .int .u64 (wd A 3 : Nat)] := Fa.out.alloc _
  have Nb : At (v7.alloc (.cells #[.int .u64 (wd y 0 : Nat), .int .u64 (wd y 1 : Nat), .int .u64 (wd y 2 : Nat), .int .u64 (wd y 3 : Nat)] 24)) gb 24 #[.int .u64 (wd B 0 : Nat), .int .u64 (wd B 1 : Nat), .int .u64 (wd B 2 : Nat), .int .u64 (wd B 3 : Nat)] := Fb.out.alloc _
  have Nm : At (v7.alloc (.cells #[.int .u64 (wd y 0 : Nat), .int .u64 (wd y 1 : Nat), .int .u64 (wd y 2 : Nat), .int .u64 (wd y 3 : Nat)] 24)) gm 24 #[.int .u64 (wd M 0 : Nat), .int .u64 (wd M 1 : Nat), .int .u64 (wd M 2 : Nat), .int .u64 (wd M 3 : Nat)] := Fm.out.alloc _
  have Nx : At (v7.alloc (.cells #[.int .u64 (wd y 0 : Nat), .int .u64 (wd y 1 : Nat), .int .u64 (wd y 2 : Nat), .int .u64 (wd y 3 : Nat)] 24)) gx 24 #[.int .u64 (wd x 0 : Nat), .int .u64 (wd x 1 : Nat), .int .u64 (wd x 2 : Nat), .int .u64 (wd x 3 : Nat)] := Fx.out.alloc _
  have NB : Below w.heap.size w (v7.alloc (.cells #[.int .u64 (wd y 0 : Nat), .int .u64 (wd y 1 : Nat), .int .u64 (wd y 2 : Nat), .int .u64 (wd y 3 : Nat)] 24)) := gr_alloc BW.out _
  clear BW Fa Fb Fm Fx
  generalize (v7.alloc (.cells #[.int .u64 (wd y 0 : Nat), .int .u64 (wd y 1 : Nat), .int .u64 (wd y 2 : Nat), .int .u64 (wd y 3 : Nat)] 24)) = W8 at *
  generalize v7.heap.size = gy at *
  have Fa := Lib.hid Na
  have Fb := Lib.hid Nb
  have Fm := Lib.hid Nm
  have Fx := Lib.hid Nx
  have Fy := Lib.hid Ny
  have BW := Lib.hid NB
  clear NB Na Nb Nm Nx Ny
  refine (HA3.out _).mono ?_
  rintro e v9 ⟨rfl, z9⟩
  have Na := Lib.hid (Fa.out.on z9)
  have Nb := Lib.hid (Fb.out.on z9)
  have Nm := Lib.hid (Fm.out.on z9)
  have Nx := Lib.hid (Fx.out.on z9)
  have Ny := Lib.hid (Fy.out.on z9)
  have NB := Lib.hid (bel_tr BW.out z9)
  clear BW z9 Fa Fb Fm Fx Fy
  have Fa := Na
  have Fb := Nb
  have Fm := Nm
  have Fx := Nx
  have Fy := Ny
  have BW := NB
  clear NB Na Nb Nm Nx Ny
  have La := Fa.out.lt
  have ca0 : v9.cell? ⟨ga, 0, none⟩ = some (.int .u64 (wd A 0 : Nat)) := Fa.out.cell 0
  have ca1 : v9.cell? ⟨ga, 1, none⟩ = some (.int .u64 (wd A 1 : Nat)) := Fa.out.cell 1
  have ca2 : v9.cell? ⟨ga, 2, none⟩ = some (.int .u64 (wd A 2 : Nat)) := Fa.out.cell 2
  have ca3 : v9.cell? ⟨ga, 3, none⟩ = some (.int .u64 (wd A 3 : Nat)) := Fa.out.cell 3
  have Lb := Fb.out.lt
  have cb0 : v9.cell? ⟨gb, 0, none⟩ = some (.int .u64 (wd B 0 : Nat)) := Fb.out.cell 0
  have cb1 : v9.cell? ⟨gb, 1, none⟩ = some (.int .u64 (wd B 1 : Nat)) := Fb.out.cell 1
  have cb2 : v9.cell? ⟨gb, 2, none⟩ = some (.int .u64 (wd B 2 : Nat)) := Fb.out.cell 2
  have cb3 : v9.cell? ⟨gb, 3, none⟩ = some (.int .u64 (wd B 3 : Nat)) := Fb.out.cell 3
  have Lm := Fm.out.lt
  have cm0 : v9.cell? ⟨gm, 0, none⟩ = some (.int .u64 (wd M 0 : Nat)) := Fm.out.cell 0
  have cm1 : v9.cell? ⟨gm, 1, none⟩ = some (.int .u64 (wd M 1 : Nat)) := Fm.out.cell 1
  have cm2 : v9.cell? ⟨gm, 2, none⟩ = some (.int .u64 (wd M 2 : Nat)) := Fm.out.cell 2
  have cm3 : v9.cell? ⟨gm, 3, none⟩ = some (.int .u64 (wd M 3 : Nat)) := Fm.out.cell 3
  go_wp2_with fail
  clear La ca0 ca1 ca2 ca3 Lb cb0 cb1 cb2 cb3 Lm cm0 cm1 cm2 cm3
  have Nz : At (v9.alloc (.cells #[.int .u64 (wd z 0 : Nat), .int .u64 (wd z 1 : Nat), .int .u64 (wd z 2 : Nat), .int .u64 (wd z 3 : Nat)] 24)) (v9.heap.size) 24 #[.int .u64 (wd z 0 : Nat), .int .u64 (wd z 1 : Nat), .int .u64 (wd z 2 : Nat), .int .u64 (wd z 3 : Nat)] := At.at_ _ _ _ _ (by simp)
  have Na : At (v9.alloc (.cells #[.int .u64 (wd z 0 : Nat), .int .u64 (wd z 1 : Nat), .int .u64 (wd z 2 : Nat), .int .u64 (wd z 3 : Nat)] 24)) ga 24 #[.int .u64 (wd A 0 : Nat), .int .u64 (wd A 1 : Nat), .int .u64 (wd A 2 : Nat), .int .u64 (wd A 3 : Nat)] := Fa.out.alloc _
  have Nb : At (v9.alloc (.cells #[.int .u64 (wd z 0 : Nat), .int .u64 (wd z 1 : Nat), .int .u64 (wd z 2 : Nat), .int .u64 (wd z 3 : Nat)] 24)) gb 24 #[.int .u64 (wd B 0 : Nat), .int .u64 (wd B 1 : Nat), .int .u64 (wd B 2 : Nat), .int .u64 (wd B 3 : Nat)] := Fb.out.alloc _
  have Nm : At (v9.alloc (.cells #[.int .u64 (wd z 0 : Nat), .int .u64 (wd z 1 : Nat), .int .u64 (wd z 2 : Nat), .int .u64 (wd z 3 : Nat)] 24)) gm 24 #[.int .u64 (wd M 0 : Nat), .int .u64 (wd M 1 : Nat), .int .u64 (wd M 2 : Nat), .int .u64 (wd M 3 : Nat)] := Fm.out.alloc _
  have Nx : At (v9.alloc (.cells #[.int .u64 (wd z 0 : Nat), .int .u64 (wd z 1 : Nat), .int .u64 (wd z 2 : Nat), .int .u64 (wd z 3 : Nat)] 24)) gx 24 #[.int .u64 (wd x 0 : Nat), .int .u64 (wd x 1 : Nat), .int .u64 (wd x 2 : Nat), .int .u64 (wd x 3 : Nat)] := Fx.out.alloc _
  have Ny : At (v9.alloc (.cells #[.int .u64 (wd z 0 : Nat), .int .u64 (wd z 1 : Nat), .int .u64 (wd z 2 : Nat), .int .u64 (wd z 3 : Nat)] 24)) gy 24 #[.int .u64 (wd y 0 : Nat), .int .u64 (wd y 1 : Nat), .int .u64 (wd y 2 : Nat), .int .u64 (wd y 3 : Nat)] := Fy.out.alloc _
  have NB : Below w.heap.size w (v9.alloc (.cells #[.int .u64 (wd z 0 : Nat), .int .u64 (wd z 1 : Nat), .int .u64 (wd z 2 : Nat), .int .u64 (wd z 3 : Nat)] 24)) := gr_alloc BW.out _
  clear BW Fa Fb Fm Fx Fy
  generalize (v9.alloc (.cells #[.int .u64 (wd z 0 : Nat), .int .u64 (wd z 1 : Nat), .int .u64 (wd z 2 : Nat), .int .u64 (wd z 3 : Nat)] 24)) = W10 at *
  generalize v9.heap.size = gz at *
  have Fa := Lib.hid Na
  have Fb := Lib.hid Nb
  have Fm := Lib.hid Nm
  have Fx := Lib.hid Nx
  have Fy := Lib.hid Ny
  have Fz := Lib.hid Nz
  have BW := Lib.hid NB
  clear NB Na Nb Nm Nx Ny Nz
  refine (HA4.out _).mono ?_
  rintro e v11 ⟨rfl, z11⟩
  have Na := Lib.hid (Fa.out.on z11)
  have Nb := Lib.hid (Fb.out.on z11)
  have Nm := Lib.hid (Fm.out.on z11)
  have Nx := Lib.hid (Fx.out.on z11)
  have Ny := Lib.hid (Fy.out.on z11)
  have Nz := Lib.hid (Fz.out.on z11)
  have NB := Lib.hid (bel_tr BW.out z11)
  clear BW z11 Fa Fb Fm Fx Fy Fz
  have Fa := Na
  have Fb := Nb
  have Fm := Nm
  have Fx := Nx
  have Fy := Ny
  have Fz := Nz
  have BW := NB
  clear NB Na Nb Nm Nx Ny Nz
  have La := Fa.out.lt
  have ca0 : v11.cell? ⟨ga, 0, none⟩ = some (.int .u64 (wd A 0 : Nat)) := Fa.out.cell 0
  have ca1 : v11.cell? ⟨ga, 1, none⟩ = some (.int .u64 (wd A 1 : Nat)) := Fa.out.cell 1
  have ca2 : v11.cell? ⟨ga, 2, none⟩ = some (.int .u64 (wd A 2 : Nat)) := Fa.out.cell 2
  have ca3 : v11.cell? ⟨ga, 3, none⟩ = some (.int .u64 (wd A 3 : Nat)) := Fa.out.cell 3
  have Lm := Fm.out.lt
  have cm0 : v11.cell? ⟨gm, 0, none⟩ = some (.int .u64 (wd M 0 : Nat)) := Fm.out.cell 0
  have cm1 : v11.cell? ⟨gm, 1, none⟩ = some (.int .u64 (wd M 1 : Nat)) := Fm.out.cell 1
  have cm2 : v11.cell? ⟨gm, 2, none⟩ = some (.int .u64 (wd M 2 : Nat)) := Fm.out.cell 2
  have cm3 : v11.cell? ⟨gm, 3, none⟩ = some (.int .u64 (wd M 3 : Nat)) := Fm.out.cell 3
  go_wp2_with fail
  clear La ca0 ca1 ca2 ca3 Lm cm0 cm1 cm2 cm3
  have Nu : At (v11.alloc (.cells #[.int .u64 (wd u 0 : Nat), .int .u64 (wd u 1 : Nat), .int .u64 (wd u 2 : Nat), .int .u64 (wd u 3 : Nat)] 24)) (v11.heap.size) 24 #[.int .u64 (wd u 0 : Nat), .int .u64 (wd u 1 : Nat), .int .u64 (wd u 2 : Nat), .int .u64 (wd u 3 : Nat)] := At.at_ _ _ _ _ (by simp)
  have Na : At (v11.alloc (.cells #[.int .u64 (wd u 0 : Nat), .int .u64 (wd u 1 : Nat), .int .u64 (wd u 2 : Nat), .int .u64 (wd u 3 : Nat)] 24)) ga 24 #[.int .u64 (wd A 0 : Nat), .int .u64 (wd A 1 : Nat), .int .u64 (wd A 2 : Nat), .int .u64 (wd A 3 : Nat)] := Fa.out.alloc _
  have Nb : At (v11.alloc (.cells #[.int .u64 (wd u 0 : Nat), .int .u64 (wd u 1 : Nat), .int .u64 (wd u 2 : Nat), .int .u64 (wd u 3 : Nat)] 24)) gb 24 #[.int .u64 (wd B 0 : Nat), .int .u64 (wd B 1 : Nat), .int .u64 (wd B 2 : Nat), .int .u64 (wd B 3 : Nat)] := Fb.out.alloc _
  have Nm : At (v11.alloc (.cells #[.int .u64 (wd u 0 : Nat), .int .u64 (wd u 1 : Nat), .int .u64 (wd u 2 : Nat), .int .u64 (wd u 3 : Nat)] 24)) gm 24 #[.int .u64 (wd M 0 : Nat), .int .u64 (wd M 1 : Nat), .int .u64 (wd M 2 : Nat), .int .u64 (wd M 3 : Nat)] := Fm.out.alloc _
  have Nx : At (v11.alloc (.cells #[.int .u64 (wd u 0 : Nat), .int .u64 (wd u 1 : Nat), .int .u64 (wd u 2 : Nat), .int .u64 (wd u 3 : Nat)] 24)) gx 24 #[.int .u64 (wd x 0 : Nat), .int .u64 (wd x 1 : Nat), .int .u64 (wd x 2 : Nat), .int .u64 (wd x 3 : Nat)] := Fx.out.alloc _
  have Ny : At (v11.alloc (.cells #[.int .u64 (wd u 0 : Nat), .int .u64 (wd u 1 : Nat), .int .u64 (wd u 2 : Nat), .int .u64 (wd u 3 : Nat)] 24)) gy 24 #[.int .u64 (wd y 0 : Nat), .int .u64 (wd y 1 : Nat), .int .u64 (wd y 2 : Nat), .int .u64 (wd y 3 : Nat)] := Fy.out.alloc _
  have Nz : At (v11.alloc (.cells #[.int .u64 (wd u 0 : Nat), .int .u64 (wd u 1 : Nat), .int .u64 (wd u 2 : Nat), .int .u64 (wd u 3 : Nat)] 24)) gz 24 #[.int .u64 (wd z 0 : Nat), .int .u64 (wd z 1 : Nat), .int .u64 (wd z 2 : Nat), .int .u64 (wd z 3 : Nat)] := Fz.out.alloc _
  have NB : Below w.heap.size w (v11.alloc (.cells #[.int .u64 (wd u 0 : Nat), .int .u64 (wd u 1 : Nat), .int .u64 (wd u 2 : Nat), .int .u64 (wd u 3 : Nat)] 24)) := gr_alloc BW.out _
  clear BW Fa Fb Fm Fx Fy Fz
  generalize (v11.alloc (.cells #[.int .u64 (wd u 0 : Nat), .int .u64 (wd u 1 : Nat), .int .u64 (wd u 2 : Nat), .int .u64 (wd u 3 : Nat)] 24)) = W12 at *
  generalize v11.heap.size = gu at *
  have Fa := Lib.hid Na
  have Fb := Lib.hid Nb
  have Fm := Lib.hid Nm
  have Fx := Lib.hid Nx
  have Fy := Lib.hid Ny
  have Fz := Lib.hid Nz
  have Fu := Lib.hid Nu
  have BW := Lib.hid NB
  clear NB Na Nb Nm Nx Ny Nz Nu
  refine (HA5.out _).mono ?_
  rintro e v13 ⟨rfl, z13⟩
  have Na := Lib.hid (Fa.out.on z13)
  have Nb := Lib.hid (Fb.out.on z13)
  have Nm := Lib.hid (Fm.out.on z13)
  have Nx := Lib.hid (Fx.out.on z13)
  have Ny := Lib.hid (Fy.out.on z13)
  have Nz := Lib.hid (Fz.out.on z13)
  have Nu := Lib.hid (Fu.out.on z13)
  have NB := Lib.hid (bel_tr BW.out z13)
  clear BW z13 Fa Fb Fm Fx Fy Fz Fu
  have Fa := Na
  have Fb := Nb
  have Fm := Nm
  have Fx := Nx
  have Fy := Ny
  have Fz := Nz
  have Fu := Nu
  have BW := NB
  clear NB Na Nb Nm Nx Ny Nz Nu
  go_wp2_with fail
  have Nv : At (v13.alloc (.cells #[.int .u64 (wd v 0 : Nat), .int .u64 (wd v 1 : Nat), .int .u64 (wd v 2 : Nat), .int .u64 (wd v 3 : Nat)] 24)) (v13.heap.size) 24 #[.int .u64 (wd v 0 : Nat), .int .u64 (wd v 1 : Nat), .int .u64 (wd v 2 : Nat), .int .u64 (wd v 3 : Nat)] := At.at_ _ _ _ _ (by simp)
  have Na : At (v13.alloc (.cells #[.int .u64 (wd v 0 : Nat), .int .u64 (wd v 1 : Nat), .int .u64 (wd v 2 : Nat), .int .u64 (wd v 3 : Nat)] 24)) ga 24 #[.int .u64 (wd A 0 : Nat), .int .u64 (wd A 1 : Nat), .int .u64 (wd A 2 : Nat), .int .u64 (wd A 3 : Nat)] := Fa.out.alloc _
  have Nb : At (v13.alloc (.cells #[.int .u64 (wd v 0 : Nat), .int .u64 (wd v 1 : Nat), .int .u64 (wd v 2 : Nat), .int .u64 (wd v 3 : Nat)] 24)) gb 24 #[.int .u64 (wd B 0 : Nat), .int .u64 (wd B 1 : Nat), .int .u64 (wd B 2 : Nat), .int .u64 (wd B 3 : Nat)] := Fb.out.alloc _
  have Nm : At (v13.alloc (.cells #[.int .u64 (wd v 0 : Nat), .int .u64 (wd v 1 : Nat), .int .u64 (wd v 2 : Nat), .int .u64 (wd v 3 : Nat)] 24)) gm 24 #[.int .u64 (wd M 0 : Nat), .int .u64 (wd M 1 : Nat), .int .u64 (wd M 2 : Nat), .int .u64 (wd M 3 : Nat)] := Fm.out.alloc _
  have Nx : At (v13.alloc (.cells #[.int .u64 (wd v 0 : Nat), .int .u64 (wd v 1 : Nat), .int .u64 (wd v 2 : Nat), .int .u64 (wd v 3 : Nat)] 24)) gx 24 #[.int .u64 (wd x 0 : Nat), .int .u64 (wd x 1 : Nat), .int .u64 (wd x 2 : Nat), .int .u64 (wd x 3 : Nat)] := Fx.out.alloc _
  have Ny : At (v13.alloc (.cells #[.int .u64 (wd v 0 : Nat), .int .u64 (wd v 1 : Nat), .int .u64 (wd v 2 : Nat), .int .u64 (wd v 3 : Nat)] 24)) gy 24 #[.int .u64 (wd y 0 : Nat), .int .u64 (wd y 1 : Nat), .int .u64 (wd y 2 : Nat), .int .u64 (wd y 3 : Nat)] := Fy.out.alloc _
  have Nz : At (v13.alloc (.cells #[.int .u64 (wd v 0 : Nat), .int .u64 (wd v 1 : Nat), .int .u64 (wd v 2 : Nat), .int .u64 (wd v 3 : Nat)] 24)) gz 24 #[.int .u64 (wd z 0 : Nat), .int .u64 (wd z 1 : Nat), .int .u64 (wd z 2 : Nat), .int .u64 (wd z 3 : Nat)] := Fz.out.alloc _
  have Nu : At (v13.alloc (.cells #[.int .u64 (wd v 0 : Nat), .int .u64 (wd v 1 : Nat), .int .u64 (wd v 2 : Nat), .int .u64 (wd v 3 : Nat)] 24)) gu 24 #[.int .u64 (wd u 0 : Nat), .int .u64 (wd u 1 : Nat), .int .u64 (wd u 2 : Nat), .int .u64 (wd u 3 : Nat)] := Fu.out.alloc _
  have NB : Below w.heap.size w (v13.alloc (.cells #[.int .u64 (wd v 0 : Nat), .int .u64 (wd v 1 : Nat), .int .u64 (wd v 2 : Nat), .int .u64 (wd v 3 : Nat)] 24)) := gr_alloc BW.out _
  clear BW Fa Fb Fm Fx Fy Fz Fu
  generalize (v13.alloc (.cells #[.int .u64 (wd v 0 : Nat), .int .u64 (wd v 1 : Nat), .int .u64 (wd v 2 : Nat), .int .u64 (wd v 3 : Nat)] 24)) = W14 at *
  generalize v13.heap.size = gv at *
  have Fa := Lib.hid Na
  have Fb := Lib.hid Nb
  have Fm := Lib.hid Nm
  have Fx := Lib.hid Nx
  have Fy := Lib.hid Ny
  have Fz := Lib.hid Nz
  have Fu := Lib.hid Nu
  have Fv := Lib.hid Nv
  have BW := Lib.hid NB
  clear NB Na Nb Nm Nx Ny Nz Nu Nv
  clear Fa
  clear Fb
  clear Fm
  clear Fv
  try simp only [List.append_eq, List.cons_append, List.nil_append]
  refine wp_region_noPanic ?_
  refine wp_region_held_drew (S := fun w' => At w' gx 24 #[.int .u64 (wd x 0 : Nat), .int .u64 (wd x 1 : Nat), .int .u64 (wd x 2 : Nat), .int .u64 (wd x 3 : Nat)] ∧ At w' gy 24 #[.int .u64 (wd y 0 : Nat), .int .u64 (wd y 1 : Nat), .int .u64 (wd y 2 : Nat), .int .u64 (wd y 3 : Nat)] ∧ At w' gz 24 #[.int .u64 (wd z 0 : Nat), .int .u64 (wd z 1 : Nat), .int .u64 (wd z 2 : Nat), .int .u64 (wd z 3 : Nat)] ∧ At w' gu 24 #[.int .u64 (wd u 0 : Nat), .int .u64 (wd u 1 : Nat), .int .u64 (wd u 2 : Nat), .int .u64 (wd u 3 : Nat)]) (by kernel_rfl) (⟨Fx.out.drew, Fy.out.drew, Fz.out.drew, Fu.out.drew⟩) (fun _ => ?_)
  refine wpAnyH_cores (fuel := 1) (⟨0, 72, [], Kind.val (.bool true), false⟩ :: ⟨1, 73, [0], Kind.val (.bool true), true⟩ :: ⟨2, 74, [1], Kind.val (.int .i64 0), true⟩ :: ⟨3, 75, [1, 2], Kind.val (.bool false), true⟩ :: ⟨4, 76, [1, 3], Kind.val (.bool true), true⟩ :: ⟨5, 77, [1, 4], Kind.val (.bool false), true⟩ :: ⟨6, 78, [1, 3, 5], Kind.val (.bool true), true⟩ :: ⟨7, 79, [1, 6], Kind.val (.bool true), true⟩ :: ⟨8, 80, [7], Kind.val (.bool true), true⟩ :: ⟨9, 81, [8], Kind.val (.int .i64 0), true⟩ :: ⟨10, 82, [8, 9], Kind.val (.bool false), true⟩ :: ⟨11, 83, [8, 10], Kind.val (.bool true), true⟩ :: ⟨12, 84, [8, 11], Kind.val (.bool false), true⟩ :: ⟨13, 85, [8, 10, 12], Kind.val (.bool true), true⟩ :: ⟨14, 86, [8, 13], Kind.val (.bool true), true⟩ :: ⟨15, 87, [14], Kind.val (.bool true), true⟩ :: ⟨16, 88, [15], Kind.val (.int .i64 0), true⟩ :: ⟨17, 89, [15, 16], Kind.val (.bool false), true⟩ :: ⟨18, 90, [15, 17], Kind.val (.bool true), true⟩ :: ⟨19, 91, [15, 18], Kind.val (.bool false), true⟩ :: ⟨20, 92, [15, 17, 19], Kind.val (.bool true), true⟩ :: ⟨21, 93, [15, 20], Kind.val (.bool true), true⟩ :: ⟨22, 94, [21], Kind.val (.bool true), true⟩ :: ⟨23, 95, [22], Kind.val (.int .i64 0), true⟩ :: ⟨24, 96, [22, 23], Kind.val (.bool false), true⟩ :: ⟨25, 97, [22, 24], Kind.val (.bool true), true⟩ :: ⟨26, 98, [22, 25], Kind.val (.bool false), true⟩ :: ⟨27, 99, [22, 24, 26], Kind.val (.bool true), true⟩ :: ⟨28, 100, [22, 27], Kind.val (.bool true), true⟩ :: ⟨29, 101, [28], Kind.val (.bool true), true⟩ :: ⟨30, 102, [29], Kind.val (.int .i64 ei), true⟩ :: ⟨31, 103, [29, 30], Kind.val (.bool false), true⟩ :: ⟨32, 104, [29, 31], Kind.val (.bool true), true⟩ :: ⟨33, 105, [29, 32], Kind.val (.bool false), true⟩ :: ⟨34, 106, [29, 31, 33], Kind.val (.bool true), true⟩ :: ⟨35, 107, [29, 34], Kind.val (.bool true), true⟩ :: ⟨36, 108, [35], Kind.val (.bool true), true⟩ :: ⟨37, 109, [36], Kind.val (.bool true), true⟩ :: ⟨38, 110, [36, 37], Kind.val (.bool true), true⟩ :: ⟨39, 111, [38], Kind.val (undef), true⟩ :: ⟨40, 112, [38, 39], Kind.val (undef), true⟩ :: ⟨41, 113, [38, 39, 40], Kind.val (undef), true⟩ :: ⟨42, 114, [38, 41], Kind.val (undef), true⟩ :: ⟨43, 115, [42], Kind.val (undef), true⟩ :: ⟨44, 116, [42, 43], Kind.val (undef), true⟩ :: ⟨45, 117, [42, 43, 44], Kind.val (undef), true⟩ :: ⟨46, 118, [38, 42, 45], Kind.val (undef), true⟩ :: ⟨47, 119, [38, 46], Kind.val (undef), true⟩ :: ⟨48, 120, [47], Kind.val (undef), true⟩ :: ⟨49, 121, [47, 48], Kind.val (undef), true⟩ :: ⟨50, 122, [47, 48, 49], Kind.val (undef), true⟩ :: ⟨51, 123, [38, 47, 50], Kind.val (undef), true⟩ :: ⟨52, 124, [36, 38, 51], Kind.val (.bool true), true⟩ :: ⟨53, 125, [36, 52], Kind.val (.bool true), true⟩ :: ⟨54, 126, [53], Kind.val (.bool true), true⟩ :: ⟨55, 127, [54], Kind.val (.bool true), true⟩ :: ⟨56, 128, [54, 55], Kind.val (.bool true), true⟩ :: ⟨57, 129, [56], Kind.val (undef), true⟩ :: ⟨58, 130, [56, 57], Kind.val (undef), true⟩ :: ⟨59, 131, [56, 57, 58], Kind.val (undef), true⟩ :: ⟨60, 132, [54, 56, 59], Kind.val (.bool true), true⟩ :: ⟨61, 133, [54, 60], Kind.val (.bool true), true⟩ :: []) _ _ W14 _ ?_ ?_ ?_ ?_ ?_ ?_ ?_ ?_ ?_ ?_ ?_
  · rfl
  · kernel_rfl
  · exact of_decide_eq_true (by kernel_rfl)
  · exact all_cons ⟨_, by rfl, by rfl⟩ (all_cons ⟨_, by rfl, by rfl⟩ (all_cons ⟨_, by rfl, by rfl⟩ (all_cons ⟨_, by rfl, by rfl⟩ (all_cons ⟨_, by rfl, by rfl⟩ (all_cons ⟨_, by rfl, by rfl⟩ (all_cons ⟨_, by rfl, by rfl⟩ (all_cons ⟨_, by rfl, by rfl⟩ (all_cons ⟨_, by rfl, by rfl⟩ (all_cons ⟨_, by rfl, by rfl⟩ (all_cons ⟨_, by rfl, by rfl⟩ (all_cons ⟨_, by rfl, by rfl⟩ (all_cons ⟨_, by rfl, by rfl⟩ (all_cons ⟨_, by rfl, by rfl⟩ (all_cons ⟨_, by rfl, by rfl⟩ (all_cons ⟨_, by rfl, by rfl⟩ (all_cons ⟨_, by rfl, by rfl⟩ (all_cons ⟨_, by rfl, by rfl⟩ (all_cons ⟨_, by rfl, by rfl⟩ (all_cons ⟨_, by rfl, by rfl⟩ (all_cons ⟨_, by rfl, by rfl⟩ (all_cons ⟨_, by rfl, by rfl⟩ (all_cons ⟨_, by rfl, by rfl⟩ (all_cons ⟨_, by rfl, by rfl⟩ (all_cons ⟨_, by rfl, by rfl⟩ (all_cons ⟨_, by rfl, by rfl⟩ (all_cons ⟨_, by rfl, by rfl⟩ (all_cons ⟨_, by rfl, by rfl⟩ (all_cons ⟨_, by rfl, by rfl⟩ (all_cons ⟨_, by rfl, by rfl⟩ (all_cons ⟨_, by rfl, by rfl⟩ (all_cons ⟨_, by rfl, by rfl⟩ (all_cons ⟨_, by rfl, by rfl⟩ (all_cons ⟨_, by rfl, by rfl⟩ (all_cons ⟨_, by rfl, by rfl⟩ (all_cons ⟨_, by rfl, by rfl⟩ (all_cons ⟨_, by rfl, by rfl⟩ (all_cons ⟨_, by rfl, by rfl⟩ (all_cons ⟨_, by rfl, by rfl⟩ (all_cons ⟨_, by rfl, by rfl⟩ (all_cons ⟨_, by rfl, by rfl⟩ (all_cons ⟨_, by rfl, by rfl⟩ (all_cons ⟨_, by rfl, by rfl⟩ (all_cons ⟨_, by rfl, by rfl⟩ (all_cons ⟨_, by rfl, by rfl⟩ (all_cons ⟨_, by rfl, by rfl⟩ (all_cons ⟨_, by rfl, by rfl⟩ (all_cons ⟨_, by rfl, by rfl⟩ (all_cons ⟨_, by rfl, by rfl⟩ (all_cons ⟨_, by rfl, by rfl⟩ (all_cons ⟨_, by rfl, by rfl⟩ (all_cons ⟨_, by rfl, by rfl⟩ (all_cons ⟨_, by rfl, by rfl⟩ (all_cons ⟨_, by rfl, by rfl⟩ (all_cons ⟨_, by rfl, by rfl⟩ (all_cons ⟨_, by rfl, by rfl⟩ (all_cons ⟨_, by rfl, by rfl⟩ (all_cons ⟨_, by rfl, by rfl⟩ (all_cons ⟨_, by rfl, by rfl⟩ (all_cons ⟨_, by rfl, by rfl⟩ (all_cons ⟨_, by rfl, by rfl⟩ (all_cons ⟨_, by rfl, by rfl⟩ (all_nil))))))))))))))))))))))))))))))))))))))))))))))))))))))))))))))
  · exact fun _ hb => ⟨Fx.out.on hb, Fy.out.on hb, Fz.out.on hb, Fu.out.on hb⟩
  · exact (Below.refl _ _).drew
  · kernel_rfl
  · exact fun _ _ _ _ _ h => h
  · refine all_cons ?_ (all_cons ?_ (all_cons ?_ (all_cons ?_ (all_cons ?_ (all_cons ?_ (all_cons ?_ (all_cons ?_ (all_cons ?_ (all_cons ?_ (all_cons ?_ (all_cons ?_ (all_cons ?_ (all_cons ?_ (all_cons ?_ (all_cons ?_ (all_cons ?_ (all_cons ?_ (all_cons ?_ (all_cons ?_ (all_cons ?_ (all_cons ?_ (all_cons ?_ (all_cons ?_ (all_cons ?_ (all_cons ?_ (all_cons ?_ (all_cons ?_ (all_cons ?_ (all_cons ?_ (all_cons ?_ (all_cons ?_ (all_cons ?_ (all_cons ?_ (all_cons ?_ (all_cons ?_ (all_cons ?_ (all_cons ?_ (all_cons ?_ (all_cons ?_ (all_cons ?_ (all_cons ?_ (all_cons ?_ (all_cons ?_ (all_cons ?_ (all_cons ?_ (all_cons ?_ (all_cons ?_ (all_cons ?_ (all_cons ?_ (all_cons ?_ (all_cons ?_ (all_cons ?_ (all_cons ?_ (all_cons ?_ (all_cons ?_ (all_cons ?_ (all_cons ?_ (all_cons ?_ (all_cons ?_ (all_cons ?_ (all_cons ?_ (all_nil))))))))))))))))))))))))))))))))))))))))))))))))))))))))))))))
    · exact core_pureAs _ (by rfl)
    · exact coreG_move _ _ _ _ _ _ _ (by rfl) (by rfl) (wants_none) (known_core 0 72 _ _ (of_decide_eq_true (by rfl)) (by rfl) (by rfl) (by rfl))
    · exact coreG_move _ _ _ _ _ _ _ (by rfl) (by rfl) (wants_core 1 73 1 _ _ _ (by rfl) (by rfl) (by rfl) (known_core 1 73 _ _ (of_decide_eq_true (by rfl)) (by rfl) (by rfl) (by rfl)) _ (by rfl)) (known_old 11 _ (of_decide_eq_true (by rfl)) (by rfl))
    · exact coreG_bin _ _ _ _ _ _ _ _ _ _ _ _ _ (by rfl) (by rfl) (wants_core 1 73 1 _ _ _ (by rfl) (by rfl) (by rfl) (known_core 1 73 _ _ (of_decide_eq_true (by rfl)) (by rfl) (by rfl) (by rfl)) _ (by rfl)) (known_core 2 74 _ _ (of_decide_eq_true (by rfl)) (by rfl) (by rfl) (by rfl)) (known_const _) ((fun ρ w hx hy => by simp only [execOp, hx, hy]; simp [go_sem]))
    · exact coreG_move _ _ _ _ _ _ _ (by rfl) (by rfl) (wants_core 1 73 1 _ _ _ (by rfl) (by rfl) (by rfl) (known_core 1 73 _ _ (of_decide_eq_true (by rfl)) (by rfl) (by rfl) (by rfl)) _ (by rfl)) (known_old 9 _ (of_decide_eq_true (by rfl)) (by rfl))
    · exact coreG_un _ _ _ _ _ _ _ _ _ _ (by rfl) (by rfl) (wants_core 1 73 1 _ _ _ (by rfl) (by rfl) (by rfl) (known_core 1 73 _ _ (of_decide_eq_true (by rfl)) (by rfl) (by rfl) (by rfl)) _ (by rfl)) (known_core 4 76 _ _ (of_decide_eq_true (by rfl)) (by rfl) (by rfl) (by rfl)) (fun ρ w hx => by simp only [execOp, hx]; simp [go_sem])
    · exact coreG_bin _ _ _ _ _ _ _ _ _ _ _ _ _ (by rfl) (by rfl) (wants_core 1 73 1 _ _ _ (by rfl) (by rfl) (by rfl) (known_core 1 73 _ _ (of_decide_eq_true (by rfl)) (by rfl) (by rfl) (by rfl)) _ (by rfl)) (known_core 3 75 _ _ (of_decide_eq_true (by rfl)) (by rfl) (by rfl) (by rfl)) (known_core 5 77 _ _ (of_decide_eq_true (by rfl)) (by rfl) (by rfl) (by rfl)) ((fun ρ w hx hy => by simp only [execOp, hx, hy]; simp [go_sem]))
    · exact coreG_pick _ _ _ _ _ _ _ _ _ _ _ _ (by rfl) (by rfl) (wants_none) (known_core 1 73 _ _ (of_decide_eq_true (by rfl)) (by rfl) (by rfl) (by rfl)) (known_core 6 78 _ _ (of_decide_eq_true (by rfl)) (by rfl) (by rfl) (by rfl)) (known_const _) (by rfl)
    · exact coreG_move _ _ _ _ _ _ _ (by rfl) (by rfl) (wants_none) (known_core 7 79 _ _ (of_decide_eq_true (by rfl)) (by rfl) (by rfl) (by rfl))
    · exact coreG_move _ _ _ _ _ _ _ (by rfl) (by rfl) (wants_core 8 80 8 _ _ _ (by rfl) (by rfl) (by rfl) (known_core 8 80 _ _ (of_decide_eq_true (by rfl)) (by rfl) (by rfl) (by rfl)) _ (by rfl)) (known_old 13 _ (of_decide_eq_true (by rfl)) (by rfl))
    · exact coreG_bin _ _ _ _ _ _ _ _ _ _ _ _ _ (by rfl) (by rfl) (wants_core 8 80 8 _ _ _ (by rfl) (by rfl) (by rfl) (known_core 8 80 _ _ (of_decide_eq_true (by rfl)) (by rfl) (by rfl) (by rfl)) _ (by rfl)) (known_core 9 81 _ _ (of_decide_eq_true (by rfl)) (by rfl) (by rfl) (by rfl)) (known_const _) ((fun ρ w hx hy => by simp only [execOp, hx, hy]; simp [go_sem]))
    · exact coreG_move _ _ _ _ _ _ _ (by rfl) (by rfl) (wants_core 8 80 8 _ _ _ (by rfl) (by rfl) (by rfl) (known_core 8 80 _ _ (of_decide_eq_true (by rfl)) (by rfl) (by rfl) (by rfl)) _ (by rfl)) (known_old 9 _ (of_decide_eq_true (by rfl)) (by rfl))
    · exact coreG_un _ _ _ _ _ _ _ _ _ _ (by rfl) (by rfl) (wants_core 8 80 8 _ _ _ (by rfl) (by rfl) (by rfl) (known_core 8 80 _ _ (of_decide_eq_true (by rfl)) (by rfl) (by rfl) (by rfl)) _ (by rfl)) (known_core 11 83 _ _ (of_decide_eq_true (by rfl)) (by rfl) (by rfl) (by rfl)) (fun ρ w hx => by simp only [execOp, hx]; simp [go_sem])
    · exact coreG_bin _ _ _ _ _ _ _ _ _ _ _ _ _ (by rfl) (by rfl) (wants_core 8 80 8 _ _ _ (by rfl) (by rfl) (by rfl) (known_core 8 80 _ _ (of_decide_eq_true (by rfl)) (by rfl) (by rfl) (by rfl)) _ (by rfl)) (known_core 10 82 _ _ (of_decide_eq_true (by rfl)) (by rfl) (by rfl) (by rfl)) (known_core 12 84 _ _ (of_decide_eq_true (by rfl)) (by rfl) (by rfl) (by rfl)) ((fun ρ w hx hy => by simp only [execOp, hx, hy]; simp [go_sem]))
    · exact coreG_pick _ _ _ _ _ _ _ _ _ _ _ _ (by rfl) (by rfl) (wants_none) (known_core 8 80 _ _ (of_decide_eq_true (by rfl)) (by rfl) (by rfl) (by rfl)) (known_core 13 85 _ _ (of_decide_eq_true (by rfl)) (by rfl) (by rfl) (by rfl)) (known_const _) (by rfl)
    · exact coreG_move _ _ _ _ _ _ _ (by rfl) (by rfl) (wants_none) (known_core 14 86 _ _ (of_decide_eq_true (by rfl)) (by rfl) (by rfl) (by rfl))
    · exact coreG_move _ _ _ _ _ _ _ (by rfl) (by rfl) (wants_core 15 87 15 _ _ _ (by rfl) (by rfl) (by rfl) (known_core 15 87 _ _ (of_decide_eq_true (by rfl)) (by rfl) (by rfl) (by rfl)) _ (by rfl)) (known_old 15 _ (of_decide_eq_true (by rfl)) (by rfl))
    · exact coreG_bin _ _ _ _ _ _ _ _ _ _ _ _ _ (by rfl) (by rfl) (wants_core 15 87 15 _ _ _ (by rfl) (by rfl) (by rfl) (known_core 15 87 _ _ (of_decide_eq_true (by rfl)) (by rfl) (by rfl) (by rfl)) _ (by rfl)) (known_core 16 88 _ _ (of_decide_eq_true (by rfl)) (by rfl) (by rfl) (by rfl)) (known_const _) ((fun ρ w hx hy => by simp only [execOp, hx, hy]; simp [go_sem]))
    · exact coreG_move _ _ _ _ _ _ _ (by rfl) (by rfl) (wants_core 15 87 15 _ _ _ (by rfl) (by rfl) (by rfl) (known_core 15 87 _ _ (of_decide_eq_true (by rfl)) (by rfl) (by rfl) (by rfl)) _ (by rfl)) (known_old 9 _ (of_decide_eq_true (by rfl)) (by rfl))
    · exact coreG_un _ _ _ _ _ _ _ _ _ _ (by rfl) (by rfl) (wants_core 15 87 15 _ _ _ (by rfl) (by rfl) (by rfl) (known_core 15 87 _ _ (of_decide_eq_true (by rfl)) (by rfl) (by rfl) (by rfl)) _ (by rfl)) (known_core 18 90 _ _ (of_decide_eq_true (by rfl)) (by rfl) (by rfl) (by rfl)) (fun ρ w hx => by simp only [execOp, hx]; simp [go_sem])
    · exact coreG_bin _ _ _ _ _ _ _ _ _ _ _ _ _ (by rfl) (by rfl) (wants_core 15 87 15 _ _ _ (by rfl) (by rfl) (by rfl) (known_core 15 87 _ _ (of_decide_eq_true (by rfl)) (by rfl) (by rfl) (by rfl)) _ (by rfl)) (known_core 17 89 _ _ (of_decide_eq_true (by rfl)) (by rfl) (by rfl) (by rfl)) (known_core 19 91 _ _ (of_decide_eq_true (by rfl)) (by rfl) (by rfl) (by rfl)) ((fun ρ w hx hy => by simp only [execOp, hx, hy]; simp [go_sem]))
    · exact coreG_pick _ _ _ _ _ _ _ _ _ _ _ _ (by rfl) (by rfl) (wants_none) (known_core 15 87 _ _ (of_decide_eq_true (by rfl)) (by rfl) (by rfl) (by rfl)) (known_core 20 92 _ _ (of_decide_eq_true (by rfl)) (by rfl) (by rfl) (by rfl)) (known_const _) (by rfl)
    · exact coreG_move _ _ _ _ _ _ _ (by rfl) (by rfl) (wants_none) (known_core 21 93 _ _ (of_decide_eq_true (by rfl)) (by rfl) (by rfl) (by rfl))
    · exact coreG_move _ _ _ _ _ _ _ (by rfl) (by rfl) (wants_core 22 94 22 _ _ _ (by rfl) (by rfl) (by rfl) (known_core 22 94 _ _ (of_decide_eq_true (by rfl)) (by rfl) (by rfl) (by rfl)) _ (by rfl)) (known_old 17 _ (of_decide_eq_true (by rfl)) (by rfl))
    · exact coreG_bin _ _ _ _ _ _ _ _ _ _ _ _ _ (by rfl) (by rfl) (wants_core 22 94 22 _ _ _ (by rfl) (by rfl) (by rfl) (known_core 22 94 _ _ (of_decide_eq_true (by rfl)) (by rfl) (by rfl) (by rfl)) _ (by rfl)) (known_core 23 95 _ _ (of_decide_eq_true (by rfl)) (by rfl) (by rfl) (by rfl)) (known_const _) ((fun ρ w hx hy => by simp only [execOp, hx, hy]; simp [go_sem]))
    · exact coreG_move _ _ _ _ _ _ _ (by rfl) (by rfl) (wants_core 22 94 22 _ _ _ (by rfl) (by rfl) (by rfl) (known_core 22 94 _ _ (of_decide_eq_true (by rfl)) (by rfl) (by rfl) (by rfl)) _ (by rfl)) (known_old 8 _ (of_decide_eq_true (by rfl)) (by rfl))
    · exact coreG_un _ _ _ _ _ _ _ _ _ _ (by rfl) (by rfl) (wants_core 22 94 22 _ _ _ (by rfl) (by rfl) (by rfl) (known_core 22 94 _ _ (of_decide_eq_true (by rfl)) (by rfl) (by rfl) (by rfl)) _ (by rfl)) (known_core 25 97 _ _ (of_decide_eq_true (by rfl)) (by rfl) (by rfl) (by rfl)) (fun ρ w hx => by simp only [execOp, hx]; simp [go_sem])
    · exact coreG_bin _ _ _ _ _ _ _ _ _ _ _ _ _ (by rfl) (by rfl) (wants_core 22 94 22 _ _ _ (by rfl) (by rfl) (by rfl) (known_core 22 94 _ _ (of_decide_eq_true (by rfl)) (by rfl) (by rfl) (by rfl)) _ (by rfl)) (known_core 24 96 _ _ (of_decide_eq_true (by rfl)) (by rfl) (by rfl) (by rfl)) (known_core 26 98 _ _ (of_decide_eq_true (by rfl)) (by rfl) (by rfl) (by rfl)) ((fun ρ w hx hy => by simp only [execOp, hx, hy]; simp [go_sem]))
    · exact coreG_pick _ _ _ _ _ _ _ _ _ _ _ _ (by rfl) (by rfl) (wants_none) (known_core 22 94 _ _ (of_decide_eq_true (by rfl)) (by rfl) (by rfl) (by rfl)) (known_core 27 99 _ _ (of_decide_eq_true (by rfl)) (by rfl) (by rfl) (by rfl)) (known_const _) (by rfl)
    · exact coreG_move _ _ _ _ _ _ _ (by rfl) (by rfl) (wants_none) (known_core 28 100 _ _ (of_decide_eq_true (by rfl)) (by rfl) (by rfl) (by rfl))
    · exact coreG_move _ _ _ _ _ _ _ (by rfl) (by rfl) (wants_core 29 101 29 _ _ _ (by rfl) (by rfl) (by rfl) (known_core 29 101 _ _ (of_decide_eq_true (by rfl)) (by rfl) (by rfl) (by rfl)) _ (by rfl)) (known_old 19 _ (of_decide_eq_true (by rfl)) (by rfl))
    · exact coreG_bin _ _ _ _ _ _ _ _ _ _ _ _ _ (by rfl) (by rfl) (wants_core 29 101 29 _ _ _ (by rfl) (by rfl) (by rfl) (known_core 29 101 _ _ (of_decide_eq_true (by rfl)) (by rfl) (by rfl) (by rfl)) _ (by rfl)) (known_core 30 102 _ _ (of_decide_eq_true (by rfl)) (by rfl) (by rfl) (by rfl)) (known_const _) ((fun ρ w hx hy => by simp only [execOp, hx, hy]; simp [go_sem]; exact hei))
    · exact coreG_move _ _ _ _ _ _ _ (by rfl) (by rfl) (wants_core 29 101 29 _ _ _ (by rfl) (by rfl) (by rfl) (known_core 29 101 _ _ (of_decide_eq_true (by rfl)) (by rfl) (by rfl) (by rfl)) _ (by rfl)) (known_old 8 _ (of_decide_eq_true (by rfl)) (by rfl))
    · exact coreG_un _ _ _ _ _ _ _ _ _ _ (by rfl) (by rfl) (wants_core 29 101 29 _ _ _ (by rfl) (by rfl) (by rfl) (known_core 29 101 _ _ (of_decide_eq_true (by rfl)) (by rfl) (by rfl) (by rfl)) _ (by rfl)) (known_core 32 104 _ _ (of_decide_eq_true (by rfl)) (by rfl) (by rfl) (by rfl)) (fun ρ w hx => by simp only [execOp, hx]; simp [go_sem])
    · exact coreG_bin _ _ _ _ _ _ _ _ _ _ _ _ _ (by rfl) (by rfl) (wants_core 29 101 29 _ _ _ (by rfl) (by rfl) (by rfl) (known_core 29 101 _ _ (of_decide_eq_true (by rfl)) (by rfl) (by rfl) (by rfl)) _ (by rfl)) (known_core 31 103 _ _ (of_decide_eq_true (by rfl)) (by rfl) (by rfl) (by rfl)) (known_core 33 105 _ _ (of_decide_eq_true (by rfl)) (by rfl) (by rfl) (by rfl)) ((fun ρ w hx hy => by simp only [execOp, hx, hy]; simp [go_sem]))
    · exact coreG_pick _ _ _ _ _ _ _ _ _ _ _ _ (by rfl) (by rfl) (wants_none) (known_core 29 101 _ _ (of_decide_eq_true (by rfl)) (by rfl) (by rfl) (by rfl)) (known_core 34 106 _ _ (of_decide_eq_true (by rfl)) (by rfl) (by rfl) (by rfl)) (known_const _) (by rfl)
    · exact coreG_move _ _ _ _ _ _ _ (by rfl) (by rfl) (wants_none) (known_core 35 107 _ _ (of_decide_eq_true (by rfl)) (by rfl) (by rfl) (by rfl))
    · exact coreG_move _ _ _ _ _ _ _ (by rfl) (by rfl) (wants_core 36 108 36 _ _ _ (by rfl) (by rfl) (by rfl) (known_core 36 108 _ _ (of_decide_eq_true (by rfl)) (by rfl) (by rfl) (by rfl)) _ (by rfl)) (known_old 9 _ (of_decide_eq_true (by rfl)) (by rfl))
    · exact coreG_move _ _ _ _ _ _ _ (by rfl) (by rfl) (wants_core 36 108 36 _ _ _ (by rfl) (by rfl) (by rfl) (known_core 36 108 _ _ (of_decide_eq_true (by rfl)) (by rfl) (by rfl) (by rfl)) _ (by rfl)) (known_core 37 109 _ _ (of_decide_eq_true (by rfl)) (by rfl) (by rfl) (by rfl))
    · exact coreG_skip _ _ _ _ _ _ (by rfl) (by rfl) (wants_core 38 110 38 _ _ _ (by rfl) (by rfl) (by rfl) (known_core 38 110 _ _ (of_decide_eq_true (by rfl)) (by rfl) (by rfl) (by rfl)) _ (by rfl))
    · exact coreG_skip _ _ _ _ _ _ (by rfl) (by rfl) (wants_core 38 110 38 _ _ _ (by rfl) (by rfl) (by rfl) (known_core 38 110 _ _ (of_decide_eq_true (by rfl)) (by rfl) (by rfl) (by rfl)) _ (by rfl))
    · exact coreG_skip _ _ _ _ _ _ (by rfl) (by rfl) (wants_core 38 110 38 _ _ _ (by rfl) (by rfl) (by rfl) (known_core 38 110 _ _ (of_decide_eq_true (by rfl)) (by rfl) (by rfl) (by rfl)) _ (by rfl))
    · exact coreG_skip _ _ _ _ _ _ (by rfl) (by rfl) (wants_core 38 110 38 _ _ _ (by rfl) (by rfl) (by rfl) (known_core 38 110 _ _ (of_decide_eq_true (by rfl)) (by rfl) (by rfl) (by rfl)) _ (by rfl))
    · exact coreG_skip _ _ _ _ _ _ (by rfl) (by rfl) (wants_undef 42 114 42 _ _ (by rfl) (by rfl) (by rfl) (known_core 42 114 _ _ (of_decide_eq_true (by rfl)) (by rfl) (by rfl) (by rfl)))
    · exact coreG_skip _ _ _ _ _ _ (by rfl) (by rfl) (wants_undef 42 114 42 _ _ (by rfl) (by rfl) (by rfl) (known_core 42 114 _ _ (of_decide_eq_true (by rfl)) (by rfl) (by rfl) (by rfl)))
    · exact coreG_skip _ _ _ _ _ _ (by rfl) (by rfl) (wants_undef 42 114 42 _ _ (by rfl) (by rfl) (by rfl) (known_core 42 114 _ _ (of_decide_eq_true (by rfl)) (by rfl) (by rfl) (by rfl)))
    · exact coreG_skip _ _ _ _ _ _ (by rfl) (by rfl) (wants_core 38 110 38 _ _ _ (by rfl) (by rfl) (by rfl) (known_core 38 110 _ _ (of_decide_eq_true (by rfl)) (by rfl) (by rfl) (by rfl)) _ (by rfl))
    · exact coreG_skip _ _ _ _ _ _ (by rfl) (by rfl) (wants_core 38 110 38 _ _ _ (by rfl) (by rfl) (by rfl) (known_core 38 110 _ _ (of_decide_eq_true (by rfl)) (by rfl) (by rfl) (by rfl)) _ (by rfl))
    · exact coreG_skip _ _ _ _ _ _ (by rfl) (by rfl) (wants_undef 47 119 47 _ _ (by rfl) (by rfl) (by rfl) (known_core 47 119 _ _ (of_decide_eq_true (by rfl)) (by rfl) (by rfl) (by rfl)))
    · exact coreG_skip _ _ _ _ _ _ (by rfl) (by rfl) (wants_undef 47 119 47 _ _ (by rfl) (by rfl) (by rfl) (known_core 47 119 _ _ (of_decide_eq_true (by rfl)) (by rfl) (by rfl) (by rfl)))
    · exact coreG_skip _ _ _ _ _ _ (by rfl) (by rfl) (wants_undef 47 119 47 _ _ (by rfl) (by rfl) (by rfl) (known_core 47 119 _ _ (of_decide_eq_true (by rfl)) (by rfl) (by rfl) (by rfl)))
    · exact coreG_skip _ _ _ _ _ _ (by rfl) (by rfl) (wants_core 38 110 38 _ _ _ (by rfl) (by rfl) (by rfl) (known_core 38 110 _ _ (of_decide_eq_true (by rfl)) (by rfl) (by rfl) (by rfl)) _ (by rfl))
    · exact coreG_pick _ _ _ _ _ _ _ _ _ _ _ _ (by rfl) (by rfl) (wants_core 36 108 36 _ _ _ (by rfl) (by rfl) (by rfl) (known_core 36 108 _ _ (of_decide_eq_true (by rfl)) (by rfl) (by rfl) (by rfl)) _ (by rfl)) (known_core 38 110 _ _ (of_decide_eq_true (by rfl)) (by rfl) (by rfl) (by rfl)) (known_const _) (known_core 51 123 _ _ (of_decide_eq_true (by rfl)) (by rfl) (by rfl) (by rfl)) (by rfl)
    · exact coreG_pick _ _ _ _ _ _ _ _ _ _ _ _ (by rfl) (by rfl) (wants_none) (known_core 36 108 _ _ (of_decide_eq_true (by rfl)) (by rfl) (by rfl) (by rfl)) (known_core 52 124 _ _ (of_decide_eq_true (by rfl)) (by rfl) (by rfl) (by rfl)) (known_const _) (by rfl)
    · exact coreG_move _ _ _ _ _ _ _ (by rfl) (by rfl) (wants_none) (known_core 53 125 _ _ (of_decide_eq_true (by rfl)) (by rfl) (by rfl) (by rfl))
    · exact coreG_move _ _ _ _ _ _ _ (by rfl) (by rfl) (wants_core 54 126 54 _ _ _ (by rfl) (by rfl) (by rfl) (known_core 54 126 _ _ (of_decide_eq_true (by rfl)) (by rfl) (by rfl) (by rfl)) _ (by rfl)) (known_old 8 _ (of_decide_eq_true (by rfl)) (by rfl))
    · exact coreG_move _ _ _ _ _ _ _ (by rfl) (by rfl) (wants_core 54 126 54 _ _ _ (by rfl) (by rfl) (by rfl) (known_core 54 126 _ _ (of_decide_eq_true (by rfl)) (by rfl) (by rfl) (by rfl)) _ (by rfl)) (known_core 55 127 _ _ (of_decide_eq_true (by rfl)) (by rfl) (by rfl) (by rfl))
    · exact coreG_skip _ _ _ _ _ _ (by rfl) (by rfl) (wants_core 56 128 56 _ _ _ (by rfl) (by rfl) (by rfl) (known_core 56 128 _ _ (of_decide_eq_true (by rfl)) (by rfl) (by rfl) (by rfl)) _ (by rfl))
    · exact coreG_skip _ _ _ _ _ _ (by rfl) (by rfl) (wants_core 56 128 56 _ _ _ (by rfl) (by rfl) (by rfl) (known_core 56 128 _ _ (of_decide_eq_true (by rfl)) (by rfl) (by rfl) (by rfl)) _ (by rfl))
    · exact coreG_skip _ _ _ _ _ _ (by rfl) (by rfl) (wants_core 56 128 56 _ _ _ (by rfl) (by rfl) (by rfl) (known_core 56 128 _ _ (of_decide_eq_true (by rfl)) (by rfl) (by rfl) (by rfl)) _ (by rfl))
    · exact coreG_pick _ _ _ _ _ _ _ _ _ _ _ _ (by rfl) (by rfl) (wants_core 54 126 54 _ _ _ (by rfl) (by rfl) (by rfl) (known_core 54 126 _ _ (of_decide_eq_true (by rfl)) (by rfl) (by rfl) (by rfl)) _ (by rfl)) (known_core 56 128 _ _ (of_decide_eq_true (by rfl)) (by rfl) (by rfl) (by rfl)) (known_const _) (known_core 59 131 _ _ (of_decide_eq_true (by rfl)) (by rfl) (by rfl) (by rfl)) (by rfl)
    · exact coreG_pick _ _ _ _ _ _ _ _ _ _ _ _ (by rfl) (by rfl) (wants_none) (known_core 54 126 _ _ (of_decide_eq_true (by rfl)) (by rfl) (by rfl) (by rfl)) (known_core 60 132 _ _ (of_decide_eq_true (by rfl)) (by rfl) (by rfl) (by rfl)) (known_const _) (by rfl)
  · refine all_cons ?_ (all_cons ?_ (all_cons ?_ (all_cons ?_ (all_cons ?_ (all_cons ?_ (all_cons ?_ (all_cons ?_ (all_cons ?_ (all_cons ?_ (all_cons ?_ (all_cons ?_ (all_cons ?_ (all_cons ?_ (all_cons ?_ (all_cons ?_ (all_cons ?_ (all_cons ?_ (all_cons ?_ (all_cons ?_ (all_cons ?_ (all_cons ?_ (all_cons ?_ (all_cons ?_ (all_cons ?_ (all_cons ?_ (all_cons ?_ (all_cons ?_ (all_cons ?_ (all_cons ?_ (all_cons ?_ (all_cons ?_ (all_cons ?_ (all_cons ?_ (all_cons ?_ (all_cons ?_ (all_cons ?_ (all_cons ?_ (all_cons ?_ (all_cons ?_ (all_cons ?_ (all_cons ?_ (all_cons ?_ (all_cons ?_ (all_cons ?_ (all_cons ?_ (all_cons ?_ (all_cons ?_ (all_cons ?_ (all_cons ?_ (all_cons ?_ (all_cons ?_ (all_cons ?_ (all_cons ?_ (all_cons ?_ (all_cons ?_ (all_cons ?_ (all_cons ?_ (all_cons ?_ (all_cons ?_ (all_cons ?_ (all_cons ?_ (all_nil))))))))))))))))))))))))))))))))))))))))))))))))))))))))))))))
    · exact fun _ => coreG_call _ 29 _ _ [] _ _ _ _ _ _ _ (by rfl) Try.func29 (by kernel_rfl) (by rfl) (by rfl) (wants_none) .nil (alive4_any)
    · exact core_stepAs _ (by rfl)
    · exact core_stepAs _ (by rfl)
    · exact core_stepAs _ (by rfl)
    · exact core_stepAs _ (by rfl)
    · exact core_stepAs _ (by rfl)
    · exact core_stepAs _ (by rfl)
    · exact core_stepAs _ (by rfl)
    · exact core_stepAs _ (by rfl)
    · exact core_stepAs _ (by rfl)
    · exact core_stepAs _ (by rfl)
    · exact core_stepAs _ (by rfl)
    · exact core_stepAs _ (by rfl)
    · exact core_stepAs _ (by rfl)
    · exact core_stepAs _ (by rfl)
    · exact core_stepAs _ (by rfl)
    · exact core_stepAs _ (by rfl)
    · exact core_stepAs _ (by rfl)
    · exact core_stepAs _ (by rfl)
    · exact core_stepAs _ (by rfl)
    · exact core_stepAs _ (by rfl)
    · exact core_stepAs _ (by rfl)
    · exact core_stepAs _ (by rfl)
    · exact core_stepAs _ (by rfl)
    · exact core_stepAs _ (by rfl)
    · exact core_stepAs _ (by rfl)
    · exact core_stepAs _ (by rfl)
    · exact core_stepAs _ (by rfl)
    · exact core_stepAs _ (by rfl)
    · exact core_stepAs _ (by rfl)
    · exact core_stepAs _ (by rfl)
    · exact core_stepAs _ (by rfl)
    · exact core_stepAs _ (by rfl)
    · exact core_stepAs _ (by rfl)
    · exact core_stepAs _ (by rfl)
    · exact core_stepAs _ (by rfl)
    · exact core_stepAs _ (by rfl)
    · exact core_stepAs _ (by rfl)
    · exact core_stepAs _ (by rfl)
    · exact core_stepAs _ (by rfl)
    · exact core_stepAs _ (by rfl)
    · exact core_stepAs _ (by rfl)
    · exact core_stepAs _ (by rfl)
    · exact core_stepAs _ (by rfl)
    · exact core_stepAs _ (by rfl)
    · exact core_stepAs _ (by rfl)
    · exact core_stepAs _ (by rfl)
    · exact core_stepAs _ (by rfl)
    · exact core_stepAs _ (by rfl)
    · exact core_stepAs _ (by rfl)
    · exact core_stepAs _ (by rfl)
    · exact core_stepAs _ (by rfl)
    · exact core_stepAs _ (by rfl)
    · exact core_stepAs _ (by rfl)
    · exact core_stepAs _ (by rfl)
    · exact core_stepAs _ (by rfl)
    · exact core_stepAs _ (by rfl)
    · exact core_stepAs _ (by rfl)
    · exact core_stepAs _ (by rfl)
    · exact core_stepAs _ (by rfl)
    · exact core_stepAs _ (by rfl)
    · exact core_stepAs _ (by rfl)
  intro vs y15 hc
  have BZ := bel_tr BW.out hc.bel
  refine assign_one (i := 62) (.tmp 133) 6 _ _ _ (.bool true) (by kernel_rfl) (by rfl) (hc.at_ (of_decide_eq_true (by kernel_rfl)) (by rfl) 61 133 _ (.bool true) (by rfl) (by rfl) (by rfl)) (⟨Fx.out.on hc.bel, Fy.out.on hc.bel, Fz.out.on hc.bel, Fu.out.on hc.bel⟩) ?_
  refine wpAnyH_done (by kernel_rfl) ?_ _
  refine NoPanic.normal ?_
  generalize hA : Act.put (over _ _ vs) (some 6) (.bool true) = A
  have hA0 : A.tmps.getD 6 undef = .bool true := by rw [← hA]; exact put_at _ _ _ (by rw [over_size]; exact Nat.le_of_ble_eq_true rfl)
  have hAd : A.defers = [] := by rw [← hA, put_defers, over_defers]
  clear hA hc
  go_wp2_with fail
  refine bodyPost_ret (v := .bool true) (by simp [results, Try.results9, go_sem] at hA0 ⊢; simp [hA0]) hAd ⟨rfl, BZ⟩

theorem refuse_walk (A B M : Nat) (hA : A < 2 ^ 256) (hB : B < 2 ^ 256) (hM : M < 2 ^ 256) (w : World) : Calls Try.prog 9 #[num A, num B, num M] w fun e w' => e = .returned (.bool true) ∧ Below w.heap.size w w' := by
  by_cases h1 : 1 < M
  · by_cases h2 : A < M
    · obtain ⟨v, ei, hei, CI⟩ : ∃ (v : Nat) (ei : Int), ¬ ei = 1 ∧ ∀ w, Calls Try.prog 21 #[num A, num M] w fun e w' => e = .returned (.tuple #[num v, .int .i64 ei]) ∧ Below w.heap.size w w' := by
        by_cases hg : Nat.gcd A M = 1
        · obtain ⟨V, hV, hAV⟩ := inv_there A M h1 hg
          exact ⟨V, 0, by decide, minv_yes A M V hM h1 h2 hV hAV⟩
        · exact ⟨0, 7, by decide, minv_none A M hM h1 h2 hg⟩
      by_cases h3 : B < M
      · exact refuse_none A B M 1 0 _ _ _ _ v _ _ _ ei (cmpN_pos h1) (cmpN_neg h2) (cmpN_neg h3) hei (fun w => ofM_any 1 (by decide) w) (fun w => cmp_any M 1 hM (by decide) w) (fun w => ofM_any 0 (by decide) w) (fun w => cmp_any A M hA hM w) (fun w => cmp_any B M hB hM w)
          (madd_yes A B M hM h1 h2 h3) (msub_yes A B M hM h1 h2 h3) (mmul_yes A B M hM h1 h2 h3) (mexp_yes A B M hM hB h1 h2) CI w
      · have hn : ¬ (1 < M ∧ A < M ∧ B < M) := fun h => h3 h.2.2
        exact refuse_b A B M 1 0 _ v _ _ _ ei (cmpN_pos h1) (cmpN_neg h2) (cmpN_ge (by omega)) hei (fun w => ofM_any 1 (by decide) w) (fun w => cmp_any M 1 hM (by decide) w) (fun w => ofM_any 0 (by decide) w) (fun w => cmp_any A M hA hM w) (fun w => cmp_any B M hB hM w)
          (madd_no A B M hA hB hM hn) (msub_no A B M hA hB hM hn) (mmul_no A B M hA hB hM hn) (mexp_yes A B M hM hB h1 h2) CI w
    · have hn : ¬ (1 < M ∧ A < M ∧ B < M) := fun h => h2 h.2.1
      have hn2 : ¬ (1 < M ∧ A < M) := fun h => h2 h.2
      exact refuse_a A B M 1 0 _ _ (cmpN_pos h1) (cmpN_ge (by omega)) (fun w => ofM_any 1 (by decide) w) (fun w => cmp_any M 1 hM (by decide) w) (fun w => ofM_any 0 (by decide) w) (fun w => cmp_any A M hA hM w)
          (madd_no A B M hA hB hM hn) (msub_no A B M hA hB hM hn) (mmul_no A B M hA hB hM hn) (mexp_no A B M hA hM hn2) (minv_no A M hA hM hn2) w
  · have hn : ¬ (1 < M ∧ A < M ∧ B < M) := fun h => h1 h.1
    have hn2 : ¬ (1 < M ∧ A < M) := fun h => h1 h.1
    exact refuse_big A B M 1 0 _ (cmpN_le (by omega)) (fun w => ofM_any 1 (by decide) w) (fun w => cmp_any M 1 hM (by decide) w) (fun w => ofM_any 0 (by decide) w)
        (madd_no A B M hA hB hM hn) (msub_no A B M hA hB hM hn) (mmul_no A B M hA hB hM hn) (mexp_no A B M hA hM hn2) (minv_no A M hA hM hn2) w
end Go.Proofs.Ytmhmdbjjmmmgkaa
