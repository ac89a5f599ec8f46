/-
  The walk of LimbsOrder: it answers true, and nothing that was there is changed.
-/
import Derived.Test.YtamglpncdgiocaaEq
import Derived.Deep.DeepCutAuto
namespace Go.Proofs.Ytamglpncdgiocaa
open Go.RowKit
attribute [local go_sem ↓] Go.wp_at_zero Go.wp_at_succ

set_option maxRecDepth 100000 in
set_option maxHeartbeats 8000000 in
theorem order_walk (X Y Z : Nat) (hX : X < 2 ^ 256) (hY : Y < 2 ^ 256) (hZ : Z < 2 ^ 256) (w : World) :
    Calls Try.prog 8 #[.agg #[.int .u64 (wd X 0 : Nat), .int .u64 (wd X 1 : Nat), .int .u64 (wd X 2 : Nat), .int .u64 (wd X 3 : Nat), .int .u64 (wd Y 0 : Nat), .int .u64 (wd Y 1 : Nat), .int .u64 (wd Y 2 : Nat), .int .u64 (wd Y 3 : Nat), .int .u64 (wd Z 0 : Nat), .int .u64 (wd Z 1 : Nat), .int .u64 (wd Z 2 : Nat), .int .u64 (wd Z 3 : Nat)]] w fun e w' => e = .returned (.bool true) ∧ Below w.heap.size w w' := by
  obtain ⟨D, less, hD, hl, eD, C2⟩ := sub_ex X Y hX hY
  obtain ⟨ac, p, hac, hp, eac, C6⟩ := add_ex X Z hX hZ
  obtain ⟨bc, q, hbc, hq, ebc, C7⟩ := add_ex Y Z hY hZ
  have C1 := cmp_any X Y hX hY
  have C3 := cmp_any Y X hY hX
  have C4 := cmp_any Y Z hY hZ
  have C5 := cmp_any X Z hX hZ
  have C8 := cmp_any ac bc hac hbc
  have q0 : ∀ W, (Op.equalIn 10000 24 (num D) (num 0)).run Try.prog W = .ok (decide (X = Y)) W := fun W => by
    rw [eqN D 0 hD (by omega)]; congr 1; rw [decide_eq_decide]; omega
  have q1 : ∀ W, (Op.equalIn 10000 24 (num X) (num Y)).run Try.prog W = .ok (decide (X = Y)) W := fun W => eqN X Y hX hY W
  have k1 : IntKind.i64.wrap (-(cmpN Y X)) = cmpN X Y := by
    rw [IntKind.wrap_i64]; unfold cmpN
    rcases Nat.lt_trichotomy X Y with h | h | h
    · rw [if_neg (by omega), if_neg (by omega), if_pos h]; decide
    · subst h; simp
    · rw [if_pos h, if_neg (by omega), if_neg (by omega)]; decide
  have k2 : (cmpN X Y == -1) = decide (X < Y) := by
    unfold cmpN
    rcases Nat.lt_trichotomy X Y with h | h | h
    · simp [h]
    · subst h; simp
    · rw [if_neg (by omega), if_neg (by omega), decide_eq_false (by omega)]; rfl
  have k3 : (((less : Nat) : Int) == 1) = decide (X < Y) := by
    by_cases h : X < Y
    · have : less = 1 := by omega
      simp [this, h]
    · have : less = 0 := by omega
      simp [this, h]
  have k4 : (cmpN X Y == 0) = decide (X = Y) := by
    unfold cmpN
    rcases Nat.lt_trichotomy X Y with h | h | h
    · rw [if_pos h, decide_eq_false (by omega)]; rfl
    · subst h; simp
    · rw [if_neg (by omega), if_neg (by omega), decide_eq_false (by omega)]; rfl
  have k5 : X < Y → Y < Z → cmpN Y Z = -1 ∧ cmpN X Z = -1 := fun h1 h2 => ⟨cmpN_lt h2, cmpN_lt (by omega)⟩
  have k6 : ¬ Y < Z → 0 ≤ cmpN Y Z := fun h => by unfold cmpN; rw [if_neg h]; split <;> decide
  have k7 : p = 0 → q = 0 → cmpN ac bc = cmpN X Y := fun h1 h2 => by
    rcases Nat.lt_trichotomy X Y with h | h | h
    · rw [cmpN_lt h, cmpN_lt (by omega)]
    · have e : ac = bc := by omega
      rw [h, e, cmpN_eq, cmpN_eq]
    · rw [cmpN_gt h, cmpN_gt (by omega)]
  have k8 : ¬ X < Y → 0 ≤ cmpN X Y := fun h => by unfold cmpN; rw [if_neg h]; split <;> decide
  have k9 : X < Y → cmpN X Y = -1 := fun h => cmpN_lt h
  generalize cmpN X Y = n at *
  generalize cmpN Y X = n' at *
  generalize cmpN Y Z = m at *
  generalize cmpN X Z = m' at *
  generalize cmpN ac bc = n2 at *
  generalize decide (X = Y) = b0 at *
  obtain ⟨b1, hb1⟩ : ∃ b, decide (X < Y) = b := ⟨_, rfl⟩
  rw [hb1] at k2 k3
  clear hb1
  have A1 := Lib.hid C1; have A2 := Lib.hid C2; have A3 := Lib.hid C3; have A4 := Lib.hid C4; have A5 := Lib.hid C5; have A6 := Lib.hid C6; have A7 := Lib.hid C7; have A8 := Lib.hid C8
  have K5 := Lib.hid k5; have K6 := Lib.hid k6; have K7 := Lib.hid k7; have K8 := Lib.hid k8; have K9 := Lib.hid k9
  have HP := Lib.hid hp; have HQ := Lib.hid hq
  clear C1 C2 C3 C4 C5 C6 C7 C8 k5 k6 k7 k8 k9 eD eac ebc hD hl hac hp hbc hq hX hY hZ
  go_enter Try.func8, Try.ntmps8
  go_wp2_with fail
  have Na : At ((((w.alloc (.cells #[.int .u64 (wd X 0 : Nat), .int .u64 (wd X 1 : Nat), .int .u64 (wd X 2 : Nat), .int .u64 (wd X 3 : Nat), .int .u64 (wd Y 0 : Nat), .int .u64 (wd Y 1 : Nat), .int .u64 (wd Y 2 : Nat), .int .u64 (wd Y 3 : Nat), .int .u64 (wd Z 0 : Nat), .int .u64 (wd Z 1 : Nat), .int .u64 (wd Z 2 : Nat), .int .u64 (wd Z 3 : Nat)] 36)).alloc (.cells #[.int .u64 (wd X 0 : Nat), .int .u64 (wd X 1 : Nat), .int .u64 (wd X 2 : Nat), .int .u64 (wd X 3 : Nat)] 24)).alloc (.cells #[.int .u64 (wd Y 0 : Nat), .int .u64 (wd Y 1 : Nat), .int .u64 (wd Y 2 : Nat), .int .u64 (wd Y 3 : Nat)] 24)).alloc (.cells #[.int .u64 (wd Z 0 : Nat), .int .u64 (wd Z 1 : Nat), .int .u64 (wd Z 2 : Nat), .int .u64 (wd Z 3 : Nat)] 24)) (w.heap.size + 1) 24 #[.int .u64 (wd X 0 : Nat), .int .u64 (wd X 1 : Nat), .int .u64 (wd X 2 : Nat), .int .u64 (wd X 3 : Nat)] := ((At.at_ _ _ _ _ (by simp)).alloc _).alloc _
  have Nb : At ((((w.alloc (.cells #[.int .u64 (wd X 0 : Nat), .int .u64 (wd X 1 : Nat), .int .u64 (wd X 2 : Nat), .int .u64 (wd X 3 : Nat), .int .u64 (wd Y 0 : Nat), .int .u64 (wd Y 1 : Nat), .int .u64 (wd Y 2 : Nat), .int .u64 (wd Y 3 : Nat), .int .u64 (wd Z 0 : Nat), .int .u64 (wd Z 1 : Nat), .int .u64 (wd Z 2 : Nat), .int .u64 (wd Z 3 : Nat)] 36)).alloc (.cells #[.int .u64 (wd X 0 : Nat), .int .u64 (wd X 1 : Nat), .int .u64 (wd X 2 : Nat), .int .u64 (wd X 3 : Nat)] 24)).alloc (.cells #[.int .u64 (wd Y 0 : Nat), .int .u64 (wd Y 1 : Nat), .int .u64 (wd Y 2 : Nat), .int .u64 (wd Y 3 : Nat)] 24)).alloc (.cells #[.int .u64 (wd Z 0 : Nat), .int .u64 (wd Z 1 : Nat), .int .u64 (wd Z 2 : Nat), .int .u64 (wd Z 3 : Nat)] 24)) (w.heap.size + 1 + 1) 24 #[.int .u64 (wd Y 0 : Nat), .int .u64 (wd Y 1 : Nat), .int .u64 (wd Y 2 : Nat), .int .u64 (wd Y 3 : Nat)] := (At.at_ _ _ _ _ (by simp)).alloc _
  have Nc : At ((((w.alloc (.cells #[.int .u64 (wd X 0 : Nat), .int .u64 (wd X 1 : Nat), .int .u64 (wd X 2 : Nat), .int .u64 (wd X 3 : Nat), .int .u64 (wd Y 0 : Nat), .int .u64 (wd Y 1 : Nat), .int .u64 (wd Y 2 : Nat), .int .u64 (wd Y 3 : Nat), .int .u64 (wd Z 0 : Nat), .int .u64 (wd Z 1 : Nat), .int .u64 (wd Z 2 : Nat), .int .u64 (wd Z 3 : Nat)] 36)).alloc (.cells #[.int .u64 (wd X 0 : Nat), .int .u64 (wd X 1 : Nat), .int .u64 (wd X 2 : Nat), .int .u64 (wd X 3 : Nat)] 24)).alloc (.cells #[.int .u64 (wd Y 0 : Nat), .int .u64 (wd Y 1 : Nat), .int .u64 (wd Y 2 : Nat), .int .u64 (wd Y 3 : Nat)] 24)).alloc (.cells #[.int .u64 (wd Z 0 : Nat), .int .u64 (wd Z 1 : Nat), .int .u64 (wd Z 2 : Nat), .int .u64 (wd Z 3 : Nat)] 24)) (w.heap.size + 1 + 1 + 1) 24 #[.int .u64 (wd Z 0 : Nat), .int .u64 (wd Z 1 : Nat), .int .u64 (wd Z 2 : Nat), .int .u64 (wd Z 3 : Nat)] := At.at_ _ _ _ _ (by simp)
  have NB : Below w.heap.size w ((((w.alloc (.cells #[.int .u64 (wd X 0 : Nat), .int .u64 (wd X 1 : Nat), .int .u64 (wd X 2 : Nat), .int .u64 (wd X 3 : Nat), .int .u64 (wd Y 0 : Nat), .int .u64 (wd Y 1 : Nat), .int .u64 (wd Y 2 : Nat), .int .u64 (wd Y 3 : Nat), .int .u64 (wd Z 0 : Nat), .int .u64 (wd Z 1 : Nat), .int .u64 (wd Z 2 : Nat), .int .u64 (wd Z 3 : Nat)] 36)).alloc (.cells #[.int .u64 (wd X 0 : Nat), .int .u64 (wd X 1 : Nat), .int .u64 (wd X 2 : Nat), .int .u64 (wd X 3 : Nat)] 24)).alloc (.cells #[.int .u64 (wd Y 0 : Nat), .int .u64 (wd Y 1 : Nat), .int .u64 (wd Y 2 : Nat), .int .u64 (wd Y 3 : Nat)] 24)).alloc (.cells #[.int .u64 (wd Z 0 : Nat), .int .u64 (wd Z 1 : Nat), .int .u64 (wd Z 2 : Nat), .int .u64 (wd Z 3 : Nat)] 24)) := by repeat (first | exact Below.refl _ _ | refine gr_alloc ?_ _ | refine Below.drew ?_ | refine bel_tr ?_ (by assumption))
  generalize ((((w.alloc (.cells #[.int .u64 (wd X 0 : Nat), .int .u64 (wd X 1 : Nat), .int .u64 (wd X 2 : Nat), .int .u64 (wd X 3 : Nat), .int .u64 (wd Y 0 : Nat), .int .u64 (wd Y 1 : Nat), .int .u64 (wd Y 2 : Nat), .int .u64 (wd Y 3 : Nat), .int .u64 (wd Z 0 : Nat), .int .u64 (wd Z 1 : Nat), .int .u64 (wd Z 2 : Nat), .int .u64 (wd Z 3 : Nat)] 36)).alloc (.cells #[.int .u64 (wd X 0 : Nat), .int .u64 (wd X 1 : Nat), .int .u64 (wd X 2 : Nat), .int .u64 (wd X 3 : Nat)] 24)).alloc (.cells #[.int .u64 (wd Y 0 : Nat), .int .u64 (wd Y 1 : Nat), .int .u64 (wd Y 2 : Nat), .int .u64 (wd Y 3 : Nat)] 24)).alloc (.cells #[.int .u64 (wd Z 0 : Nat), .int .u64 (wd Z 1 : Nat), .int .u64 (wd Z 2 : Nat), .int .u64 (wd Z 3 : Nat)] 24)) = W0 at *
  generalize w.heap.size + 1 + 1 + 1 = gc at *
  generalize w.heap.size + 1 + 1 = gb at *
  generalize w.heap.size + 1 = ga at *
  have Fa := Lib.hid Na
  have Fb := Lib.hid Nb
  have Fc := Lib.hid Nc
  have BW := Lib.hid NB
  clear NB Na Nb Nc
  refine (A1.out _).mono ?_
  rintro e v1 ⟨rfl, z1⟩
  have Na := Lib.hid (Fa.out.on z1)
  have Nb := Lib.hid (Fb.out.on z1)
  have Nc := Lib.hid (Fc.out.on z1)
  have NB := Lib.hid (bel_tr BW.out z1)
  clear BW z1 Fa Fb Fc
  have Fa := Na
  have Fb := Nb
  have Fc := Nc
  have BW := NB
  clear NB Na Nb Nc
  have La := Fa.out.lt
  have ca0 : v1.cell? ⟨ga, 0, none⟩ = some (.int .u64 (wd X 0 : Nat)) := Fa.out.cell 0
  have ca1 : v1.cell? ⟨ga, 1, none⟩ = some (.int .u64 (wd X 1 : Nat)) := Fa.out.cell 1
  have ca2 : v1.cell? ⟨ga, 2, none⟩ = some (.int .u64 (wd X 2 : Nat)) := Fa.out.cell 2
  have ca3 : v1.cell? ⟨ga, 3, none⟩ = some (.int .u64 (wd X 3 : Nat)) := Fa.out.cell 3
  have Lb := Fb.out.lt
  have cb0 : v1.cell? ⟨gb, 0, none⟩ = some (.int .u64 (wd Y 0 : Nat)) := Fb.out.cell 0
  have cb1 : v1.cell? ⟨gb, 1, none⟩ = some (.int .u64 (wd Y 1 : Nat)) := Fb.out.cell 1
  have cb2 : v1.cell? ⟨gb, 2, none⟩ = some (.int .u64 (wd Y 2 : Nat)) := Fb.out.cell 2
  have cb3 : v1.cell? ⟨gb, 3, none⟩ = some (.int .u64 (wd Y 3 : Nat)) := Fb.out.cell 3
  go_wp2_with fail
  clear La ca0 ca1 ca2 ca3 Lb cb0 cb1 cb2 cb3
  refine (A2.out _).mono ?_
  rintro e v2 ⟨rfl, z2⟩
  have Na := Lib.hid (Fa.out.on z2)
  have Nb := Lib.hid (Fb.out.on z2)
  have Nc := Lib.hid (Fc.out.on z2)
  have NB := Lib.hid (bel_tr BW.out z2)
  clear BW z2 Fa Fb Fc
  have Fa := Na
  have Fb := Nb
  have Fc := Nc
  have BW := NB
  clear NB Na Nb Nc
  go_wp2_with fail
  have Nd : At (v2.alloc (.cells #[.int .u64 (wd D 0 : Nat), .int .u64 (wd D 1 : Nat), .int .u64 (wd D 2 : Nat), .int .u64 (wd D 3 : Nat)] 24)) (v2.heap.size) 24 #[.int .u64 (wd D 0 : Nat), .int .u64 (wd D 1 : Nat), .int .u64 (wd D 2 : Nat), .int .u64 (wd D 3 : Nat)] := At.at_ _ _ _ _ (by simp)
  have Na : At (v2.alloc (.cells #[.int .u64 (wd D 0 : Nat), .int .u64 (wd D 1 : Nat), .int .u64 (wd D 2 : Nat), .int .u64 (wd D 3 : Nat)] 24)) ga 24 #[.int .u64 (wd X 0 : Nat), .int .u64 (wd X 1 : Nat), .int .u64 (wd X 2 : Nat), .int .u64 (wd X 3 : Nat)] := Fa.out.alloc _
  have Nb : At (v2.alloc (.cells #[.int .u64 (wd D 0 : Nat), .int .u64 (wd D 1 : Nat), .int .u64 (wd D 2 : Nat), .int .u64 (wd D 3 : Nat)] 24)) gb 24 #[.int .u64 (wd Y 0 : Nat), .int .u64 (wd Y 1 : Nat), .int .u64 (wd Y 2 : Nat), .int .u64 (wd Y 3 : Nat)] := Fb.out.alloc _
  have Nc : At (v2.alloc (.cells #[.int .u64 (wd D 0 : Nat), .int .u64 (wd D 1 : Nat), .int .u64 (wd D 2 : Nat), .int .u64 (wd D 3 : Nat)] 24)) gc 24 #[.int .u64 (wd Z 0 : Nat), .int .u64 (wd Z 1 : Nat), .int .u64 (wd Z 2 : Nat), .int .u64 (wd Z 3 : Nat)] := Fc.out.alloc _
  have NB : Below w.heap.size w (v2.alloc (.cells #[.int .u64 (wd D 0 : Nat), .int .u64 (wd D 1 : Nat), .int .u64 (wd D 2 : Nat), .int .u64 (wd D 3 : Nat)] 24)) := gr_alloc BW.out _
  clear BW Fa Fb Fc
  generalize (v2.alloc (.cells #[.int .u64 (wd D 0 : Nat), .int .u64 (wd D 1 : Nat), .int .u64 (wd D 2 : Nat), .int .u64 (wd D 3 : Nat)] 24)) = W3 at *
  generalize v2.heap.size = gd at *
  have Fa := Lib.hid Na
  have Fb := Lib.hid Nb
  have Fc := Lib.hid Nc
  have Fd := Lib.hid Nd
  have BW := Lib.hid NB
  clear NB Na Nb Nc Nd
  have HK : ∀ w', Below W3.heap.size W3 w' → (w'.cell? ⟨gb, 0, none⟩ = some (.int .u64 (wd Y 0 : Nat)) ∧ w'.cell? ⟨gb, 1, none⟩ = some (.int .u64 (wd Y 1 : Nat)) ∧ w'.cell? ⟨gb, 2, none⟩ = some (.int .u64 (wd Y 2 : Nat)) ∧ w'.cell? ⟨gb, 3, none⟩ = some (.int .u64 (wd Y 3 : Nat)) ∧ w'.cell? ⟨ga, 0, none⟩ = some (.int .u64 (wd X 0 : Nat)) ∧ w'.cell? ⟨ga, 1, none⟩ = some (.int .u64 (wd X 1 : Nat)) ∧ w'.cell? ⟨ga, 2, none⟩ = some (.int .u64 (wd X 2 : Nat)) ∧ w'.cell? ⟨ga, 3, none⟩ = some (.int .u64 (wd X 3 : Nat)) ∧ w'.cell? ⟨gd, 0, none⟩ = some (.int .u64 (wd D 0 : Nat)) ∧ w'.cell? ⟨gd, 1, none⟩ = some (.int .u64 (wd D 1 : Nat)) ∧ w'.cell? ⟨gd, 2, none⟩ = some (.int .u64 (wd D 2 : Nat)) ∧ w'.cell? ⟨gd, 3, none⟩ = some (.int .u64 (wd D 3 : Nat)) ∧ Below W3.heap.size W3 w') := fun w' h => ⟨cell_on h (Fb.out.cell 0), cell_on h (Fb.out.cell 1), cell_on h (Fb.out.cell 2), cell_on h (Fb.out.cell 3), cell_on h (Fa.out.cell 0), cell_on h (Fa.out.cell 1), cell_on h (Fa.out.cell 2), cell_on h (Fa.out.cell 3), cell_on h (Fd.out.cell 0), cell_on h (Fd.out.cell 1), cell_on h (Fd.out.cell 2), cell_on h (Fd.out.cell 3), h⟩
  try simp only [List.append_eq, List.cons_append, List.nil_append]
  have B4_0 : Below W3.heap.size W3 W3.drew := (Below.refl _ _).drew
  refine wp_region_noPanic ?_
  refine wp_region_held_drew (S := fun w' => w'.cell? ⟨gb, 0, none⟩ = some (.int .u64 (wd Y 0 : Nat)) ∧ w'.cell? ⟨gb, 1, none⟩ = some (.int .u64 (wd Y 1 : Nat)) ∧ w'.cell? ⟨gb, 2, none⟩ = some (.int .u64 (wd Y 2 : Nat)) ∧ w'.cell? ⟨gb, 3, none⟩ = some (.int .u64 (wd Y 3 : Nat)) ∧ w'.cell? ⟨ga, 0, none⟩ = some (.int .u64 (wd X 0 : Nat)) ∧ w'.cell? ⟨ga, 1, none⟩ = some (.int .u64 (wd X 1 : Nat)) ∧ w'.cell? ⟨ga, 2, none⟩ = some (.int .u64 (wd X 2 : Nat)) ∧ w'.cell? ⟨ga, 3, none⟩ = some (.int .u64 (wd X 3 : Nat)) ∧ w'.cell? ⟨gd, 0, none⟩ = some (.int .u64 (wd D 0 : Nat)) ∧ w'.cell? ⟨gd, 1, none⟩ = some (.int .u64 (wd D 1 : Nat)) ∧ w'.cell? ⟨gd, 2, none⟩ = some (.int .u64 (wd D 2 : Nat)) ∧ w'.cell? ⟨gd, 3, none⟩ = some (.int .u64 (wd D 3 : Nat)) ∧ Below W3.heap.size W3 w') (by kernel_rfl) (HK _ B4_0) (fun hHeld => ?_)
  refine wpAnyH_ready (rs := [0]) (by kernel_rfl) (by simp) ?_
  refine AllReadyH.cons (o := ?_) ?_ ?_ AllReadyH.nil
  rotate_left
  · simp only [List.getElem?_toArray, List.getElem?_cons_succ, List.getElem?_cons_zero]; exact rfl
  intro K hK
  go_simp
  refine (alive_any _).mono ?_
  rintro e u4_1 ⟨rfl, y1⟩
  have B4_1 : Below W3.heap.size W3 u4_1 := bel_tr B4_0 y1
  clear y1 B4_0 hHeld
  refine hK.out _ _ (HK _ B4_1) (fun hHeld => ?_)
  clear hK K
  try simp only [Act.put, List.setIfInBounds_toArray, List.set_cons_zero, List.set_cons_succ]
  refine wpAnyH_take (i := 1) (oi := ?_) (v := ?_) ?_ (by kernel_rfl) (by kernel_rfl) (by kernel_rfl) (fun _ _ _ h => h) ?_ (by assumption) ?_
  rotate_left 2
  · simp only [List.getElem?_toArray, List.getElem?_cons_succ, List.getElem?_cons_zero]; exact rfl
  · refine Or.inl ⟨by rfl, ?_⟩; intro w hSw; (try dsimp only at hSw); go_simp; try with_reducible rfl
  try simp only [Act.put, List.setIfInBounds_toArray, List.set_cons_zero, List.set_cons_succ]
  refine wpAnyH_take (i := 2) (oi := ?_) (v := ?_) ?_ (by kernel_rfl) (by kernel_rfl) (by kernel_rfl) (fun _ _ _ h => h) ?_ (by assumption) ?_
  rotate_left 2
  · simp only [List.getElem?_toArray, List.getElem?_cons_succ, List.getElem?_cons_zero]; exact rfl
  · refine Or.inl ⟨by rfl, ?_⟩; intro w hSw; (try dsimp only at hSw); go_simp; try with_reducible rfl
  try simp only [Act.put, List.setIfInBounds_toArray, List.set_cons_zero, List.set_cons_succ]
  refine wpAnyH_take (i := 3) (oi := ?_) (v := ?_) ?_ (by kernel_rfl) (by kernel_rfl) (by kernel_rfl) (fun _ _ _ h => h) ?_ (by assumption) ?_
  rotate_left 2
  · simp only [List.getElem?_toArray, List.getElem?_cons_succ, List.getElem?_cons_zero]; exact rfl
  · refine Or.inl ⟨by rfl, ?_⟩; intro w hSw; (try dsimp only at hSw); go_simp; try with_reducible rfl
  try simp only [Act.put, List.setIfInBounds_toArray, List.set_cons_zero, List.set_cons_succ]
  refine wpAnyH_take (i := 4) (oi := ?_) (v := ?_) ?_ (by kernel_rfl) (by kernel_rfl) (by kernel_rfl) (fun _ _ _ h => h) ?_ (by assumption) ?_
  rotate_left 2
  · simp only [List.getElem?_toArray, List.getElem?_cons_succ, List.getElem?_cons_zero]; exact rfl
  · refine Or.inl ⟨by rfl, ?_⟩; intro w hSw; (try dsimp only at hSw); go_simp; try with_reducible rfl
  try simp only [Act.put, List.setIfInBounds_toArray, List.set_cons_zero, List.set_cons_succ]
  refine wpAnyH_take (i := 5) (oi := ?_) (v := ?_) ?_ (by kernel_rfl) (by kernel_rfl) (by kernel_rfl) (fun _ _ _ h => h) ?_ (by assumption) ?_
  rotate_left 2
  · simp only [List.getElem?_toArray, List.getElem?_cons_succ, List.getElem?_cons_zero]; exact rfl
  · refine Or.inl ⟨by rfl, ?_⟩; intro w hSw; (try dsimp only at hSw); go_simp; try with_reducible rfl
  try simp only [Act.put, List.setIfInBounds_toArray, List.set_cons_zero, List.set_cons_succ]
  refine wpAnyH_ready (rs := [6]) (by kernel_rfl) (by simp) ?_
  refine AllReadyH.cons (o := ?_) ?_ ?_ AllReadyH.nil
  rotate_left
  · simp only [List.getElem?_toArray, List.getElem?_cons_succ, List.getElem?_cons_zero]; exact rfl
  intro K hK
  go_simp
  refine (A3.out _).mono ?_
  rintro e u4_2 ⟨rfl, y2⟩
  have B4_2 : Below W3.heap.size W3 u4_2 := bel_tr B4_1 y2
  clear y2 B4_1 hHeld
  refine hK.out _ _ (HK _ B4_2) (fun hHeld => ?_)
  clear hK K
  try simp only [Act.put, List.setIfInBounds_toArray, List.set_cons_zero, List.set_cons_succ]
  refine wpAnyH_take (i := 7) (oi := ?_) (v := ?_) ?_ (by kernel_rfl) (by kernel_rfl) (by kernel_rfl) (fun _ _ _ h => h) ?_ (by assumption) ?_
  rotate_left 2
  · simp only [List.getElem?_toArray, List.getElem?_cons_succ, List.getElem?_cons_zero]; exact rfl
  · refine Or.inl ⟨by rfl, ?_⟩; intro w hSw; (try dsimp only at hSw); go_simp; try with_reducible rfl
  try simp only [Act.put, List.setIfInBounds_toArray, List.set_cons_zero, List.set_cons_succ]
  refine wpAnyH_take (i := 8) (oi := ?_) (v := ?_) ?_ (by kernel_rfl) (by kernel_rfl) (by kernel_rfl) (fun _ _ _ h => h) ?_ (by assumption) ?_
  rotate_left 2
  · simp only [List.getElem?_toArray, List.getElem?_cons_succ, List.getElem?_cons_zero]; exact rfl
  · refine Or.inl ⟨by rfl, ?_⟩; intro w hSw; (try dsimp only at hSw); go_simp; try with_reducible rfl
  try simp only [Act.put, List.setIfInBounds_toArray, List.set_cons_zero, List.set_cons_succ]
  refine wpAnyH_take (i := 9) (oi := ?_) (v := ?_) ?_ (by kernel_rfl) (by kernel_rfl) (by kernel_rfl) (fun _ _ _ h => h) ?_ (by assumption) ?_
  rotate_left 2
  · simp only [List.getElem?_toArray, List.getElem?_cons_succ, List.getElem?_cons_zero]; exact rfl
  · refine Or.inl ⟨by rfl, ?_⟩; intro w hSw; (try dsimp only at hSw); go_simp; try with_reducible rfl
  try simp only [Act.put, List.setIfInBounds_toArray, List.set_cons_zero, List.set_cons_succ]
  refine wpAnyH_take (i := 10) (oi := ?_) (v := ?_) ?_ (by kernel_rfl) (by kernel_rfl) (by kernel_rfl) (fun _ _ _ h => h) ?_ (by assumption) ?_
  rotate_left 2
  · simp only [List.getElem?_toArray, List.getElem?_cons_succ, List.getElem?_cons_zero]; exact rfl
  · refine Or.inl ⟨by rfl, ?_⟩; intro w hSw; (try dsimp only at hSw); go_simp; try with_reducible rfl
  try simp only [Act.put, List.setIfInBounds_toArray, List.set_cons_zero, List.set_cons_succ]
  refine wpAnyH_take (i := 11) (oi := ?_) (v := ?_) ?_ (by kernel_rfl) (by kernel_rfl) (by kernel_rfl) (fun _ _ _ h => h) ?_ (by assumption) ?_
  rotate_left 2
  · simp only [List.getElem?_toArray, List.getElem?_cons_succ, List.getElem?_cons_zero]; exact rfl
  · refine Or.inl ⟨by rfl, ?_⟩; intro w hSw; (try dsimp only at hSw); go_simp; try with_reducible rfl
  try simp only [Act.put, List.setIfInBounds_toArray, List.set_cons_zero, List.set_cons_succ]
  refine wpAnyH_take (i := 12) (oi := ?_) (v := ?_) ?_ (by kernel_rfl) (by kernel_rfl) (by kernel_rfl) (fun _ _ _ h => h) ?_ (by assumption) ?_
  rotate_left 2
  · simp only [List.getElem?_toArray, List.getElem?_cons_succ, List.getElem?_cons_zero]; exact rfl
  · refine Or.inl ⟨by rfl, ?_⟩; intro w hSw; (try dsimp only at hSw); go_simp; try with_reducible rfl
  try simp only [Act.put, List.setIfInBounds_toArray, List.set_cons_zero, List.set_cons_succ]
  refine wpAnyH_take (i := 13) (oi := ?_) (v := ?_) ?_ (by kernel_rfl) (by kernel_rfl) (by kernel_rfl) (fun _ _ _ h => h) ?_ (by assumption) ?_
  rotate_left 2
  · simp only [List.getElem?_toArray, List.getElem?_cons_succ, List.getElem?_cons_zero]; exact rfl
  · refine Or.inl ⟨by rfl, ?_⟩; intro w hSw; (try dsimp only at hSw); go_simp; try with_reducible rfl
  try simp only [Act.put, List.setIfInBounds_toArray, List.set_cons_zero, List.set_cons_succ]
  refine wpAnyH_take (i := 14) (oi := ?_) (v := ?_) ?_ (by kernel_rfl) (by kernel_rfl) (by kernel_rfl) (fun _ _ _ h => h) ?_ (by assumption) ?_
  rotate_left 2
  · simp only [List.getElem?_toArray, List.getElem?_cons_succ, List.getElem?_cons_zero]; exact rfl
  · refine Or.inl ⟨by rfl, ?_⟩; intro w hSw; (try dsimp only at hSw); go_simp; try with_reducible rfl
  try simp only [Act.put, List.setIfInBounds_toArray, List.set_cons_zero, List.set_cons_succ]
  refine wpAnyH_take (i := 15) (oi := ?_) (v := ?_) ?_ (by kernel_rfl) (by kernel_rfl) (by kernel_rfl) (fun _ _ _ h => h) ?_ (by assumption) ?_
  rotate_left 2
  · simp only [List.getElem?_toArray, List.getElem?_cons_succ, List.getElem?_cons_zero]; exact rfl
  · refine Or.inl ⟨by rfl, ?_⟩; intro w hSw; (try dsimp only at hSw); go_simp; try with_reducible rfl
  try simp only [Act.put, List.setIfInBounds_toArray, List.set_cons_zero, List.set_cons_succ]
  refine wpAnyH_take (i := 16) (oi := ?_) (v := ?_) ?_ (by kernel_rfl) (by kernel_rfl) (by kernel_rfl) (fun _ _ _ h => h) ?_ (by assumption) ?_
  rotate_left 2
  · simp only [List.getElem?_toArray, List.getElem?_cons_succ, List.getElem?_cons_zero]; exact rfl
  · refine Or.inl ⟨by rfl, ?_⟩; intro w hSw; (try dsimp only at hSw); go_simp; try with_reducible rfl
  try simp only [Act.put, List.setIfInBounds_toArray, List.set_cons_zero, List.set_cons_succ]
  refine wpAnyH_take (i := 17) (oi := ?_) (v := ?_) ?_ (by kernel_rfl) (by kernel_rfl) (by kernel_rfl) (fun _ _ _ h => h) ?_ (by assumption) ?_
  rotate_left 2
  · simp only [List.getElem?_toArray, List.getElem?_cons_succ, List.getElem?_cons_zero]; exact rfl
  · refine Or.inl ⟨by rfl, ?_⟩; intro w hSw; (try dsimp only at hSw); go_simp; try with_reducible rfl
  try simp only [Act.put, List.setIfInBounds_toArray, List.set_cons_zero, List.set_cons_succ]
  refine wpAnyH_take (i := 18) (oi := ?_) (v := ?_) ?_ (by kernel_rfl) (by kernel_rfl) (by kernel_rfl) (fun _ _ _ h => h) ?_ (by assumption) ?_
  rotate_left 2
  · simp only [List.getElem?_toArray, List.getElem?_cons_succ, List.getElem?_cons_zero]; exact rfl
  · refine Or.inl ⟨by rfl, ?_⟩; intro w hSw; (try dsimp only at hSw); go_simp; try with_reducible rfl
  try simp only [Act.put, List.setIfInBounds_toArray, List.set_cons_zero, List.set_cons_succ]
  refine wpAnyH_take (i := 19) (oi := ?_) (v := ?_) ?_ (by kernel_rfl) (by kernel_rfl) (by kernel_rfl) (fun _ _ _ h => h) ?_ (by assumption) ?_
  rotate_left 2
  · simp only [List.getElem?_toArray, List.getElem?_cons_succ, List.getElem?_cons_zero]; exact rfl
  · refine Or.inl ⟨by rfl, ?_⟩; intro w hSw; (try dsimp only at hSw); go_simp; try with_reducible rfl
  try simp only [Act.put, List.setIfInBounds_toArray, List.set_cons_zero, List.set_cons_succ]
  refine wpAnyH_take (i := 20) (oi := ?_) (v := ?_) ?_ (by kernel_rfl) (by kernel_rfl) (by kernel_rfl) (fun _ _ _ h => h) ?_ (by assumption) ?_
  rotate_left 2
  · simp only [List.getElem?_toArray, List.getElem?_cons_succ, List.getElem?_cons_zero]; exact rfl
  · refine Or.inl ⟨by rfl, ?_⟩; intro w hSw; (try dsimp only at hSw); go_simp; try with_reducible rfl
  try simp only [Act.put, List.setIfInBounds_toArray, List.set_cons_zero, List.set_cons_succ]
  refine wpAnyH_ready (rs := [21]) (by kernel_rfl) (by simp) ?_
  refine AllReadyH.cons (o := ?_) ?_ ?_ AllReadyH.nil
  rotate_left
  · simp only [List.getElem?_toArray, List.getElem?_cons_succ, List.getElem?_cons_zero]; exact rfl
  intro K hK
  go_simp
  refine (of0N _).mono ?_
  rintro e u4_3 ⟨rfl, y3⟩
  have B4_3 : Below W3.heap.size W3 u4_3 := bel_tr B4_2 y3
  clear y3 B4_2 hHeld
  refine hK.out _ _ (HK _ B4_3) (fun hHeld => ?_)
  clear hK K
  try simp only [Act.put, List.setIfInBounds_toArray, List.set_cons_zero, List.set_cons_succ]
  refine wpAnyH_take (i := 22) (oi := ?_) (v := ?_) ?_ (by kernel_rfl) (by kernel_rfl) (by kernel_rfl) (fun _ _ _ h => h) ?_ (by assumption) ?_
  rotate_left 2
  · simp only [List.getElem?_toArray, List.getElem?_cons_succ, List.getElem?_cons_zero]; exact rfl
  · refine Or.inl ⟨by rfl, ?_⟩; intro w hSw; (try dsimp only at hSw); go_simp; try with_reducible rfl
  try simp only [Act.put, List.setIfInBounds_toArray, List.set_cons_zero, List.set_cons_succ]
  refine wpAnyH_take (i := 23) (oi := ?_) (v := ?_) ?_ (by kernel_rfl) (by kernel_rfl) (by kernel_rfl) (fun _ _ _ h => h) ?_ (by assumption) ?_
  rotate_left 2
  · simp only [List.getElem?_toArray, List.getElem?_cons_succ, List.getElem?_cons_zero]; exact rfl
  · refine Or.inl ⟨by rfl, ?_⟩; intro w hSw; (try dsimp only at hSw); go_simp; try with_reducible rfl
  try simp only [Act.put, List.setIfInBounds_toArray, List.set_cons_zero, List.set_cons_succ]
  refine wpAnyH_take (i := 24) (oi := ?_) (v := ?_) ?_ (by kernel_rfl) (by kernel_rfl) (by kernel_rfl) (fun _ _ _ h => h) ?_ (by assumption) ?_
  rotate_left 2
  · simp only [List.getElem?_toArray, List.getElem?_cons_succ, List.getElem?_cons_zero]; exact rfl
  · refine Or.inl ⟨by rfl, ?_⟩; intro w hSw; (try dsimp only at hSw); go_simp; try with_reducible rfl
  try simp only [Act.put, List.setIfInBounds_toArray, List.set_cons_zero, List.set_cons_succ]
  refine wpAnyH_take (i := 25) (oi := ?_) (v := ?_) ?_ (by kernel_rfl) (by kernel_rfl) (by kernel_rfl) (fun _ _ _ h => h) ?_ (by assumption) ?_
  rotate_left 2
  · simp only [List.getElem?_toArray, List.getElem?_cons_succ, List.getElem?_cons_zero]; exact rfl
  · refine Or.inl ⟨by rfl, ?_⟩; intro w hSw; (try dsimp only at hSw); go_simp; try with_reducible rfl
  try simp only [Act.put, List.setIfInBounds_toArray, List.set_cons_zero, List.set_cons_succ]
  refine wpAnyH_take (i := 26) (oi := ?_) (v := ?_) ?_ (by kernel_rfl) (by kernel_rfl) (by kernel_rfl) (fun _ _ _ h => h) ?_ (by assumption) ?_
  rotate_left 2
  · simp only [List.getElem?_toArray, List.getElem?_cons_succ, List.getElem?_cons_zero]; exact rfl
  · refine Or.inl ⟨by rfl, ?_⟩; intro w hSw; (try dsimp only at hSw); go_simp; try with_reducible rfl
  try simp only [Act.put, List.setIfInBounds_toArray, List.set_cons_zero, List.set_cons_succ]
  refine wpAnyH_take (i := 27) (oi := ?_) (v := ?_) ?_ (by kernel_rfl) (by kernel_rfl) (by kernel_rfl) (fun _ _ _ h => h) ?_ (by assumption) ?_
  rotate_left 2
  · simp only [List.getElem?_toArray, List.getElem?_cons_succ, List.getElem?_cons_zero]; exact rfl
  · refine Or.inl ⟨by rfl, ?_⟩; intro w hSw; (try dsimp only at hSw); go_simp; try with_reducible rfl
  try simp only [Act.put, List.setIfInBounds_toArray, List.set_cons_zero, List.set_cons_succ]
  refine wpAnyH_take (i := 28) (oi := ?_) (v := ?_) ?_ (by kernel_rfl) (by kernel_rfl) (by kernel_rfl) (fun _ _ _ h => h) ?_ (by assumption) ?_
  rotate_left 2
  · simp only [List.getElem?_toArray, List.getElem?_cons_succ, List.getElem?_cons_zero]; exact rfl
  · refine Or.inl ⟨by rfl, ?_⟩; intro w hSw; (try dsimp only at hSw); go_simp; try with_reducible rfl
  try simp only [Act.put, List.setIfInBounds_toArray, List.set_cons_zero, List.set_cons_succ]
  refine wpAnyH_take (i := 29) (oi := ?_) (v := ?_) ?_ (by kernel_rfl) (by kernel_rfl) (by kernel_rfl) (fun _ _ _ h => h) ?_ (by assumption) ?_
  rotate_left 2
  · simp only [List.getElem?_toArray, List.getElem?_cons_succ, List.getElem?_cons_zero]; exact rfl
  · refine Or.inl ⟨by rfl, ?_⟩; intro w hSw; (try dsimp only at hSw); go_simp; try with_reducible rfl
  try simp only [Act.put, List.setIfInBounds_toArray, List.set_cons_zero, List.set_cons_succ]
  refine wpAnyH_take (i := 30) (oi := ?_) (v := ?_) ?_ (by kernel_rfl) (by kernel_rfl) (by kernel_rfl) (fun _ _ _ h => h) ?_ (by assumption) ?_
  rotate_left 2
  · simp only [List.getElem?_toArray, List.getElem?_cons_succ, List.getElem?_cons_zero]; exact rfl
  · refine Or.inl ⟨by rfl, ?_⟩; intro w hSw; (try dsimp only at hSw); go_simp; try with_reducible rfl
  try simp only [Act.put, List.setIfInBounds_toArray, List.set_cons_zero, List.set_cons_succ]
  refine wpAnyH_take (i := 31) (oi := ?_) (v := ?_) ?_ (by kernel_rfl) (by kernel_rfl) (by kernel_rfl) (fun _ _ _ h => h) ?_ (by assumption) ?_
  rotate_left 2
  · simp only [List.getElem?_toArray, List.getElem?_cons_succ, List.getElem?_cons_zero]; exact rfl
  · refine Or.inl ⟨by rfl, ?_⟩; intro w hSw; (try dsimp only at hSw); go_simp; try with_reducible rfl
  try simp only [Act.put, List.setIfInBounds_toArray, List.set_cons_zero, List.set_cons_succ]
  refine wpAnyH_take (i := 32) (oi := ?_) (v := ?_) ?_ (by kernel_rfl) (by kernel_rfl) (by kernel_rfl) (fun _ _ _ h => h) ?_ (by assumption) ?_
  rotate_left 2
  · simp only [List.getElem?_toArray, List.getElem?_cons_succ, List.getElem?_cons_zero]; exact rfl
  · refine Or.inl ⟨by rfl, ?_⟩; intro w hSw; (try dsimp only at hSw); go_simp; try with_reducible rfl
  try simp only [Act.put, List.setIfInBounds_toArray, List.set_cons_zero, List.set_cons_succ]
  refine wpAnyH_done (by kernel_rfl) ?_ _
  refine NoPanic.normal ?_
  clear HK
  have Na := Fa.out.on B4_3
  have Nb := Fb.out.on B4_3
  have Nc := Fc.out.on B4_3
  have Nd := Fd.out.on B4_3
  have NB := bel_tr BW.out B4_3
  clear BW hHeld B4_3 Fa Fb Fc Fd
  have Fa := Lib.hid Na
  have Fb := Lib.hid Nb
  have Fc := Lib.hid Nc
  have Fd := Lib.hid Nd
  have BW := Lib.hid NB
  clear NB Na Nb Nc Nd
  clear Fd
  clear k1 k2 k3 k4 q0 q1
  by_cases hlt : X < Y
  · have hn := K9.out hlt
    subst hn
    by_cases h2 : Y < Z
    · obtain ⟨r1, r2⟩ := K5.out hlt h2
      subst r1 r2
      clear hlt h2
      have Lb := Fb.out.lt
      have cb0 : u4_3.cell? ⟨gb, 0, none⟩ = some (.int .u64 (wd Y 0 : Nat)) := Fb.out.cell 0
      have cb1 : u4_3.cell? ⟨gb, 1, none⟩ = some (.int .u64 (wd Y 1 : Nat)) := Fb.out.cell 1
      have cb2 : u4_3.cell? ⟨gb, 2, none⟩ = some (.int .u64 (wd Y 2 : Nat)) := Fb.out.cell 2
      have cb3 : u4_3.cell? ⟨gb, 3, none⟩ = some (.int .u64 (wd Y 3 : Nat)) := Fb.out.cell 3
      have Lc := Fc.out.lt
      have cc0 : u4_3.cell? ⟨gc, 0, none⟩ = some (.int .u64 (wd Z 0 : Nat)) := Fc.out.cell 0
      have cc1 : u4_3.cell? ⟨gc, 1, none⟩ = some (.int .u64 (wd Z 1 : Nat)) := Fc.out.cell 1
      have cc2 : u4_3.cell? ⟨gc, 2, none⟩ = some (.int .u64 (wd Z 2 : Nat)) := Fc.out.cell 2
      have cc3 : u4_3.cell? ⟨gc, 3, none⟩ = some (.int .u64 (wd Z 3 : Nat)) := Fc.out.cell 3
      go_wp2_with fail
      clear Lb cb0 cb1 cb2 cb3 Lc cc0 cc1 cc2 cc3
      refine (A4.out _).mono ?_
      rintro e v5 ⟨rfl, z5⟩
      have Na := Lib.hid (Fa.out.on z5)
      have Nb := Lib.hid (Fb.out.on z5)
      have Nc := Lib.hid (Fc.out.on z5)
      have NB := Lib.hid (bel_tr BW.out z5)
      clear BW z5 Fa Fb Fc
      have Fa := Na
      have Fb := Nb
      have Fc := Nc
      have BW := NB
      clear NB Na Nb Nc
      have La := Fa.out.lt
      have ca0 : v5.cell? ⟨ga, 0, none⟩ = some (.int .u64 (wd X 0 : Nat)) := Fa.out.cell 0
      have ca1 : v5.cell? ⟨ga, 1, none⟩ = some (.int .u64 (wd X 1 : Nat)) := Fa.out.cell 1
      have ca2 : v5.cell? ⟨ga, 2, none⟩ = some (.int .u64 (wd X 2 : Nat)) := Fa.out.cell 2
      have ca3 : v5.cell? ⟨ga, 3, none⟩ = some (.int .u64 (wd X 3 : Nat)) := Fa.out.cell 3
      have Lc := Fc.out.lt
      have cc0 : v5.cell? ⟨gc, 0, none⟩ = some (.int .u64 (wd Z 0 : Nat)) := Fc.out.cell 0
      have cc1 : v5.cell? ⟨gc, 1, none⟩ = some (.int .u64 (wd Z 1 : Nat)) := Fc.out.cell 1
      have cc2 : v5.cell? ⟨gc, 2, none⟩ = some (.int .u64 (wd Z 2 : Nat)) := Fc.out.cell 2
      have cc3 : v5.cell? ⟨gc, 3, none⟩ = some (.int .u64 (wd Z 3 : Nat)) := Fc.out.cell 3
      go_wp2_with fail
      clear La ca0 ca1 ca2 ca3 Lc cc0 cc1 cc2 cc3
      refine (A5.out _).mono ?_
      rintro e v6 ⟨rfl, z6⟩
      have Na := Lib.hid (Fa.out.on z6)
      have Nb := Lib.hid (Fb.out.on z6)
      have Nc := Lib.hid (Fc.out.on z6)
      have NB := Lib.hid (bel_tr BW.out z6)
      clear BW z6 Fa Fb Fc
      have Fa := Na
      have Fb := Nb
      have Fc := Nc
      have BW := NB
      clear NB Na Nb Nc
      have La := Fa.out.lt
      have ca0 : v6.cell? ⟨ga, 0, none⟩ = some (.int .u64 (wd X 0 : Nat)) := Fa.out.cell 0
      have ca1 : v6.cell? ⟨ga, 1, none⟩ = some (.int .u64 (wd X 1 : Nat)) := Fa.out.cell 1
      have ca2 : v6.cell? ⟨ga, 2, none⟩ = some (.int .u64 (wd X 2 : Nat)) := Fa.out.cell 2
      have ca3 : v6.cell? ⟨ga, 3, none⟩ = some (.int .u64 (wd X 3 : Nat)) := Fa.out.cell 3
      have Lc := Fc.out.lt
      have cc0 : v6.cell? ⟨gc, 0, none⟩ = some (.int .u64 (wd Z 0 : Nat)) := Fc.out.cell 0
      have cc1 : v6.cell? ⟨gc, 1, none⟩ = some (.int .u64 (wd Z 1 : Nat)) := Fc.out.cell 1
      have cc2 : v6.cell? ⟨gc, 2, none⟩ = some (.int .u64 (wd Z 2 : Nat)) := Fc.out.cell 2
      have cc3 : v6.cell? ⟨gc, 3, none⟩ = some (.int .u64 (wd Z 3 : Nat)) := Fc.out.cell 3
      go_wp2_with fail
      clear La ca0 ca1 ca2 ca3 Lc cc0 cc1 cc2 cc3
      refine (A6.out _).mono ?_
      rintro e v7 ⟨rfl, z7⟩
      have Na := Lib.hid (Fa.out.on z7)
      have Nb := Lib.hid (Fb.out.on z7)
      have Nc := Lib.hid (Fc.out.on z7)
      have NB := Lib.hid (bel_tr BW.out z7)
      clear BW z7 Fa Fb Fc
      have Fa := Na
      have Fb := Nb
      have Fc := Nc
      have BW := NB
      clear NB Na Nb Nc
      have Lb := Fb.out.lt
      have cb0 : v7.cell? ⟨gb, 0, none⟩ = some (.int .u64 (wd Y 0 : Nat)) := Fb.out.cell 0
      have cb1 : v7.cell? ⟨gb, 1, none⟩ = some (.int .u64 (wd Y 1 : Nat)) := Fb.out.cell 1
      have cb2 : v7.cell? ⟨gb, 2, none⟩ = some (.int .u64 (wd Y 2 : Nat)) := Fb.out.cell 2
      have cb3 : v7.cell? ⟨gb, 3, none⟩ = some (.int .u64 (wd Y 3 : Nat)) := Fb.out.cell 3
      have Lc := Fc.out.lt
      have cc0 : v7.cell? ⟨gc, 0, none⟩ = some (.int .u64 (wd Z 0 : Nat)) := Fc.out.cell 0
      have cc1 : v7.cell? ⟨gc, 1, none⟩ = some (.int .u64 (wd Z 1 : Nat)) := Fc.out.cell 1
      have cc2 : v7.cell? ⟨gc, 2, none⟩ = some (.int .u64 (wd Z 2 : Nat)) := Fc.out.cell 2
      have cc3 : v7.cell? ⟨gc, 3, none⟩ = some (.int .u64 (wd Z 3 : Nat)) := Fc.out.cell 3
      go_wp2_with fail
      clear Lb cb0 cb1 cb2 cb3 Lc cc0 cc1 cc2 cc3
      have Nac : At (v7.alloc (.cells #[.int .u64 (wd ac 0 : Nat), .int .u64 (wd ac 1 : Nat), .int .u64 (wd ac 2 : Nat), .int .u64 (wd ac 3 : Nat)] 24)) (v7.heap.size) 24 #[.int .u64 (wd ac 0 : Nat), .int .u64 (wd ac 1 : Nat), .int .u64 (wd ac 2 : Nat), .int .u64 (wd ac 3 : Nat)] := At.at_ _ _ _ _ (by simp)
      have Na : At (v7.alloc (.cells #[.int .u64 (wd ac 0 : Nat), .int .u64 (wd ac 1 : Nat), .int .u64 (wd ac 2 : Nat), .int .u64 (wd ac 3 : Nat)] 24)) ga 24 #[.int .u64 (wd X 0 : Nat), .int .u64 (wd X 1 : Nat), .int .u64 (wd X 2 : Nat), .int .u64 (wd X 3 : Nat)] := Fa.out.alloc _
      have Nb : At (v7.alloc (.cells #[.int .u64 (wd ac 0 : Nat), .int .u64 (wd ac 1 : Nat), .int .u64 (wd ac 2 : Nat), .int .u64 (wd ac 3 : Nat)] 24)) gb 24 #[.int .u64 (wd Y 0 : Nat), .int .u64 (wd Y 1 : Nat), .int .u64 (wd Y 2 : Nat), .int .u64 (wd Y 3 : Nat)] := Fb.out.alloc _
      have Nc : At (v7.alloc (.cells #[.int .u64 (wd ac 0 : Nat), .int .u64 (wd ac 1 : Nat), .int .u64 (wd ac 2 : Nat), .int .u64 (wd ac 3 : Nat)] 24)) gc 24 #[.int .u64 (wd Z 0 : Nat), .int .u64 (wd Z 1 : Nat), .int .u64 (wd Z 2 : Nat), .int .u64 (wd Z 3 : Nat)] := Fc.out.alloc _
      have NB : Below w.heap.size w (v7.alloc (.cells #[.int .u64 (wd ac 0 : Nat), .int .u64 (wd ac 1 : Nat), .int .u64 (wd ac 2 : Nat), .int .u64 (wd ac 3 : Nat)] 24)) := gr_alloc BW.out _
      clear BW Fa Fb Fc
      generalize (v7.alloc (.cells #[.int .u64 (wd ac 0 : Nat), .int .u64 (wd ac 1 : Nat), .int .u64 (wd ac 2 : Nat), .int .u64 (wd ac 3 : Nat)] 24)) = W8 at *
      generalize v7.heap.size = gac at *
      have Fa := Lib.hid Na
      have Fb := Lib.hid Nb
      have Fc := Lib.hid Nc
      have Fac := Lib.hid Nac
      have BW := Lib.hid NB
      clear NB Na Nb Nc Nac
      refine (A7.out _).mono ?_
      rintro e v9 ⟨rfl, z9⟩
      have Na := Lib.hid (Fa.out.on z9)
      have Nb := Lib.hid (Fb.out.on z9)
      have Nc := Lib.hid (Fc.out.on z9)
      have Nac := Lib.hid (Fac.out.on z9)
      have NB := Lib.hid (bel_tr BW.out z9)
      clear BW z9 Fa Fb Fc Fac
      have Fa := Na
      have Fb := Nb
      have Fc := Nc
      have Fac := Nac
      have BW := NB
      clear NB Na Nb Nc Nac
      by_cases hpq : p = 0 ∧ q = 0
      · obtain ⟨hp0, hq0⟩ := hpq
        have h2 := K7.out hp0 hq0
        subst hp0 hq0
        subst h2
        have Lac := Fac.out.lt
        have cac0 : v9.cell? ⟨gac, 0, none⟩ = some (.int .u64 (wd ac 0 : Nat)) := Fac.out.cell 0
        have cac1 : v9.cell? ⟨gac, 1, none⟩ = some (.int .u64 (wd ac 1 : Nat)) := Fac.out.cell 1
        have cac2 : v9.cell? ⟨gac, 2, none⟩ = some (.int .u64 (wd ac 2 : Nat)) := Fac.out.cell 2
        have cac3 : v9.cell? ⟨gac, 3, none⟩ = some (.int .u64 (wd ac 3 : Nat)) := Fac.out.cell 3
        go_wp2_with fail
        clear Lac cac0 cac1 cac2 cac3
        have Nbc : At (v9.alloc (.cells #[.int .u64 (wd bc 0 : Nat), .int .u64 (wd bc 1 : Nat), .int .u64 (wd bc 2 : Nat), .int .u64 (wd bc 3 : Nat)] 24)) (v9.heap.size) 24 #[.int .u64 (wd bc 0 : Nat), .int .u64 (wd bc 1 : Nat), .int .u64 (wd bc 2 : Nat), .int .u64 (wd bc 3 : Nat)] := At.at_ _ _ _ _ (by simp)
        have Na : At (v9.alloc (.cells #[.int .u64 (wd bc 0 : Nat), .int .u64 (wd bc 1 : Nat), .int .u64 (wd bc 2 : Nat), .int .u64 (wd bc 3 : Nat)] 24)) ga 24 #[.int .u64 (wd X 0 : Nat), .int .u64 (wd X 1 : Nat), .int .u64 (wd X 2 : Nat), .int .u64 (wd X 3 : Nat)] := Fa.out.alloc _
        have Nb : At (v9.alloc (.cells #[.int .u64 (wd bc 0 : Nat), .int .u64 (wd bc 1 : Nat), .int .u64 (wd bc 2 : Nat), .int .u64 (wd bc 3 : Nat)] 24)) gb 24 #[.int .u64 (wd Y 0 : Nat), .int .u64 (wd Y 1 : Nat), .int .u64 (wd Y 2 : Nat), .int .u64 (wd Y 3 : Nat)] := Fb.out.alloc _
        have Nc : At (v9.alloc (.cells #[.int .u64 (wd bc 0 : Nat), .int .u64 (wd bc 1 : Nat), .int .u64 (wd bc 2 : Nat), .int .u64 (wd bc 3 : Nat)] 24)) gc 24 #[.int .u64 (wd Z 0 : Nat), .int .u64 (wd Z 1 : Nat), .int .u64 (wd Z 2 : Nat), .int .u64 (wd Z 3 : Nat)] := Fc.out.alloc _
        have Nac : At (v9.alloc (.cells #[.int .u64 (wd bc 0 : Nat), .int .u64 (wd bc 1 : Nat), .int .u64 (wd bc 2 : Nat), .int .u64 (wd bc 3 : Nat)] 24)) gac 24 #[.int .u64 (wd ac 0 : Nat), .int .u64 (wd ac 1 : Nat), .int .u64 (wd ac 2 : Nat), .int .u64 (wd ac 3 : Nat)] := Fac.out.alloc _
        have NB : Below w.heap.size w (v9.alloc (.cells #[.int .u64 (wd bc 0 : Nat), .int .u64 (wd bc 1 : Nat), .int .u64 (wd bc 2 : Nat), .int .u64 (wd bc 3 : Nat)] 24)) := gr_alloc BW.out _
        clear BW Fa Fb Fc Fac
        generalize (v9.alloc (.cells #[.int .u64 (wd bc 0 : Nat), .int .u64 (wd bc 1 : Nat), .int .u64 (wd bc 2 : Nat), .int .u64 (wd bc 3 : Nat)] 24)) = W10 at *
        generalize v9.heap.size = gbc at *
        have Fa := Lib.hid Na
        have Fb := Lib.hid Nb
        have Fc := Lib.hid Nc
        have Fac := Lib.hid Nac
        have Fbc := Lib.hid Nbc
        have BW := Lib.hid NB
        clear NB Na Nb Nc Nac Nbc
        refine (A8.out _).mono ?_
        rintro e v11 ⟨rfl, z11⟩
        have Na := Lib.hid (Fa.out.on z11)
        have Nb := Lib.hid (Fb.out.on z11)
        have Nc := Lib.hid (Fc.out.on z11)
        have Nac := Lib.hid (Fac.out.on z11)
        have Nbc := Lib.hid (Fbc.out.on z11)
        have NB := Lib.hid (bel_tr BW.out z11)
        clear BW z11 Fa Fb Fc Fac Fbc
        have Fa := Na
        have Fb := Nb
        have Fc := Nc
        have Fac := Nac
        have Fbc := Nbc
        have BW := NB
        clear NB Na Nb Nc Nac Nbc
        go_wp2
        go_ret
        exact ⟨rfl, BW.out⟩
      · have e1 : IntKind.u64.wrap ((p : Int) + q) = ((p + q : Nat) : Int) := by have := HP.out; have := HQ.out; rw [IntKind.wrap_u64]; omega
        have e2 : (0 : Int) < ((p + q : Nat) : Int) := by omega
        generalize p + q = t at e1 e2
        clear hpq
        go_wp2
        go_ret
        exact ⟨rfl, gr_alloc BW.out _⟩
    · have r1 := K6.out h2
      clear hlt h2
      have Lb := Fb.out.lt
      have cb0 : u4_3.cell? ⟨gb, 0, none⟩ = some (.int .u64 (wd Y 0 : Nat)) := Fb.out.cell 0
      have cb1 : u4_3.cell? ⟨gb, 1, none⟩ = some (.int .u64 (wd Y 1 : Nat)) := Fb.out.cell 1
      have cb2 : u4_3.cell? ⟨gb, 2, none⟩ = some (.int .u64 (wd Y 2 : Nat)) := Fb.out.cell 2
      have cb3 : u4_3.cell? ⟨gb, 3, none⟩ = some (.int .u64 (wd Y 3 : Nat)) := Fb.out.cell 3
      have Lc := Fc.out.lt
      have cc0 : u4_3.cell? ⟨gc, 0, none⟩ = some (.int .u64 (wd Z 0 : Nat)) := Fc.out.cell 0
      have cc1 : u4_3.cell? ⟨gc, 1, none⟩ = some (.int .u64 (wd Z 1 : Nat)) := Fc.out.cell 1
      have cc2 : u4_3.cell? ⟨gc, 2, none⟩ = some (.int .u64 (wd Z 2 : Nat)) := Fc.out.cell 2
      have cc3 : u4_3.cell? ⟨gc, 3, none⟩ = some (.int .u64 (wd Z 3 : Nat)) := Fc.out.cell 3
      go_wp2_with fail
      clear Lb cb0 cb1 cb2 cb3 Lc cc0 cc1 cc2 cc3
      refine (A4.out _).mono ?_
      rintro e v5 ⟨rfl, z5⟩
      have Na := Lib.hid (Fa.out.on z5)
      have Nb := Lib.hid (Fb.out.on z5)
      have Nc := Lib.hid (Fc.out.on z5)
      have NB := Lib.hid (bel_tr BW.out z5)
      clear BW z5 Fa Fb Fc
      have Fa := Na
      have Fb := Nb
      have Fc := Nc
      have BW := NB
      clear NB Na Nb Nc
      have La := Fa.out.lt
      have ca0 : v5.cell? ⟨ga, 0, none⟩ = some (.int .u64 (wd X 0 : Nat)) := Fa.out.cell 0
      have ca1 : v5.cell? ⟨ga, 1, none⟩ = some (.int .u64 (wd X 1 : Nat)) := Fa.out.cell 1
      have ca2 : v5.cell? ⟨ga, 2, none⟩ = some (.int .u64 (wd X 2 : Nat)) := Fa.out.cell 2
      have ca3 : v5.cell? ⟨ga, 3, none⟩ = some (.int .u64 (wd X 3 : Nat)) := Fa.out.cell 3
      have Lc := Fc.out.lt
      have cc0 : v5.cell? ⟨gc, 0, none⟩ = some (.int .u64 (wd Z 0 : Nat)) := Fc.out.cell 0
      have cc1 : v5.cell? ⟨gc, 1, none⟩ = some (.int .u64 (wd Z 1 : Nat)) := Fc.out.cell 1
      have cc2 : v5.cell? ⟨gc, 2, none⟩ = some (.int .u64 (wd Z 2 : Nat)) := Fc.out.cell 2
      have cc3 : v5.cell? ⟨gc, 3, none⟩ = some (.int .u64 (wd Z 3 : Nat)) := Fc.out.cell 3
      go_wp2_with fail
      clear La ca0 ca1 ca2 ca3 Lc cc0 cc1 cc2 cc3
      refine (A6.out _).mono ?_
      rintro e v6 ⟨rfl, z6⟩
      have Na := Lib.hid (Fa.out.on z6)
      have Nb := Lib.hid (Fb.out.on z6)
      have Nc := Lib.hid (Fc.out.on z6)
      have NB := Lib.hid (bel_tr BW.out z6)
      clear BW z6 Fa Fb Fc
      have Fa := Na
      have Fb := Nb
      have Fc := Nc
      have BW := NB
      clear NB Na Nb Nc
      have Lb := Fb.out.lt
      have cb0 : v6.cell? ⟨gb, 0, none⟩ = some (.int .u64 (wd Y 0 : Nat)) := Fb.out.cell 0
      have cb1 : v6.cell? ⟨gb, 1, none⟩ = some (.int .u64 (wd Y 1 : Nat)) := Fb.out.cell 1
      have cb2 : v6.cell? ⟨gb, 2, none⟩ = some (.int .u64 (wd Y 2 : Nat)) := Fb.out.cell 2
      have cb3 : v6.cell? ⟨gb, 3, none⟩ = some (.int .u64 (wd Y 3 : Nat)) := Fb.out.cell 3
      have Lc := Fc.out.lt
      have cc0 : v6.cell? ⟨gc, 0, none⟩ = some (.int .u64 (wd Z 0 : Nat)) := Fc.out.cell 0
      have cc1 : v6.cell? ⟨gc, 1, none⟩ = some (.int .u64 (wd Z 1 : Nat)) := Fc.out.cell 1
      have cc2 : v6.cell? ⟨gc, 2, none⟩ = some (.int .u64 (wd Z 2 : Nat)) := Fc.out.cell 2
      have cc3 : v6.cell? ⟨gc, 3, none⟩ = some (.int .u64 (wd Z 3 : Nat)) := Fc.out.cell 3
      go_wp2_with fail
      clear Lb cb0 cb1 cb2 cb3 Lc cc0 cc1 cc2 cc3
      have Nac : At (v6.alloc (.cells #[.int .u64 (wd ac 0 : Nat), .int .u64 (wd ac 1 : Nat), .int .u64 (wd ac 2 : Nat), .int .u64 (wd ac 3 : Nat)] 24)) (v6.heap.size) 24 #[.int .u64 (wd ac 0 : Nat), .int .u64 (wd ac 1 : Nat), .int .u64 (wd ac 2 : Nat), .int .u64 (wd ac 3 : Nat)] := At.at_ _ _ _ _ (by simp)
      have Na : At (v6.alloc (.cells #[.int .u64 (wd ac 0 : Nat), .int .u64 (wd ac 1 : Nat), .int .u64 (wd ac 2 : Nat), .int .u64 (wd ac 3 : Nat)] 24)) ga 24 #[.int .u64 (wd X 0 : Nat), .int .u64 (wd X 1 : Nat), .int .u64 (wd X 2 : Nat), .int .u64 (wd X 3 : Nat)] := Fa.out.alloc _
      have Nb : At (v6.alloc (.cells #[.int .u64 (wd ac 0 : Nat), .int .u64 (wd ac 1 : Nat), .int .u64 (wd ac 2 : Nat), .int .u64 (wd ac 3 : Nat)] 24)) gb 24 #[.int .u64 (wd Y 0 : Nat), .int .u64 (wd Y 1 : Nat), .int .u64 (wd Y 2 : Nat), .int .u64 (wd Y 3 : Nat)] := Fb.out.alloc _
      have Nc : At (v6.alloc (.cells #[.int .u64 (wd ac 0 : Nat), .int .u64 (wd ac 1 : Nat), .int .u64 (wd ac 2 : Nat), .int .u64 (wd ac 3 : Nat)] 24)) gc 24 #[.int .u64 (wd Z 0 : Nat), .int .u64 (wd Z 1 : Nat), .int .u64 (wd Z 2 : Nat), .int .u64 (wd Z 3 : Nat)] := Fc.out.alloc _
      have NB : Below w.heap.size w (v6.alloc (.cells #[.int .u64 (wd ac 0 : Nat), .int .u64 (wd ac 1 : Nat), .int .u64 (wd ac 2 : Nat), .int .u64 (wd ac 3 : Nat)] 24)) := gr_alloc BW.out _
      clear BW Fa Fb Fc
      generalize (v6.alloc (.cells #[.int .u64 (wd ac 0 : Nat), .int .u64 (wd ac 1 : Nat), .int .u64 (wd ac 2 : Nat), .int .u64 (wd ac 3 : Nat)] 24)) = W7 at *
      generalize v6.heap.size = gac at *
      have Fa := Lib.hid Na
      have Fb := Lib.hid Nb
      have Fc := Lib.hid Nc
      have Fac := Lib.hid Nac
      have BW := Lib.hid NB
      clear NB Na Nb Nc Nac
      refine (A7.out _).mono ?_
      rintro e v8 ⟨rfl, z8⟩
      have Na := Lib.hid (Fa.out.on z8)
      have Nb := Lib.hid (Fb.out.on z8)
      have Nc := Lib.hid (Fc.out.on z8)
      have Nac := Lib.hid (Fac.out.on z8)
      have NB := Lib.hid (bel_tr BW.out z8)
      clear BW z8 Fa Fb Fc Fac
      have Fa := Na
      have Fb := Nb
      have Fc := Nc
      have Fac := Nac
      have BW := NB
      clear NB Na Nb Nc Nac
      by_cases hpq : p = 0 ∧ q = 0
      · obtain ⟨hp0, hq0⟩ := hpq
        have h2 := K7.out hp0 hq0
        subst hp0 hq0
        subst h2
        have Lac := Fac.out.lt
        have cac0 : v8.cell? ⟨gac, 0, none⟩ = some (.int .u64 (wd ac 0 : Nat)) := Fac.out.cell 0
        have cac1 : v8.cell? ⟨gac, 1, none⟩ = some (.int .u64 (wd ac 1 : Nat)) := Fac.out.cell 1
        have cac2 : v8.cell? ⟨gac, 2, none⟩ = some (.int .u64 (wd ac 2 : Nat)) := Fac.out.cell 2
        have cac3 : v8.cell? ⟨gac, 3, none⟩ = some (.int .u64 (wd ac 3 : Nat)) := Fac.out.cell 3
        go_wp2_with fail
        clear Lac cac0 cac1 cac2 cac3
        have Nbc : At (v8.alloc (.cells #[.int .u64 (wd bc 0 : Nat), .int .u64 (wd bc 1 : Nat), .int .u64 (wd bc 2 : Nat), .int .u64 (wd bc 3 : Nat)] 24)) (v8.heap.size) 24 #[.int .u64 (wd bc 0 : Nat), .int .u64 (wd bc 1 : Nat), .int .u64 (wd bc 2 : Nat), .int .u64 (wd bc 3 : Nat)] := At.at_ _ _ _ _ (by simp)
        have Na : At (v8.alloc (.cells #[.int .u64 (wd bc 0 : Nat), .int .u64 (wd bc 1 : Nat), .int .u64 (wd bc 2 : Nat), .int .u64 (wd bc 3 : Nat)] 24)) ga 24 #[.int .u64 (wd X 0 : Nat), .int .u64 (wd X 1 : Nat), .int .u64 (wd X 2 : Nat), .int .u64 (wd X 3 : Nat)] := Fa.out.alloc _
        have Nb : At (v8.alloc (.cells #[.int .u64 (wd bc 0 : Nat), .int .u64 (wd bc 1 : Nat), .int .u64 (wd bc 2 : Nat), .int .u64 (wd bc 3 : Nat)] 24)) gb 24 #[.int .u64 (wd Y 0 : Nat), .int .u64 (wd Y 1 : Nat), .int .u64 (wd Y 2 : Nat), .int .u64 (wd Y 3 : Nat)] := Fb.out.alloc _
        have Nc : At (v8.alloc (.cells #[.int .u64 (wd bc 0 : Nat), .int .u64 (wd bc 1 : Nat), .int .u64 (wd bc 2 : Nat), .int .u64 (wd bc 3 : Nat)] 24)) gc 24 #[.int .u64 (wd Z 0 : Nat), .int .u64 (wd Z 1 : Nat), .int .u64 (wd Z 2 : Nat), .int .u64 (wd Z 3 : Nat)] := Fc.out.alloc _
        have Nac : At (v8.alloc (.cells #[.int .u64 (wd bc 0 : Nat), .int .u64 (wd bc 1 : Nat), .int .u64 (wd bc 2 : Nat), .int .u64 (wd bc 3 : Nat)] 24)) gac 24 #[.int .u64 (wd ac 0 : Nat), .int .u64 (wd ac 1 : Nat), .int .u64 (wd ac 2 : Nat), .int .u64 (wd ac 3 : Nat)] := Fac.out.alloc _
        have NB : Below w.heap.size w (v8.alloc (.cells #[.int .u64 (wd bc 0 : Nat), .int .u64 (wd bc 1 : Nat), .int .u64 (wd bc 2 : Nat), .int .u64 (wd bc 3 : Nat)] 24)) := gr_alloc BW.out _
        clear BW Fa Fb Fc Fac
        generalize (v8.alloc (.cells #[.int .u64 (wd bc 0 : Nat), .int .u64 (wd bc 1 : Nat), .int .u64 (wd bc 2 : Nat), .int .u64 (wd bc 3 : Nat)] 24)) = W9 at *
        generalize v8.heap.size = gbc at *
        have Fa := Lib.hid Na
        have Fb := Lib.hid Nb
        have Fc := Lib.hid Nc
        have Fac := Lib.hid Nac
        have Fbc := Lib.hid Nbc
        have BW := Lib.hid NB
        clear NB Na Nb Nc Nac Nbc
        refine (A8.out _).mono ?_
        rintro e v10 ⟨rfl, z10⟩
        have Na := Lib.hid (Fa.out.on z10)
        have Nb := Lib.hid (Fb.out.on z10)
        have Nc := Lib.hid (Fc.out.on z10)
        have Nac := Lib.hid (Fac.out.on z10)
        have Nbc := Lib.hid (Fbc.out.on z10)
        have NB := Lib.hid (bel_tr BW.out z10)
        clear BW z10 Fa Fb Fc Fac Fbc
        have Fa := Na
        have Fb := Nb
        have Fc := Nc
        have Fac := Nac
        have Fbc := Nbc
        have BW := NB
        clear NB Na Nb Nc Nac Nbc
        go_wp2
        go_ret
        exact ⟨rfl, BW.out⟩
      · have e1 : IntKind.u64.wrap ((p : Int) + q) = ((p + q : Nat) : Int) := by have := HP.out; have := HQ.out; rw [IntKind.wrap_u64]; omega
        have e2 : (0 : Int) < ((p + q : Nat) : Int) := by omega
        generalize p + q = t at e1 e2
        clear hpq
        go_wp2
        go_ret
        exact ⟨rfl, gr_alloc BW.out _⟩
  · have r1 := K8.out hlt
    clear hlt
    have La := Fa.out.lt
    have ca0 : u4_3.cell? ⟨ga, 0, none⟩ = some (.int .u64 (wd X 0 : Nat)) := Fa.out.cell 0
    have ca1 : u4_3.cell? ⟨ga, 1, none⟩ = some (.int .u64 (wd X 1 : Nat)) := Fa.out.cell 1
    have ca2 : u4_3.cell? ⟨ga, 2, none⟩ = some (.int .u64 (wd X 2 : Nat)) := Fa.out.cell 2
    have ca3 : u4_3.cell? ⟨ga, 3, none⟩ = some (.int .u64 (wd X 3 : Nat)) := Fa.out.cell 3
    have Lc := Fc.out.lt
    have cc0 : u4_3.cell? ⟨gc, 0, none⟩ = some (.int .u64 (wd Z 0 : Nat)) := Fc.out.cell 0
    have cc1 : u4_3.cell? ⟨gc, 1, none⟩ = some (.int .u64 (wd Z 1 : Nat)) := Fc.out.cell 1
    have cc2 : u4_3.cell? ⟨gc, 2, none⟩ = some (.int .u64 (wd Z 2 : Nat)) := Fc.out.cell 2
    have cc3 : u4_3.cell? ⟨gc, 3, none⟩ = some (.int .u64 (wd Z 3 : Nat)) := Fc.out.cell 3
    go_wp2_with fail
    clear La ca0 ca1 ca2 ca3 Lc cc0 cc1 cc2 cc3
    refine (A6.out _).mono ?_
    rintro e v5 ⟨rfl, z5⟩
    have Na := Lib.hid (Fa.out.on z5)
    have Nb := Lib.hid (Fb.out.on z5)
    have Nc := Lib.hid (Fc.out.on z5)
    have NB := Lib.hid (bel_tr BW.out z5)
    clear BW z5 Fa Fb Fc
    have Fa := Na
    have Fb := Nb
    have Fc := Nc
    have BW := NB
    clear NB Na Nb Nc
    have Lb := Fb.out.lt
    have cb0 : v5.cell? ⟨gb, 0, none⟩ = some (.int .u64 (wd Y 0 : Nat)) := Fb.out.cell 0
    have cb1 : v5.cell? ⟨gb, 1, none⟩ = some (.int .u64 (wd Y 1 : Nat)) := Fb.out.cell 1
    have cb2 : v5.cell? ⟨gb, 2, none⟩ = some (.int .u64 (wd Y 2 : Nat)) := Fb.out.cell 2
    have cb3 : v5.cell? ⟨gb, 3, none⟩ = some (.int .u64 (wd Y 3 : Nat)) := Fb.out.cell 3
    have Lc := Fc.out.lt
    have cc0 : v5.cell? ⟨gc, 0, none⟩ = some (.int .u64 (wd Z 0 : Nat)) := Fc.out.cell 0
    have cc1 : v5.cell? ⟨gc, 1, none⟩ = some (.int .u64 (wd Z 1 : Nat)) := Fc.out.cell 1
    have cc2 : v5.cell? ⟨gc, 2, none⟩ = some (.int .u64 (wd Z 2 : Nat)) := Fc.out.cell 2
    have cc3 : v5.cell? ⟨gc, 3, none⟩ = some (.int .u64 (wd Z 3 : Nat)) := Fc.out.cell 3
    go_wp2_with fail
    clear Lb cb0 cb1 cb2 cb3 Lc cc0 cc1 cc2 cc3
    have Nac : At (v5.alloc (.cells #[.int .u64 (wd ac 0 : Nat), .int .u64 (wd ac 1 : Nat), .int .u64 (wd ac 2 : Nat), .int .u64 (wd ac 3 : Nat)] 24)) (v5.heap.size) 24 #[.int .u64 (wd ac 0 : Nat), .int .u64 (wd ac 1 : Nat), .int .u64 (wd ac 2 : Nat), .int .u64 (wd ac 3 : Nat)] := At.at_ _ _ _ _ (by simp)
    have Na : At (v5.alloc (.cells #[.int .u64 (wd ac 0 : Nat), .int .u64 (wd ac 1 : Nat), .int .u64 (wd ac 2 : Nat), .int .u64 (wd ac 3 : Nat)] 24)) ga 24 #[.int .u64 (wd X 0 : Nat), .int .u64 (wd X 1 : Nat), .int .u64 (wd X 2 : Nat), .int .u64 (wd X 3 : Nat)] := Fa.out.alloc _
    have Nb : At (v5.alloc (.cells #[.int .u64 (wd ac 0 : Nat), .int .u64 (wd ac 1 : Nat), .int .u64 (wd ac 2 : Nat), .int .u64 (wd ac 3 : Nat)] 24)) gb 24 #[.int .u64 (wd Y 0 : Nat), .int .u64 (wd Y 1 : Nat), .int .u64 (wd Y 2 : Nat), .int .u64 (wd Y 3 : Nat)] := Fb.out.alloc _
    have Nc : At (v5.alloc (.cells #[.int .u64 (wd ac 0 : Nat), .int .u64 (wd ac 1 : Nat), .int .u64 (wd ac 2 : Nat), .int .u64 (wd ac 3 : Nat)] 24)) gc 24 #[.int .u64 (wd Z 0 : Nat), .int .u64 (wd Z 1 : Nat), .int .u64 (wd Z 2 : Nat), .int .u64 (wd Z 3 : Nat)] := Fc.out.alloc _
    have NB : Below w.heap.size w (v5.alloc (.cells #[.int .u64 (wd ac 0 : Nat), .int .u64 (wd ac 1 : Nat), .int .u64 (wd ac 2 : Nat), .int .u64 (wd ac 3 : Nat)] 24)) := gr_alloc BW.out _
    clear BW Fa Fb Fc
    generalize (v5.alloc (.cells #[.int .u64 (wd ac 0 : Nat), .int .u64 (wd ac 1 : Nat), .int .u64 (wd ac 2 : Nat), .int .u64 (wd ac 3 : Nat)] 24)) = W6 at *
    generalize v5.heap.size = gac at *
    have Fa := Lib.hid Na
    have Fb := Lib.hid Nb
    have Fc := Lib.hid Nc
    have Fac := Lib.hid Nac
    have BW := Lib.hid NB
    clear NB Na Nb Nc Nac
    refine (A7.out _).mono ?_
    rintro e v7 ⟨rfl, z7⟩
    have Na := Lib.hid (Fa.out.on z7)
    have Nb := Lib.hid (Fb.out.on z7)
    have Nc := Lib.hid (Fc.out.on z7)
    have Nac := Lib.hid (Fac.out.on z7)
    have NB := Lib.hid (bel_tr BW.out z7)
    clear BW z7 Fa Fb Fc Fac
    have Fa := Na
    have Fb := Nb
    have Fc := Nc
    have Fac := Nac
    have BW := NB
    clear NB Na Nb Nc Nac
    by_cases hpq : p = 0 ∧ q = 0
    · obtain ⟨hp0, hq0⟩ := hpq
      have h2 := K7.out hp0 hq0
      subst hp0 hq0
      subst h2
      have Lac := Fac.out.lt
      have cac0 : v7.cell? ⟨gac, 0, none⟩ = some (.int .u64 (wd ac 0 : Nat)) := Fac.out.cell 0
      have cac1 : v7.cell? ⟨gac, 1, none⟩ = some (.int .u64 (wd ac 1 : Nat)) := Fac.out.cell 1
      have cac2 : v7.cell? ⟨gac, 2, none⟩ = some (.int .u64 (wd ac 2 : Nat)) := Fac.out.cell 2
      have cac3 : v7.cell? ⟨gac, 3, none⟩ = some (.int .u64 (wd ac 3 : Nat)) := Fac.out.cell 3
      go_wp2_with fail
      clear Lac cac0 cac1 cac2 cac3
      have Nbc : At (v7.alloc (.cells #[.int .u64 (wd bc 0 : Nat), .int .u64 (wd bc 1 : Nat), .int .u64 (wd bc 2 : Nat), .int .u64 (wd bc 3 : Nat)] 24)) (v7.heap.size) 24 #[.int .u64 (wd bc 0 : Nat), .int .u64 (wd bc 1 : Nat), .int .u64 (wd bc 2 : Nat), .int .u64 (wd bc 3 : Nat)] := At.at_ _ _ _ _ (by simp)
      have Na : At (v7.alloc (.cells #[.int .u64 (wd bc 0 : Nat), .int .u64 (wd bc 1 : Nat), .int .u64 (wd bc 2 : Nat), .int .u64 (wd bc 3 : Nat)] 24)) ga 24 #[.int .u64 (wd X 0 : Nat), .int .u64 (wd X 1 : Nat), .int .u64 (wd X 2 : Nat), .int .u64 (wd X 3 : Nat)] := Fa.out.alloc _
      have Nb : At (v7.alloc (.cells #[.int .u64 (wd bc 0 : Nat), .int .u64 (wd bc 1 : Nat), .int .u64 (wd bc 2 : Nat), .int .u64 (wd bc 3 : Nat)] 24)) gb 24 #[.int .u64 (wd Y 0 : Nat), .int .u64 (wd Y 1 : Nat), .int .u64 (wd Y 2 : Nat), .int .u64 (wd Y 3 : Nat)] := Fb.out.alloc _
      have Nc : At (v7.alloc (.cells #[.int .u64 (wd bc 0 : Nat), .int .u64 (wd bc 1 : Nat), .int .u64 (wd bc 2 : Nat), .int .u64 (wd bc 3 : Nat)] 24)) gc 24 #[.int .u64 (wd Z 0 : Nat), .int .u64 (wd Z 1 : Nat), .int .u64 (wd Z 2 : Nat), .int .u64 (wd Z 3 : Nat)] := Fc.out.alloc _
      have Nac : At (v7.alloc (.cells #[.int .u64 (wd bc 0 : Nat), .int .u64 (wd bc 1 : Nat), .int .u64 (wd bc 2 : Nat), .int .u64 (wd bc 3 : Nat)] 24)) gac 24 #[.int .u64 (wd ac 0 : Nat), .int .u64 (wd ac 1 : Nat), .int .u64 (wd ac 2 : Nat), .int .u64 (wd ac 3 : Nat)] := Fac.out.alloc _
      have NB : Below w.heap.size w (v7.alloc (.cells #[.int .u64 (wd bc 0 : Nat), .int .u64 (wd bc 1 : Nat), .int .u64 (wd bc 2 : Nat), .int .u64 (wd bc 3 : Nat)] 24)) := gr_alloc BW.out _
      clear BW Fa Fb Fc Fac
      generalize (v7.alloc (.cells #[.int .u64 (wd bc 0 : Nat), .int .u64 (wd bc 1 : Nat), .int .u64 (wd bc 2 : Nat), .int .u64 (wd bc 3 : Nat)] 24)) = W8 at *
      generalize v7.heap.size = gbc at *
      have Fa := Lib.hid Na
      have Fb := Lib.hid Nb
      have Fc := Lib.hid Nc
      have Fac := Lib.hid Nac
      have Fbc := Lib.hid Nbc
      have BW := Lib.hid NB
      clear NB Na Nb Nc Nac Nbc
      refine (A8.out _).mono ?_
      rintro e v9 ⟨rfl, z9⟩
      have Na := Lib.hid (Fa.out.on z9)
      have Nb := Lib.hid (Fb.out.on z9)
      have Nc := Lib.hid (Fc.out.on z9)
      have Nac := Lib.hid (Fac.out.on z9)
      have Nbc := Lib.hid (Fbc.out.on z9)
      have NB := Lib.hid (bel_tr BW.out z9)
      clear BW z9 Fa Fb Fc Fac Fbc
      have Fa := Na
      have Fb := Nb
      have Fc := Nc
      have Fac := Nac
      have Fbc := Nbc
      have BW := NB
      clear NB Na Nb Nc Nac Nbc
      go_wp2
      go_ret
      exact ⟨rfl, BW.out⟩
    · have e1 : IntKind.u64.wrap ((p : Int) + q) = ((p + q : Nat) : Int) := by have := HP.out; have := HQ.out; rw [IntKind.wrap_u64]; omega
      have e2 : (0 : Int) < ((p + q : Nat) : Int) := by omega
      generalize p + q = t at e1 e2
      clear hpq
      go_wp2
      go_ret
      exact ⟨rfl, gr_alloc BW.out _⟩
end Go.Proofs.Ytamglpncdgiocaa
