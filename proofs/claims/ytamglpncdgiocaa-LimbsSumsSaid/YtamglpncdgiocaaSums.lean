/-
  The walk of LimbsSums: it answers true, and nothing that was there is changed.
-/
import Derived.Test.YtamglpncdgiocaaAlive
namespace Go.Proofs.Ytamglpncdgiocaa
open Go.RowKit
attribute [local go_sem ↓] Go.wp_at_zero Go.wp_at_succ

theorem eqY (X : Nat) (w : World) : (Op.equalIn 10000 24 (num X) (num X)).run Try.prog w = .ok true w := by rw [eqW]; simp
theorem of0N (w : World) : Calls Try.prog 16 #[.int .u64 0] w fun e w' => e = .returned (num 0) ∧ Below w.heap.size w w' := of_any 0 (by omega) w

set_option maxRecDepth 100000 in
set_option maxHeartbeats 8000000 in
theorem sums_walk (X Y Z : Nat) (hX : X < 2 ^ 256) (hY : Y < 2 ^ 256) (hZ : Z < 2 ^ 256) (w : World) :
    Calls Try.prog 4 #[.agg #[.int .u64 (wd X 0 : Nat), .int .u64 (wd X 1 : Nat), .int .u64 (wd X 2 : Nat), .int .u64 (wd X 3 : Nat), .int .u64 (wd Y 0 : Nat), .int .u64 (wd Y 1 : Nat), .int .u64 (wd Y 2 : Nat), .int .u64 (wd Y 3 : Nat), .int .u64 (wd Z 0 : Nat), .int .u64 (wd Z 1 : Nat), .int .u64 (wd Z 2 : Nat), .int .u64 (wd Z 3 : Nat)]] w fun e w' => e = .returned (.bool true) ∧ Below w.heap.size w w' := by
  obtain ⟨ab, m, hab, hm, eab, C1⟩ := add_ex X Y hX hY
  obtain ⟨ba, n, hba, hn, eba, C2⟩ := add_ex Y X hY hX
  obtain ⟨lf, o, hlf, ho, elf, C3⟩ := add_ex ab Z hab hZ
  obtain ⟨bc, p, hbc, hp, ebc, C4⟩ := add_ex Y Z hY hZ
  obtain ⟨rt, q, hrt, hq, ert, C5⟩ := add_ex X bc hX hbc
  obtain ⟨bk, r, hbk, hr, ebk, C6⟩ := sub_ex ab Y hab hY
  obtain ⟨nn, s, hnn, hs, enn, C7⟩ := sub_ex X X hX hX
  have k1 : ab = ba := by omega
  have k2 : m = n := by omega
  have k3 : lf = rt := by omega
  have k4 : X = bk := by omega
  have k5 : m = r := by omega
  have k6 : 0 = nn := by omega
  have k7 : 0 = s := by omega
  have k8 : IntKind.u64.wrap ((m : Int) + o) = ((m + o : Nat) : Int) := by rw [IntKind.wrap_u64]; omega
  have k9 : IntKind.u64.wrap ((p : Int) + q) = ((m + o : Nat) : Int) := by rw [IntKind.wrap_u64]; omega
  generalize m + o = t at k8 k9
  have k10 : (m : Int) ≤ 1 := by omega
  subst k1 k2 k3 k4 k5 k6 k7
  have A1 := Lib.hid C1; have A2 := Lib.hid C2; have A3 := Lib.hid C3; have A4 := Lib.hid C4; have A5 := Lib.hid C5; have A6 := Lib.hid C6; have A7 := Lib.hid C7
  clear C1 C2 C3 C4 C5 C6 C7 eab eba elf ebc ert ebk enn hab hba hlf hbc hrt hbk hnn hm hn ho hp hq hr hs hX hY hZ
  have q0 := eqY ab
  have q1 := eqY lf
  have q2 := eqY X
  have q3 := eqY 0
  go_enter Try.func4, Try.ntmps4
  go_wp2_with fail
  have Na : At ((((w.alloc (.cells #[.int .u64 (wd X 0 : Nat), .int .u64 (wd X 1 : Nat), .int .u64 (wd X 2 : Nat), .int .u64 (wd X 3 : Nat), .int .u64 (wd Y 0 : Nat), .int .u64 (wd Y 1 : Nat), .int .u64 (wd Y 2 : Nat), .int .u64 (wd Y 3 : Nat), .int .u64 (wd Z 0 : Nat), .int .u64 (wd Z 1 : Nat), .int .u64 (wd Z 2 : Nat), .int .u64 (wd Z 3 : Nat)] 36)).alloc (.cells #[.int .u64 (wd X 0 : Nat), .int .u64 (wd X 1 : Nat), .int .u64 (wd X 2 : Nat), .int .u64 (wd X 3 : Nat)] 24)).alloc (.cells #[.int .u64 (wd Y 0 : Nat), .int .u64 (wd Y 1 : Nat), .int .u64 (wd Y 2 : Nat), .int .u64 (wd Y 3 : Nat)] 24)).alloc (.cells #[.int .u64 (wd Z 0 : Nat), .int .u64 (wd Z 1 : Nat), .int .u64 (wd Z 2 : Nat), .int .u64 (wd Z 3 : Nat)] 24)) (w.heap.size + 1) 24 #[.int .u64 (wd X 0 : Nat), .int .u64 (wd X 1 : Nat), .int .u64 (wd X 2 : Nat), .int .u64 (wd X 3 : Nat)] := ((At.at_ _ _ _ _ (by simp)).alloc _).alloc _
  have Nb : At ((((w.alloc (.cells #[.int .u64 (wd X 0 : Nat), .int .u64 (wd X 1 : Nat), .int .u64 (wd X 2 : Nat), .int .u64 (wd X 3 : Nat), .int .u64 (wd Y 0 : Nat), .int .u64 (wd Y 1 : Nat), .int .u64 (wd Y 2 : Nat), .int .u64 (wd Y 3 : Nat), .int .u64 (wd Z 0 : Nat), .int .u64 (wd Z 1 : Nat), .int .u64 (wd Z 2 : Nat), .int .u64 (wd Z 3 : Nat)] 36)).alloc (.cells #[.int .u64 (wd X 0 : Nat), .int .u64 (wd X 1 : Nat), .int .u64 (wd X 2 : Nat), .int .u64 (wd X 3 : Nat)] 24)).alloc (.cells #[.int .u64 (wd Y 0 : Nat), .int .u64 (wd Y 1 : Nat), .int .u64 (wd Y 2 : Nat), .int .u64 (wd Y 3 : Nat)] 24)).alloc (.cells #[.int .u64 (wd Z 0 : Nat), .int .u64 (wd Z 1 : Nat), .int .u64 (wd Z 2 : Nat), .int .u64 (wd Z 3 : Nat)] 24)) (w.heap.size + 1 + 1) 24 #[.int .u64 (wd Y 0 : Nat), .int .u64 (wd Y 1 : Nat), .int .u64 (wd Y 2 : Nat), .int .u64 (wd Y 3 : Nat)] := (At.at_ _ _ _ _ (by simp)).alloc _
  have Nc : At ((((w.alloc (.cells #[.int .u64 (wd X 0 : Nat), .int .u64 (wd X 1 : Nat), .int .u64 (wd X 2 : Nat), .int .u64 (wd X 3 : Nat), .int .u64 (wd Y 0 : Nat), .int .u64 (wd Y 1 : Nat), .int .u64 (wd Y 2 : Nat), .int .u64 (wd Y 3 : Nat), .int .u64 (wd Z 0 : Nat), .int .u64 (wd Z 1 : Nat), .int .u64 (wd Z 2 : Nat), .int .u64 (wd Z 3 : Nat)] 36)).alloc (.cells #[.int .u64 (wd X 0 : Nat), .int .u64 (wd X 1 : Nat), .int .u64 (wd X 2 : Nat), .int .u64 (wd X 3 : Nat)] 24)).alloc (.cells #[.int .u64 (wd Y 0 : Nat), .int .u64 (wd Y 1 : Nat), .int .u64 (wd Y 2 : Nat), .int .u64 (wd Y 3 : Nat)] 24)).alloc (.cells #[.int .u64 (wd Z 0 : Nat), .int .u64 (wd Z 1 : Nat), .int .u64 (wd Z 2 : Nat), .int .u64 (wd Z 3 : Nat)] 24)) (w.heap.size + 1 + 1 + 1) 24 #[.int .u64 (wd Z 0 : Nat), .int .u64 (wd Z 1 : Nat), .int .u64 (wd Z 2 : Nat), .int .u64 (wd Z 3 : Nat)] := At.at_ _ _ _ _ (by simp)
  have NB : Below w.heap.size w ((((w.alloc (.cells #[.int .u64 (wd X 0 : Nat), .int .u64 (wd X 1 : Nat), .int .u64 (wd X 2 : Nat), .int .u64 (wd X 3 : Nat), .int .u64 (wd Y 0 : Nat), .int .u64 (wd Y 1 : Nat), .int .u64 (wd Y 2 : Nat), .int .u64 (wd Y 3 : Nat), .int .u64 (wd Z 0 : Nat), .int .u64 (wd Z 1 : Nat), .int .u64 (wd Z 2 : Nat), .int .u64 (wd Z 3 : Nat)] 36)).alloc (.cells #[.int .u64 (wd X 0 : Nat), .int .u64 (wd X 1 : Nat), .int .u64 (wd X 2 : Nat), .int .u64 (wd X 3 : Nat)] 24)).alloc (.cells #[.int .u64 (wd Y 0 : Nat), .int .u64 (wd Y 1 : Nat), .int .u64 (wd Y 2 : Nat), .int .u64 (wd Y 3 : Nat)] 24)).alloc (.cells #[.int .u64 (wd Z 0 : Nat), .int .u64 (wd Z 1 : Nat), .int .u64 (wd Z 2 : Nat), .int .u64 (wd Z 3 : Nat)] 24)) := by repeat (first | exact Below.refl _ _ | refine gr_alloc ?_ _ | refine Below.drew ?_ | refine bel_tr ?_ (by assumption))
  generalize ((((w.alloc (.cells #[.int .u64 (wd X 0 : Nat), .int .u64 (wd X 1 : Nat), .int .u64 (wd X 2 : Nat), .int .u64 (wd X 3 : Nat), .int .u64 (wd Y 0 : Nat), .int .u64 (wd Y 1 : Nat), .int .u64 (wd Y 2 : Nat), .int .u64 (wd Y 3 : Nat), .int .u64 (wd Z 0 : Nat), .int .u64 (wd Z 1 : Nat), .int .u64 (wd Z 2 : Nat), .int .u64 (wd Z 3 : Nat)] 36)).alloc (.cells #[.int .u64 (wd X 0 : Nat), .int .u64 (wd X 1 : Nat), .int .u64 (wd X 2 : Nat), .int .u64 (wd X 3 : Nat)] 24)).alloc (.cells #[.int .u64 (wd Y 0 : Nat), .int .u64 (wd Y 1 : Nat), .int .u64 (wd Y 2 : Nat), .int .u64 (wd Y 3 : Nat)] 24)).alloc (.cells #[.int .u64 (wd Z 0 : Nat), .int .u64 (wd Z 1 : Nat), .int .u64 (wd Z 2 : Nat), .int .u64 (wd Z 3 : Nat)] 24)) = W0 at *
  generalize w.heap.size + 1 + 1 + 1 = gc at *
  generalize w.heap.size + 1 + 1 = gb at *
  generalize w.heap.size + 1 = ga at *
  have Fa := Lib.hid Na
  have Fb := Lib.hid Nb
  have Fc := Lib.hid Nc
  have BW := Lib.hid NB
  clear NB Na Nb Nc
  refine (A1.out _).mono ?_
  rintro e v1 ⟨rfl, z1⟩
  have Na := Lib.hid (Fa.out.on z1)
  have Nb := Lib.hid (Fb.out.on z1)
  have Nc := Lib.hid (Fc.out.on z1)
  have NB := Lib.hid (bel_tr BW.out z1)
  clear BW z1 Fa Fb Fc
  have Fa := Na
  have Fb := Nb
  have Fc := Nc
  have BW := NB
  clear NB Na Nb Nc
  have Lb := Fb.out.lt
  have cb0 : v1.cell? ⟨gb, 0, none⟩ = some (.int .u64 (wd Y 0 : Nat)) := Fb.out.cell 0
  have cb1 : v1.cell? ⟨gb, 1, none⟩ = some (.int .u64 (wd Y 1 : Nat)) := Fb.out.cell 1
  have cb2 : v1.cell? ⟨gb, 2, none⟩ = some (.int .u64 (wd Y 2 : Nat)) := Fb.out.cell 2
  have cb3 : v1.cell? ⟨gb, 3, none⟩ = some (.int .u64 (wd Y 3 : Nat)) := Fb.out.cell 3
  have La := Fa.out.lt
  have ca0 : v1.cell? ⟨ga, 0, none⟩ = some (.int .u64 (wd X 0 : Nat)) := Fa.out.cell 0
  have ca1 : v1.cell? ⟨ga, 1, none⟩ = some (.int .u64 (wd X 1 : Nat)) := Fa.out.cell 1
  have ca2 : v1.cell? ⟨ga, 2, none⟩ = some (.int .u64 (wd X 2 : Nat)) := Fa.out.cell 2
  have ca3 : v1.cell? ⟨ga, 3, none⟩ = some (.int .u64 (wd X 3 : Nat)) := Fa.out.cell 3
  go_wp2_with fail
  clear Lb cb0 cb1 cb2 cb3 La ca0 ca1 ca2 ca3
  have Nab : At (v1.alloc (.cells #[.int .u64 (wd ab 0 : Nat), .int .u64 (wd ab 1 : Nat), .int .u64 (wd ab 2 : Nat), .int .u64 (wd ab 3 : Nat)] 24)) (v1.heap.size) 24 #[.int .u64 (wd ab 0 : Nat), .int .u64 (wd ab 1 : Nat), .int .u64 (wd ab 2 : Nat), .int .u64 (wd ab 3 : Nat)] := At.at_ _ _ _ _ (by simp)
  have Na : At (v1.alloc (.cells #[.int .u64 (wd ab 0 : Nat), .int .u64 (wd ab 1 : Nat), .int .u64 (wd ab 2 : Nat), .int .u64 (wd ab 3 : Nat)] 24)) ga 24 #[.int .u64 (wd X 0 : Nat), .int .u64 (wd X 1 : Nat), .int .u64 (wd X 2 : Nat), .int .u64 (wd X 3 : Nat)] := Fa.out.alloc _
  have Nb : At (v1.alloc (.cells #[.int .u64 (wd ab 0 : Nat), .int .u64 (wd ab 1 : Nat), .int .u64 (wd ab 2 : Nat), .int .u64 (wd ab 3 : Nat)] 24)) gb 24 #[.int .u64 (wd Y 0 : Nat), .int .u64 (wd Y 1 : Nat), .int .u64 (wd Y 2 : Nat), .int .u64 (wd Y 3 : Nat)] := Fb.out.alloc _
  have Nc : At (v1.alloc (.cells #[.int .u64 (wd ab 0 : Nat), .int .u64 (wd ab 1 : Nat), .int .u64 (wd ab 2 : Nat), .int .u64 (wd ab 3 : Nat)] 24)) gc 24 #[.int .u64 (wd Z 0 : Nat), .int .u64 (wd Z 1 : Nat), .int .u64 (wd Z 2 : Nat), .int .u64 (wd Z 3 : Nat)] := Fc.out.alloc _
  have NB : Below w.heap.size w (v1.alloc (.cells #[.int .u64 (wd ab 0 : Nat), .int .u64 (wd ab 1 : Nat), .int .u64 (wd ab 2 : Nat), .int .u64 (wd ab 3 : Nat)] 24)) := gr_alloc BW.out _
  clear BW Fa Fb Fc
  generalize (v1.alloc (.cells #[.int .u64 (wd ab 0 : Nat), .int .u64 (wd ab 1 : Nat), .int .u64 (wd ab 2 : Nat), .int .u64 (wd ab 3 : Nat)] 24)) = W2 at *
  generalize v1.heap.size = gab at *
  have Fa := Lib.hid Na
  have Fb := Lib.hid Nb
  have Fc := Lib.hid Nc
  have Fab := Lib.hid Nab
  have BW := Lib.hid NB
  clear NB Na Nb Nc Nab
  refine (A2.out _).mono ?_
  rintro e v3 ⟨rfl, z3⟩
  have Na := Lib.hid (Fa.out.on z3)
  have Nb := Lib.hid (Fb.out.on z3)
  have Nc := Lib.hid (Fc.out.on z3)
  have Nab := Lib.hid (Fab.out.on z3)
  have NB := Lib.hid (bel_tr BW.out z3)
  clear BW z3 Fa Fb Fc Fab
  have Fa := Na
  have Fb := Nb
  have Fc := Nc
  have Fab := Nab
  have BW := NB
  clear NB Na Nb Nc Nab
  have Lab := Fab.out.lt
  have cab0 : v3.cell? ⟨gab, 0, none⟩ = some (.int .u64 (wd ab 0 : Nat)) := Fab.out.cell 0
  have cab1 : v3.cell? ⟨gab, 1, none⟩ = some (.int .u64 (wd ab 1 : Nat)) := Fab.out.cell 1
  have cab2 : v3.cell? ⟨gab, 2, none⟩ = some (.int .u64 (wd ab 2 : Nat)) := Fab.out.cell 2
  have cab3 : v3.cell? ⟨gab, 3, none⟩ = some (.int .u64 (wd ab 3 : Nat)) := Fab.out.cell 3
  have Lc := Fc.out.lt
  have cc0 : v3.cell? ⟨gc, 0, none⟩ = some (.int .u64 (wd Z 0 : Nat)) := Fc.out.cell 0
  have cc1 : v3.cell? ⟨gc, 1, none⟩ = some (.int .u64 (wd Z 1 : Nat)) := Fc.out.cell 1
  have cc2 : v3.cell? ⟨gc, 2, none⟩ = some (.int .u64 (wd Z 2 : Nat)) := Fc.out.cell 2
  have cc3 : v3.cell? ⟨gc, 3, none⟩ = some (.int .u64 (wd Z 3 : Nat)) := Fc.out.cell 3
  go_wp2_with fail
  clear Lab cab0 cab1 cab2 cab3 Lc cc0 cc1 cc2 cc3
  have Nba : At (v3.alloc (.cells #[.int .u64 (wd ab 0 : Nat), .int .u64 (wd ab 1 : Nat), .int .u64 (wd ab 2 : Nat), .int .u64 (wd ab 3 : Nat)] 24)) (v3.heap.size) 24 #[.int .u64 (wd ab 0 : Nat), .int .u64 (wd ab 1 : Nat), .int .u64 (wd ab 2 : Nat), .int .u64 (wd ab 3 : Nat)] := At.at_ _ _ _ _ (by simp)
  have Na : At (v3.alloc (.cells #[.int .u64 (wd ab 0 : Nat), .int .u64 (wd ab 1 : Nat), .int .u64 (wd ab 2 : Nat), .int .u64 (wd ab 3 : Nat)] 24)) ga 24 #[.int .u64 (wd X 0 : Nat), .int .u64 (wd X 1 : Nat), .int .u64 (wd X 2 : Nat), .int .u64 (wd X 3 : Nat)] := Fa.out.alloc _
  have Nb : At (v3.alloc (.cells #[.int .u64 (wd ab 0 : Nat), .int .u64 (wd ab 1 : Nat), .int .u64 (wd ab 2 : Nat), .int .u64 (wd ab 3 : Nat)] 24)) gb 24 #[.int .u64 (wd Y 0 : Nat), .int .u64 (wd Y 1 : Nat), .int .u64 (wd Y 2 : Nat), .int .u64 (wd Y 3 : Nat)] := Fb.out.alloc _
  have Nc : At (v3.alloc (.cells #[.int .u64 (wd ab 0 : Nat), .int .u64 (wd ab 1 : Nat), .int .u64 (wd ab 2 : Nat), .int .u64 (wd ab 3 : Nat)] 24)) gc 24 #[.int .u64 (wd Z 0 : Nat), .int .u64 (wd Z 1 : Nat), .int .u64 (wd Z 2 : Nat), .int .u64 (wd Z 3 : Nat)] := Fc.out.alloc _
  have Nab : At (v3.alloc (.cells #[.int .u64 (wd ab 0 : Nat), .int .u64 (wd ab 1 : Nat), .int .u64 (wd ab 2 : Nat), .int .u64 (wd ab 3 : Nat)] 24)) gab 24 #[.int .u64 (wd ab 0 : Nat), .int .u64 (wd ab 1 : Nat), .int .u64 (wd ab 2 : Nat), .int .u64 (wd ab 3 : Nat)] := Fab.out.alloc _
  have NB : Below w.heap.size w (v3.alloc (.cells #[.int .u64 (wd ab 0 : Nat), .int .u64 (wd ab 1 : Nat), .int .u64 (wd ab 2 : Nat), .int .u64 (wd ab 3 : Nat)] 24)) := gr_alloc BW.out _
  clear BW Fa Fb Fc Fab
  generalize (v3.alloc (.cells #[.int .u64 (wd ab 0 : Nat), .int .u64 (wd ab 1 : Nat), .int .u64 (wd ab 2 : Nat), .int .u64 (wd ab 3 : Nat)] 24)) = W4 at *
  generalize v3.heap.size = gba at *
  have Fa := Lib.hid Na
  have Fb := Lib.hid Nb
  have Fc := Lib.hid Nc
  have Fab := Lib.hid Nab
  have Fba := Lib.hid Nba
  have BW := Lib.hid NB
  clear NB Na Nb Nc Nab Nba
  refine (A3.out _).mono ?_
  rintro e v5 ⟨rfl, z5⟩
  have Na := Lib.hid (Fa.out.on z5)
  have Nb := Lib.hid (Fb.out.on z5)
  have Nc := Lib.hid (Fc.out.on z5)
  have Nab := Lib.hid (Fab.out.on z5)
  have Nba := Lib.hid (Fba.out.on z5)
  have NB := Lib.hid (bel_tr BW.out z5)
  clear BW z5 Fa Fb Fc Fab Fba
  have Fa := Na
  have Fb := Nb
  have Fc := Nc
  have Fab := Nab
  have Fba := Nba
  have BW := NB
  clear NB Na Nb Nc Nab Nba
  have Lb := Fb.out.lt
  have cb0 : v5.cell? ⟨gb, 0, none⟩ = some (.int .u64 (wd Y 0 : Nat)) := Fb.out.cell 0
  have cb1 : v5.cell? ⟨gb, 1, none⟩ = some (.int .u64 (wd Y 1 : Nat)) := Fb.out.cell 1
  have cb2 : v5.cell? ⟨gb, 2, none⟩ = some (.int .u64 (wd Y 2 : Nat)) := Fb.out.cell 2
  have cb3 : v5.cell? ⟨gb, 3, none⟩ = some (.int .u64 (wd Y 3 : Nat)) := Fb.out.cell 3
  have Lc := Fc.out.lt
  have cc0 : v5.cell? ⟨gc, 0, none⟩ = some (.int .u64 (wd Z 0 : Nat)) := Fc.out.cell 0
  have cc1 : v5.cell? ⟨gc, 1, none⟩ = some (.int .u64 (wd Z 1 : Nat)) := Fc.out.cell 1
  have cc2 : v5.cell? ⟨gc, 2, none⟩ = some (.int .u64 (wd Z 2 : Nat)) := Fc.out.cell 2
  have cc3 : v5.cell? ⟨gc, 3, none⟩ = some (.int .u64 (wd Z 3 : Nat)) := Fc.out.cell 3
  go_wp2_with fail
  clear Lb cb0 cb1 cb2 cb3 Lc cc0 cc1 cc2 cc3
  have Nlf : At (v5.alloc (.cells #[.int .u64 (wd lf 0 : Nat), .int .u64 (wd lf 1 : Nat), .int .u64 (wd lf 2 : Nat), .int .u64 (wd lf 3 : Nat)] 24)) (v5.heap.size) 24 #[.int .u64 (wd lf 0 : Nat), .int .u64 (wd lf 1 : Nat), .int .u64 (wd lf 2 : Nat), .int .u64 (wd lf 3 : Nat)] := At.at_ _ _ _ _ (by simp)
  have Na : At (v5.alloc (.cells #[.int .u64 (wd lf 0 : Nat), .int .u64 (wd lf 1 : Nat), .int .u64 (wd lf 2 : Nat), .int .u64 (wd lf 3 : Nat)] 24)) ga 24 #[.int .u64 (wd X 0 : Nat), .int .u64 (wd X 1 : Nat), .int .u64 (wd X 2 : Nat), .int .u64 (wd X 3 : Nat)] := Fa.out.alloc _
  have Nb : At (v5.alloc (.cells #[.int .u64 (wd lf 0 : Nat), .int .u64 (wd lf 1 : Nat), .int .u64 (wd lf 2 : Nat), .int .u64 (wd lf 3 : Nat)] 24)) gb 24 #[.int .u64 (wd Y 0 : Nat), .int .u64 (wd Y 1 : Nat), .int .u64 (wd Y 2 : Nat), .int .u64 (wd Y 3 : Nat)] := Fb.out.alloc _
  have Nc : At (v5.alloc (.cells #[.int .u64 (wd lf 0 : Nat), .int .u64 (wd lf 1 : Nat), .int .u64 (wd lf 2 : Nat), .int .u64 (wd lf 3 : Nat)] 24)) gc 24 #[.int .u64 (wd Z 0 : Nat), .int .u64 (wd Z 1 : Nat), .int .u64 (wd Z 2 : Nat), .int .u64 (wd Z 3 : Nat)] := Fc.out.alloc _
  have Nab : At (v5.alloc (.cells #[.int .u64 (wd lf 0 : Nat), .int .u64 (wd lf 1 : Nat), .int .u64 (wd lf 2 : Nat), .int .u64 (wd lf 3 : Nat)] 24)) gab 24 #[.int .u64 (wd ab 0 : Nat), .int .u64 (wd ab 1 : Nat), .int .u64 (wd ab 2 : Nat), .int .u64 (wd ab 3 : Nat)] := Fab.out.alloc _
  have Nba : At (v5.alloc (.cells #[.int .u64 (wd lf 0 : Nat), .int .u64 (wd lf 1 : Nat), .int .u64 (wd lf 2 : Nat), .int .u64 (wd lf 3 : Nat)] 24)) gba 24 #[.int .u64 (wd ab 0 : Nat), .int .u64 (wd ab 1 : Nat), .int .u64 (wd ab 2 : Nat), .int .u64 (wd ab 3 : Nat)] := Fba.out.alloc _
  have NB : Below w.heap.size w (v5.alloc (.cells #[.int .u64 (wd lf 0 : Nat), .int .u64 (wd lf 1 : Nat), .int .u64 (wd lf 2 : Nat), .int .u64 (wd lf 3 : Nat)] 24)) := gr_alloc BW.out _
  clear BW Fa Fb Fc Fab Fba
  generalize (v5.alloc (.cells #[.int .u64 (wd lf 0 : Nat), .int .u64 (wd lf 1 : Nat), .int .u64 (wd lf 2 : Nat), .int .u64 (wd lf 3 : Nat)] 24)) = W6 at *
  generalize v5.heap.size = glf at *
  have Fa := Lib.hid Na
  have Fb := Lib.hid Nb
  have Fc := Lib.hid Nc
  have Fab := Lib.hid Nab
  have Fba := Lib.hid Nba
  have Flf := Lib.hid Nlf
  have BW := Lib.hid NB
  clear NB Na Nb Nc Nab Nba Nlf
  refine (A4.out _).mono ?_
  rintro e v7 ⟨rfl, z7⟩
  have Na := Lib.hid (Fa.out.on z7)
  have Nb := Lib.hid (Fb.out.on z7)
  have Nc := Lib.hid (Fc.out.on z7)
  have Nab := Lib.hid (Fab.out.on z7)
  have Nba := Lib.hid (Fba.out.on z7)
  have Nlf := Lib.hid (Flf.out.on z7)
  have NB := Lib.hid (bel_tr BW.out z7)
  clear BW z7 Fa Fb Fc Fab Fba Flf
  have Fa := Na
  have Fb := Nb
  have Fc := Nc
  have Fab := Nab
  have Fba := Nba
  have Flf := Nlf
  have BW := NB
  clear NB Na Nb Nc Nab Nba Nlf
  have La := Fa.out.lt
  have ca0 : v7.cell? ⟨ga, 0, none⟩ = some (.int .u64 (wd X 0 : Nat)) := Fa.out.cell 0
  have ca1 : v7.cell? ⟨ga, 1, none⟩ = some (.int .u64 (wd X 1 : Nat)) := Fa.out.cell 1
  have ca2 : v7.cell? ⟨ga, 2, none⟩ = some (.int .u64 (wd X 2 : Nat)) := Fa.out.cell 2
  have ca3 : v7.cell? ⟨ga, 3, none⟩ = some (.int .u64 (wd X 3 : Nat)) := Fa.out.cell 3
  go_wp2_with fail
  clear La ca0 ca1 ca2 ca3
  have Nbc : At (v7.alloc (.cells #[.int .u64 (wd bc 0 : Nat), .int .u64 (wd bc 1 : Nat), .int .u64 (wd bc 2 : Nat), .int .u64 (wd bc 3 : Nat)] 24)) (v7.heap.size) 24 #[.int .u64 (wd bc 0 : Nat), .int .u64 (wd bc 1 : Nat), .int .u64 (wd bc 2 : Nat), .int .u64 (wd bc 3 : Nat)] := At.at_ _ _ _ _ (by simp)
  have Na : At (v7.alloc (.cells #[.int .u64 (wd bc 0 : Nat), .int .u64 (wd bc 1 : Nat), .int .u64 (wd bc 2 : Nat), .int .u64 (wd bc 3 : Nat)] 24)) ga 24 #[.int .u64 (wd X 0 : Nat), .int .u64 (wd X 1 : Nat), .int .u64 (wd X 2 : Nat), .int .u64 (wd X 3 : Nat)] := Fa.out.alloc _
  have Nb : At (v7.alloc (.cells #[.int .u64 (wd bc 0 : Nat), .int .u64 (wd bc 1 : Nat), .int .u64 (wd bc 2 : Nat), .int .u64 (wd bc 3 : Nat)] 24)) gb 24 #[.int .u64 (wd Y 0 : Nat), .int .u64 (wd Y 1 : Nat), .int .u64 (wd Y 2 : Nat), .int .u64 (wd Y 3 : Nat)] := Fb.out.alloc _
  have Nc : At (v7.alloc (.cells #[.int .u64 (wd bc 0 : Nat), .int .u64 (wd bc 1 : Nat), .int .u64 (wd bc 2 : Nat), .int .u64 (wd bc 3 : Nat)] 24)) gc 24 #[.int .u64 (wd Z 0 : Nat), .int .u64 (wd Z 1 : Nat), .int .u64 (wd Z 2 : Nat), .int .u64 (wd Z 3 : Nat)] := Fc.out.alloc _
  have Nab : At (v7.alloc (.cells #[.int .u64 (wd bc 0 : Nat), .int .u64 (wd bc 1 : Nat), .int .u64 (wd bc 2 : Nat), .int .u64 (wd bc 3 : Nat)] 24)) gab 24 #[.int .u64 (wd ab 0 : Nat), .int .u64 (wd ab 1 : Nat), .int .u64 (wd ab 2 : Nat), .int .u64 (wd ab 3 : Nat)] := Fab.out.alloc _
  have Nba : At (v7.alloc (.cells #[.int .u64 (wd bc 0 : Nat), .int .u64 (wd bc 1 : Nat), .int .u64 (wd bc 2 : Nat), .int .u64 (wd bc 3 : Nat)] 24)) gba 24 #[.int .u64 (wd ab 0 : Nat), .int .u64 (wd ab 1 : Nat), .int .u64 (wd ab 2 : Nat), .int .u64 (wd ab 3 : Nat)] := Fba.out.alloc _
  have Nlf : At (v7.alloc (.cells #[.int .u64 (wd bc 0 : Nat), .int .u64 (wd bc 1 : Nat), .int .u64 (wd bc 2 : Nat), .int .u64 (wd bc 3 : Nat)] 24)) glf 24 #[.int .u64 (wd lf 0 : Nat), .int .u64 (wd lf 1 : Nat), .int .u64 (wd lf 2 : Nat), .int .u64 (wd lf 3 : Nat)] := Flf.out.alloc _
  have NB : Below w.heap.size w (v7.alloc (.cells #[.int .u64 (wd bc 0 : Nat), .int .u64 (wd bc 1 : Nat), .int .u64 (wd bc 2 : Nat), .int .u64 (wd bc 3 : Nat)] 24)) := gr_alloc BW.out _
  clear BW Fa Fb Fc Fab Fba Flf
  generalize (v7.alloc (.cells #[.int .u64 (wd bc 0 : Nat), .int .u64 (wd bc 1 : Nat), .int .u64 (wd bc 2 : Nat), .int .u64 (wd bc 3 : Nat)] 24)) = W8 at *
  generalize v7.heap.size = gbc at *
  have Fa := Lib.hid Na
  have Fb := Lib.hid Nb
  have Fc := Lib.hid Nc
  have Fab := Lib.hid Nab
  have Fba := Lib.hid Nba
  have Flf := Lib.hid Nlf
  have Fbc := Lib.hid Nbc
  have BW := Lib.hid NB
  clear NB Na Nb Nc Nab Nba Nlf Nbc
  refine (A5.out _).mono ?_
  rintro e v9 ⟨rfl, z9⟩
  have Na := Lib.hid (Fa.out.on z9)
  have Nb := Lib.hid (Fb.out.on z9)
  have Nc := Lib.hid (Fc.out.on z9)
  have Nab := Lib.hid (Fab.out.on z9)
  have Nba := Lib.hid (Fba.out.on z9)
  have Nlf := Lib.hid (Flf.out.on z9)
  have Nbc := Lib.hid (Fbc.out.on z9)
  have NB := Lib.hid (bel_tr BW.out z9)
  clear BW z9 Fa Fb Fc Fab Fba Flf Fbc
  have Fa := Na
  have Fb := Nb
  have Fc := Nc
  have Fab := Nab
  have Fba := Nba
  have Flf := Nlf
  have Fbc := Nbc
  have BW := NB
  clear NB Na Nb Nc Nab Nba Nlf Nbc
  have Lab := Fab.out.lt
  have cab0 : v9.cell? ⟨gab, 0, none⟩ = some (.int .u64 (wd ab 0 : Nat)) := Fab.out.cell 0
  have cab1 : v9.cell? ⟨gab, 1, none⟩ = some (.int .u64 (wd ab 1 : Nat)) := Fab.out.cell 1
  have cab2 : v9.cell? ⟨gab, 2, none⟩ = some (.int .u64 (wd ab 2 : Nat)) := Fab.out.cell 2
  have cab3 : v9.cell? ⟨gab, 3, none⟩ = some (.int .u64 (wd ab 3 : Nat)) := Fab.out.cell 3
  have Lb := Fb.out.lt
  have cb0 : v9.cell? ⟨gb, 0, none⟩ = some (.int .u64 (wd Y 0 : Nat)) := Fb.out.cell 0
  have cb1 : v9.cell? ⟨gb, 1, none⟩ = some (.int .u64 (wd Y 1 : Nat)) := Fb.out.cell 1
  have cb2 : v9.cell? ⟨gb, 2, none⟩ = some (.int .u64 (wd Y 2 : Nat)) := Fb.out.cell 2
  have cb3 : v9.cell? ⟨gb, 3, none⟩ = some (.int .u64 (wd Y 3 : Nat)) := Fb.out.cell 3
  go_wp2_with fail
  clear Lab cab0 cab1 cab2 cab3 Lb cb0 cb1 cb2 cb3
  have Nrt : At (v9.alloc (.cells #[.int .u64 (wd lf 0 : Nat), .int .u64 (wd lf 1 : Nat), .int .u64 (wd lf 2 : Nat), .int .u64 (wd lf 3 : Nat)] 24)) (v9.heap.size) 24 #[.int .u64 (wd lf 0 : Nat), .int .u64 (wd lf 1 : Nat), .int .u64 (wd lf 2 : Nat), .int .u64 (wd lf 3 : Nat)] := At.at_ _ _ _ _ (by simp)
  have Na : At (v9.alloc (.cells #[.int .u64 (wd lf 0 : Nat), .int .u64 (wd lf 1 : Nat), .int .u64 (wd lf 2 : Nat), .int .u64 (wd lf 3 : Nat)] 24)) ga 24 #[.int .u64 (wd X 0 : Nat), .int .u64 (wd X 1 : Nat), .int .u64 (wd X 2 : Nat), .int .u64 (wd X 3 : Nat)] := Fa.out.alloc _
  have Nb : At (v9.alloc (.cells #[.int .u64 (wd lf 0 : Nat), .int .u64 (wd lf 1 : Nat), .int .u64 (wd lf 2 : Nat), .int .u64 (wd lf 3 : Nat)] 24)) gb 24 #[.int .u64 (wd Y 0 : Nat), .int .u64 (wd Y 1 : Nat), .int .u64 (wd Y 2 : Nat), .int .u64 (wd Y 3 : Nat)] := Fb.out.alloc _
  have Nc : At (v9.alloc (.cells #[.int .u64 (wd lf 0 : Nat), .int .u64 (wd lf 1 : Nat), .int .u64 (wd lf 2 : Nat), .int .u64 (wd lf 3 : Nat)] 24)) gc 24 #[.int .u64 (wd Z 0 : Nat), .int .u64 (wd Z 1 : Nat), .int .u64 (wd Z 2 : Nat), .int .u64 (wd Z 3 : Nat)] := Fc.out.alloc _
  have Nab : At (v9.alloc (.cells #[.int .u64 (wd lf 0 : Nat), .int .u64 (wd lf 1 : Nat), .int .u64 (wd lf 2 : Nat), .int .u64 (wd lf 3 : Nat)] 24)) gab 24 #[.int .u64 (wd ab 0 : Nat), .int .u64 (wd ab 1 : Nat), .int .u64 (wd ab 2 : Nat), .int .u64 (wd ab 3 : Nat)] := Fab.out.alloc _
  have Nba : At (v9.alloc (.cells #[.int .u64 (wd lf 0 : Nat), .int .u64 (wd lf 1 : Nat), .int .u64 (wd lf 2 : Nat), .int .u64 (wd lf 3 : Nat)] 24)) gba 24 #[.int .u64 (wd ab 0 : Nat), .int .u64 (wd ab 1 : Nat), .int .u64 (wd ab 2 : Nat), .int .u64 (wd ab 3 : Nat)] := Fba.out.alloc _
  have Nlf : At (v9.alloc (.cells #[.int .u64 (wd lf 0 : Nat), .int .u64 (wd lf 1 : Nat), .int .u64 (wd lf 2 : Nat), .int .u64 (wd lf 3 : Nat)] 24)) glf 24 #[.int .u64 (wd lf 0 : Nat), .int .u64 (wd lf 1 : Nat), .int .u64 (wd lf 2 : Nat), .int .u64 (wd lf 3 : Nat)] := Flf.out.alloc _
  have Nbc : At (v9.alloc (.cells #[.int .u64 (wd lf 0 : Nat), .int .u64 (wd lf 1 : Nat), .int .u64 (wd lf 2 : Nat), .int .u64 (wd lf 3 : Nat)] 24)) gbc 24 #[.int .u64 (wd bc 0 : Nat), .int .u64 (wd bc 1 : Nat), .int .u64 (wd bc 2 : Nat), .int .u64 (wd bc 3 : Nat)] := Fbc.out.alloc _
  have NB : Below w.heap.size w (v9.alloc (.cells #[.int .u64 (wd lf 0 : Nat), .int .u64 (wd lf 1 : Nat), .int .u64 (wd lf 2 : Nat), .int .u64 (wd lf 3 : Nat)] 24)) := gr_alloc BW.out _
  clear BW Fa Fb Fc Fab Fba Flf Fbc
  generalize (v9.alloc (.cells #[.int .u64 (wd lf 0 : Nat), .int .u64 (wd lf 1 : Nat), .int .u64 (wd lf 2 : Nat), .int .u64 (wd lf 3 : Nat)] 24)) = W10 at *
  generalize v9.heap.size = grt at *
  have Fa := Lib.hid Na
  have Fb := Lib.hid Nb
  have Fc := Lib.hid Nc
  have Fab := Lib.hid Nab
  have Fba := Lib.hid Nba
  have Flf := Lib.hid Nlf
  have Fbc := Lib.hid Nbc
  have Frt := Lib.hid Nrt
  have BW := Lib.hid NB
  clear NB Na Nb Nc Nab Nba Nlf Nbc Nrt
  refine (A6.out _).mono ?_
  rintro e v11 ⟨rfl, z11⟩
  have Na := Lib.hid (Fa.out.on z11)
  have Nb := Lib.hid (Fb.out.on z11)
  have Nc := Lib.hid (Fc.out.on z11)
  have Nab := Lib.hid (Fab.out.on z11)
  have Nba := Lib.hid (Fba.out.on z11)
  have Nlf := Lib.hid (Flf.out.on z11)
  have Nbc := Lib.hid (Fbc.out.on z11)
  have Nrt := Lib.hid (Frt.out.on z11)
  have NB := Lib.hid (bel_tr BW.out z11)
  clear BW z11 Fa Fb Fc Fab Fba Flf Fbc Frt
  have Fa := Na
  have Fb := Nb
  have Fc := Nc
  have Fab := Nab
  have Fba := Nba
  have Flf := Nlf
  have Fbc := Nbc
  have Frt := Nrt
  have BW := NB
  clear NB Na Nb Nc Nab Nba Nlf Nbc Nrt
  have La := Fa.out.lt
  have ca0 : v11.cell? ⟨ga, 0, none⟩ = some (.int .u64 (wd X 0 : Nat)) := Fa.out.cell 0
  have ca1 : v11.cell? ⟨ga, 1, none⟩ = some (.int .u64 (wd X 1 : Nat)) := Fa.out.cell 1
  have ca2 : v11.cell? ⟨ga, 2, none⟩ = some (.int .u64 (wd X 2 : Nat)) := Fa.out.cell 2
  have ca3 : v11.cell? ⟨ga, 3, none⟩ = some (.int .u64 (wd X 3 : Nat)) := Fa.out.cell 3
  go_wp2_with fail
  clear La ca0 ca1 ca2 ca3
  have Nbk : At (v11.alloc (.cells #[.int .u64 (wd X 0 : Nat), .int .u64 (wd X 1 : Nat), .int .u64 (wd X 2 : Nat), .int .u64 (wd X 3 : Nat)] 24)) (v11.heap.size) 24 #[.int .u64 (wd X 0 : Nat), .int .u64 (wd X 1 : Nat), .int .u64 (wd X 2 : Nat), .int .u64 (wd X 3 : Nat)] := At.at_ _ _ _ _ (by simp)
  have Na : At (v11.alloc (.cells #[.int .u64 (wd X 0 : Nat), .int .u64 (wd X 1 : Nat), .int .u64 (wd X 2 : Nat), .int .u64 (wd X 3 : Nat)] 24)) ga 24 #[.int .u64 (wd X 0 : Nat), .int .u64 (wd X 1 : Nat), .int .u64 (wd X 2 : Nat), .int .u64 (wd X 3 : Nat)] := Fa.out.alloc _
  have Nb : At (v11.alloc (.cells #[.int .u64 (wd X 0 : Nat), .int .u64 (wd X 1 : Nat), .int .u64 (wd X 2 : Nat), .int .u64 (wd X 3 : Nat)] 24)) gb 24 #[.int .u64 (wd Y 0 : Nat), .int .u64 (wd Y 1 : Nat), .int .u64 (wd Y 2 : Nat), .int .u64 (wd Y 3 : Nat)] := Fb.out.alloc _
  have Nc : At (v11.alloc (.cells #[.int .u64 (wd X 0 : Nat), .int .u64 (wd X 1 : Nat), .int .u64 (wd X 2 : Nat), .int .u64 (wd X 3 : Nat)] 24)) gc 24 #[.int .u64 (wd Z 0 : Nat), .int .u64 (wd Z 1 : Nat), .int .u64 (wd Z 2 : Nat), .int .u64 (wd Z 3 : Nat)] := Fc.out.alloc _
  have Nab : At (v11.alloc (.cells #[.int .u64 (wd X 0 : Nat), .int .u64 (wd X 1 : Nat), .int .u64 (wd X 2 : Nat), .int .u64 (wd X 3 : Nat)] 24)) gab 24 #[.int .u64 (wd ab 0 : Nat), .int .u64 (wd ab 1 : Nat), .int .u64 (wd ab 2 : Nat), .int .u64 (wd ab 3 : Nat)] := Fab.out.alloc _
  have Nba : At (v11.alloc (.cells #[.int .u64 (wd X 0 : Nat), .int .u64 (wd X 1 : Nat), .int .u64 (wd X 2 : Nat), .int .u64 (wd X 3 : Nat)] 24)) gba 24 #[.int .u64 (wd ab 0 : Nat), .int .u64 (wd ab 1 : Nat), .int .u64 (wd ab 2 : Nat), .int .u64 (wd ab 3 : Nat)] := Fba.out.alloc _
  have Nlf : At (v11.alloc (.cells #[.int .u64 (wd X 0 : Nat), .int .u64 (wd X 1 : Nat), .int .u64 (wd X 2 : Nat), .int .u64 (wd X 3 : Nat)] 24)) glf 24 #[.int .u64 (wd lf 0 : Nat), .int .u64 (wd lf 1 : Nat), .int .u64 (wd lf 2 : Nat), .int .u64 (wd lf 3 : Nat)] := Flf.out.alloc _
  have Nbc : At (v11.alloc (.cells #[.int .u64 (wd X 0 : Nat), .int .u64 (wd X 1 : Nat), .int .u64 (wd X 2 : Nat), .int .u64 (wd X 3 : Nat)] 24)) gbc 24 #[.int .u64 (wd bc 0 : Nat), .int .u64 (wd bc 1 : Nat), .int .u64 (wd bc 2 : Nat), .int .u64 (wd bc 3 : Nat)] := Fbc.out.alloc _
  have Nrt : At (v11.alloc (.cells #[.int .u64 (wd X 0 : Nat), .int .u64 (wd X 1 : Nat), .int .u64 (wd X 2 : Nat), .int .u64 (wd X 3 : Nat)] 24)) grt 24 #[.int .u64 (wd lf 0 : Nat), .int .u64 (wd lf 1 : Nat), .int .u64 (wd lf 2 : Nat), .int .u64 (wd lf 3 : Nat)] := Frt.out.alloc _
  have NB : Below w.heap.size w (v11.alloc (.cells #[.int .u64 (wd X 0 : Nat), .int .u64 (wd X 1 : Nat), .int .u64 (wd X 2 : Nat), .int .u64 (wd X 3 : Nat)] 24)) := gr_alloc BW.out _
  clear BW Fa Fb Fc Fab Fba Flf Fbc Frt
  generalize (v11.alloc (.cells #[.int .u64 (wd X 0 : Nat), .int .u64 (wd X 1 : Nat), .int .u64 (wd X 2 : Nat), .int .u64 (wd X 3 : Nat)] 24)) = W12 at *
  generalize v11.heap.size = gbk at *
  have Fa := Lib.hid Na
  have Fb := Lib.hid Nb
  have Fc := Lib.hid Nc
  have Fab := Lib.hid Nab
  have Fba := Lib.hid Nba
  have Flf := Lib.hid Nlf
  have Fbc := Lib.hid Nbc
  have Frt := Lib.hid Nrt
  have Fbk := Lib.hid Nbk
  have BW := Lib.hid NB
  clear NB Na Nb Nc Nab Nba Nlf Nbc Nrt Nbk
  refine (A7.out _).mono ?_
  rintro e v13 ⟨rfl, z13⟩
  have Na := Lib.hid (Fa.out.on z13)
  have Nb := Lib.hid (Fb.out.on z13)
  have Nc := Lib.hid (Fc.out.on z13)
  have Nab := Lib.hid (Fab.out.on z13)
  have Nba := Lib.hid (Fba.out.on z13)
  have Nlf := Lib.hid (Flf.out.on z13)
  have Nbc := Lib.hid (Fbc.out.on z13)
  have Nrt := Lib.hid (Frt.out.on z13)
  have Nbk := Lib.hid (Fbk.out.on z13)
  have NB := Lib.hid (bel_tr BW.out z13)
  clear BW z13 Fa Fb Fc Fab Fba Flf Fbc Frt Fbk
  have Fa := Na
  have Fb := Nb
  have Fc := Nc
  have Fab := Nab
  have Fba := Nba
  have Flf := Nlf
  have Fbc := Nbc
  have Frt := Nrt
  have Fbk := Nbk
  have BW := NB
  clear NB Na Nb Nc Nab Nba Nlf Nbc Nrt Nbk
  go_wp2_with fail
  have Nnn : At (v13.alloc (.cells #[.int .u64 (wd 0 0 : Nat), .int .u64 (wd 0 1 : Nat), .int .u64 (wd 0 2 : Nat), .int .u64 (wd 0 3 : Nat)] 24)) (v13.heap.size) 24 #[.int .u64 (wd 0 0 : Nat), .int .u64 (wd 0 1 : Nat), .int .u64 (wd 0 2 : Nat), .int .u64 (wd 0 3 : Nat)] := At.at_ _ _ _ _ (by simp)
  have Na : At (v13.alloc (.cells #[.int .u64 (wd 0 0 : Nat), .int .u64 (wd 0 1 : Nat), .int .u64 (wd 0 2 : Nat), .int .u64 (wd 0 3 : Nat)] 24)) ga 24 #[.int .u64 (wd X 0 : Nat), .int .u64 (wd X 1 : Nat), .int .u64 (wd X 2 : Nat), .int .u64 (wd X 3 : Nat)] := Fa.out.alloc _
  have Nb : At (v13.alloc (.cells #[.int .u64 (wd 0 0 : Nat), .int .u64 (wd 0 1 : Nat), .int .u64 (wd 0 2 : Nat), .int .u64 (wd 0 3 : Nat)] 24)) gb 24 #[.int .u64 (wd Y 0 : Nat), .int .u64 (wd Y 1 : Nat), .int .u64 (wd Y 2 : Nat), .int .u64 (wd Y 3 : Nat)] := Fb.out.alloc _
  have Nc : At (v13.alloc (.cells #[.int .u64 (wd 0 0 : Nat), .int .u64 (wd 0 1 : Nat), .int .u64 (wd 0 2 : Nat), .int .u64 (wd 0 3 : Nat)] 24)) gc 24 #[.int .u64 (wd Z 0 : Nat), .int .u64 (wd Z 1 : Nat), .int .u64 (wd Z 2 : Nat), .int .u64 (wd Z 3 : Nat)] := Fc.out.alloc _
  have Nab : At (v13.alloc (.cells #[.int .u64 (wd 0 0 : Nat), .int .u64 (wd 0 1 : Nat), .int .u64 (wd 0 2 : Nat), .int .u64 (wd 0 3 : Nat)] 24)) gab 24 #[.int .u64 (wd ab 0 : Nat), .int .u64 (wd ab 1 : Nat), .int .u64 (wd ab 2 : Nat), .int .u64 (wd ab 3 : Nat)] := Fab.out.alloc _
  have Nba : At (v13.alloc (.cells #[.int .u64 (wd 0 0 : Nat), .int .u64 (wd 0 1 : Nat), .int .u64 (wd 0 2 : Nat), .int .u64 (wd 0 3 : Nat)] 24)) gba 24 #[.int .u64 (wd ab 0 : Nat), .int .u64 (wd ab 1 : Nat), .int .u64 (wd ab 2 : Nat), .int .u64 (wd ab 3 : Nat)] := Fba.out.alloc _
  have Nlf : At (v13.alloc (.cells #[.int .u64 (wd 0 0 : Nat), .int .u64 (wd 0 1 : Nat), .int .u64 (wd 0 2 : Nat), .int .u64 (wd 0 3 : Nat)] 24)) glf 24 #[.int .u64 (wd lf 0 : Nat), .int .u64 (wd lf 1 : Nat), .int .u64 (wd lf 2 : Nat), .int .u64 (wd lf 3 : Nat)] := Flf.out.alloc _
  have Nbc : At (v13.alloc (.cells #[.int .u64 (wd 0 0 : Nat), .int .u64 (wd 0 1 : Nat), .int .u64 (wd 0 2 : Nat), .int .u64 (wd 0 3 : Nat)] 24)) gbc 24 #[.int .u64 (wd bc 0 : Nat), .int .u64 (wd bc 1 : Nat), .int .u64 (wd bc 2 : Nat), .int .u64 (wd bc 3 : Nat)] := Fbc.out.alloc _
  have Nrt : At (v13.alloc (.cells #[.int .u64 (wd 0 0 : Nat), .int .u64 (wd 0 1 : Nat), .int .u64 (wd 0 2 : Nat), .int .u64 (wd 0 3 : Nat)] 24)) grt 24 #[.int .u64 (wd lf 0 : Nat), .int .u64 (wd lf 1 : Nat), .int .u64 (wd lf 2 : Nat), .int .u64 (wd lf 3 : Nat)] := Frt.out.alloc _
  have Nbk : At (v13.alloc (.cells #[.int .u64 (wd 0 0 : Nat), .int .u64 (wd 0 1 : Nat), .int .u64 (wd 0 2 : Nat), .int .u64 (wd 0 3 : Nat)] 24)) gbk 24 #[.int .u64 (wd X 0 : Nat), .int .u64 (wd X 1 : Nat), .int .u64 (wd X 2 : Nat), .int .u64 (wd X 3 : Nat)] := Fbk.out.alloc _
  have NB : Below w.heap.size w (v13.alloc (.cells #[.int .u64 (wd 0 0 : Nat), .int .u64 (wd 0 1 : Nat), .int .u64 (wd 0 2 : Nat), .int .u64 (wd 0 3 : Nat)] 24)) := gr_alloc BW.out _
  clear BW Fa Fb Fc Fab Fba Flf Fbc Frt Fbk
  generalize (v13.alloc (.cells #[.int .u64 (wd 0 0 : Nat), .int .u64 (wd 0 1 : Nat), .int .u64 (wd 0 2 : Nat), .int .u64 (wd 0 3 : Nat)] 24)) = W14 at *
  generalize v13.heap.size = gnn at *
  have Fa := Lib.hid Na
  have Fb := Lib.hid Nb
  have Fc := Lib.hid Nc
  have Fab := Lib.hid Nab
  have Fba := Lib.hid Nba
  have Flf := Lib.hid Nlf
  have Fbc := Lib.hid Nbc
  have Frt := Lib.hid Nrt
  have Fbk := Lib.hid Nbk
  have Fnn := Lib.hid Nnn
  have BW := Lib.hid NB
  clear NB Na Nb Nc Nab Nba Nlf Nbc Nrt Nbk Nnn
  have HK : ∀ w', Below W14.heap.size W14 w' → (w'.cell? ⟨gab, 0, none⟩ = some (.int .u64 (wd ab 0 : Nat)) ∧ w'.cell? ⟨gab, 1, none⟩ = some (.int .u64 (wd ab 1 : Nat)) ∧ w'.cell? ⟨gab, 2, none⟩ = some (.int .u64 (wd ab 2 : Nat)) ∧ w'.cell? ⟨gab, 3, none⟩ = some (.int .u64 (wd ab 3 : Nat)) ∧ w'.cell? ⟨gba, 0, none⟩ = some (.int .u64 (wd ab 0 : Nat)) ∧ w'.cell? ⟨gba, 1, none⟩ = some (.int .u64 (wd ab 1 : Nat)) ∧ w'.cell? ⟨gba, 2, none⟩ = some (.int .u64 (wd ab 2 : Nat)) ∧ w'.cell? ⟨gba, 3, none⟩ = some (.int .u64 (wd ab 3 : Nat)) ∧ w'.cell? ⟨glf, 0, none⟩ = some (.int .u64 (wd lf 0 : Nat)) ∧ w'.cell? ⟨glf, 1, none⟩ = some (.int .u64 (wd lf 1 : Nat)) ∧ w'.cell? ⟨glf, 2, none⟩ = some (.int .u64 (wd lf 2 : Nat)) ∧ w'.cell? ⟨glf, 3, none⟩ = some (.int .u64 (wd lf 3 : Nat)) ∧ w'.cell? ⟨grt, 0, none⟩ = some (.int .u64 (wd lf 0 : Nat)) ∧ w'.cell? ⟨grt, 1, none⟩ = some (.int .u64 (wd lf 1 : Nat)) ∧ w'.cell? ⟨grt, 2, none⟩ = some (.int .u64 (wd lf 2 : Nat)) ∧ w'.cell? ⟨grt, 3, none⟩ = some (.int .u64 (wd lf 3 : Nat)) ∧ w'.cell? ⟨gbk, 0, none⟩ = some (.int .u64 (wd X 0 : Nat)) ∧ w'.cell? ⟨gbk, 1, none⟩ = some (.int .u64 (wd X 1 : Nat)) ∧ w'.cell? ⟨gbk, 2, none⟩ = some (.int .u64 (wd X 2 : Nat)) ∧ w'.cell? ⟨gbk, 3, none⟩ = some (.int .u64 (wd X 3 : Nat)) ∧ w'.cell? ⟨ga, 0, none⟩ = some (.int .u64 (wd X 0 : Nat)) ∧ w'.cell? ⟨ga, 1, none⟩ = some (.int .u64 (wd X 1 : Nat)) ∧ w'.cell? ⟨ga, 2, none⟩ = some (.int .u64 (wd X 2 : Nat)) ∧ w'.cell? ⟨ga, 3, none⟩ = some (.int .u64 (wd X 3 : Nat)) ∧ w'.cell? ⟨gnn, 0, none⟩ = some (.int .u64 (wd 0 0 : Nat)) ∧ w'.cell? ⟨gnn, 1, none⟩ = some (.int .u64 (wd 0 1 : Nat)) ∧ w'.cell? ⟨gnn, 2, none⟩ = some (.int .u64 (wd 0 2 : Nat)) ∧ w'.cell? ⟨gnn, 3, none⟩ = some (.int .u64 (wd 0 3 : Nat)) ∧ Below W14.heap.size W14 w') := fun w' h => ⟨cell_on h (Fab.out.cell 0), cell_on h (Fab.out.cell 1), cell_on h (Fab.out.cell 2), cell_on h (Fab.out.cell 3), cell_on h (Fba.out.cell 0), cell_on h (Fba.out.cell 1), cell_on h (Fba.out.cell 2), cell_on h (Fba.out.cell 3), cell_on h (Flf.out.cell 0), cell_on h (Flf.out.cell 1), cell_on h (Flf.out.cell 2), cell_on h (Flf.out.cell 3), cell_on h (Frt.out.cell 0), cell_on h (Frt.out.cell 1), cell_on h (Frt.out.cell 2), cell_on h (Frt.out.cell 3), cell_on h (Fbk.out.cell 0), cell_on h (Fbk.out.cell 1), cell_on h (Fbk.out.cell 2), cell_on h (Fbk.out.cell 3), cell_on h (Fa.out.cell 0), cell_on h (Fa.out.cell 1), cell_on h (Fa.out.cell 2), cell_on h (Fa.out.cell 3), cell_on h (Fnn.out.cell 0), cell_on h (Fnn.out.cell 1), cell_on h (Fnn.out.cell 2), cell_on h (Fnn.out.cell 3), h⟩
  clear Fa Fb Fc Fab Fba Flf Fbc Frt Fbk Fnn
  try simp only [List.append_eq, List.cons_append, List.nil_append]
  have B0 : Below W14.heap.size W14 W14.drew := (Below.refl _ _).drew
  refine wp_region_noPanic ?_
  refine wp_region_held_drew (S := fun w' => w'.cell? ⟨gab, 0, none⟩ = some (.int .u64 (wd ab 0 : Nat)) ∧ w'.cell? ⟨gab, 1, none⟩ = some (.int .u64 (wd ab 1 : Nat)) ∧ w'.cell? ⟨gab, 2, none⟩ = some (.int .u64 (wd ab 2 : Nat)) ∧ w'.cell? ⟨gab, 3, none⟩ = some (.int .u64 (wd ab 3 : Nat)) ∧ w'.cell? ⟨gba, 0, none⟩ = some (.int .u64 (wd ab 0 : Nat)) ∧ w'.cell? ⟨gba, 1, none⟩ = some (.int .u64 (wd ab 1 : Nat)) ∧ w'.cell? ⟨gba, 2, none⟩ = some (.int .u64 (wd ab 2 : Nat)) ∧ w'.cell? ⟨gba, 3, none⟩ = some (.int .u64 (wd ab 3 : Nat)) ∧ w'.cell? ⟨glf, 0, none⟩ = some (.int .u64 (wd lf 0 : Nat)) ∧ w'.cell? ⟨glf, 1, none⟩ = some (.int .u64 (wd lf 1 : Nat)) ∧ w'.cell? ⟨glf, 2, none⟩ = some (.int .u64 (wd lf 2 : Nat)) ∧ w'.cell? ⟨glf, 3, none⟩ = some (.int .u64 (wd lf 3 : Nat)) ∧ w'.cell? ⟨grt, 0, none⟩ = some (.int .u64 (wd lf 0 : Nat)) ∧ w'.cell? ⟨grt, 1, none⟩ = some (.int .u64 (wd lf 1 : Nat)) ∧ w'.cell? ⟨grt, 2, none⟩ = some (.int .u64 (wd lf 2 : Nat)) ∧ w'.cell? ⟨grt, 3, none⟩ = some (.int .u64 (wd lf 3 : Nat)) ∧ w'.cell? ⟨gbk, 0, none⟩ = some (.int .u64 (wd X 0 : Nat)) ∧ w'.cell? ⟨gbk, 1, none⟩ = some (.int .u64 (wd X 1 : Nat)) ∧ w'.cell? ⟨gbk, 2, none⟩ = some (.int .u64 (wd X 2 : Nat)) ∧ w'.cell? ⟨gbk, 3, none⟩ = some (.int .u64 (wd X 3 : Nat)) ∧ w'.cell? ⟨ga, 0, none⟩ = some (.int .u64 (wd X 0 : Nat)) ∧ w'.cell? ⟨ga, 1, none⟩ = some (.int .u64 (wd X 1 : Nat)) ∧ w'.cell? ⟨ga, 2, none⟩ = some (.int .u64 (wd X 2 : Nat)) ∧ w'.cell? ⟨ga, 3, none⟩ = some (.int .u64 (wd X 3 : Nat)) ∧ w'.cell? ⟨gnn, 0, none⟩ = some (.int .u64 (wd 0 0 : Nat)) ∧ w'.cell? ⟨gnn, 1, none⟩ = some (.int .u64 (wd 0 1 : Nat)) ∧ w'.cell? ⟨gnn, 2, none⟩ = some (.int .u64 (wd 0 2 : Nat)) ∧ w'.cell? ⟨gnn, 3, none⟩ = some (.int .u64 (wd 0 3 : Nat)) ∧ Below W14.heap.size W14 w') (by kernel_rfl) (HK _ B0) (fun hHeld => ?_)
  refine wpAnyH_ready (rs := [0]) (by kernel_rfl) (by simp) ?_
  refine AllReadyH.cons (o := ?_) ?_ ?_ AllReadyH.nil
  rotate_left
  · simp only [List.getElem?_toArray, List.getElem?_cons_succ, List.getElem?_cons_zero]; exact rfl
  intro K hK
  go_simp
  refine (alive_any _).mono ?_
  rintro e u1 ⟨rfl, y1⟩
  have B1 : Below W14.heap.size W14 u1 := bel_tr B0 y1
  clear y1 B0 hHeld
  refine hK.out _ _ (HK _ B1) (fun hHeld => ?_)
  clear hK K
  try simp only [Act.put, List.setIfInBounds_toArray, List.set_cons_zero, List.set_cons_succ]
  refine wpAnyH_take (i := 1) (oi := ?_) (v := ?_) ?_ (by kernel_rfl) (by kernel_rfl) (by kernel_rfl) (fun _ _ _ h => h) ?_ (by assumption) ?_
  rotate_left 2
  · simp only [List.getElem?_toArray, List.getElem?_cons_succ, List.getElem?_cons_zero]; exact rfl
  · refine Or.inl ⟨by rfl, ?_⟩; intro w hSw; (try dsimp only at hSw); go_simp; try with_reducible rfl
  try simp only [Act.put, List.setIfInBounds_toArray, List.set_cons_zero, List.set_cons_succ]
  refine wpAnyH_take (i := 2) (oi := ?_) (v := ?_) ?_ (by kernel_rfl) (by kernel_rfl) (by kernel_rfl) (fun _ _ _ h => h) ?_ (by assumption) ?_
  rotate_left 2
  · simp only [List.getElem?_toArray, List.getElem?_cons_succ, List.getElem?_cons_zero]; exact rfl
  · refine Or.inl ⟨by rfl, ?_⟩; intro w hSw; (try dsimp only at hSw); go_simp; try with_reducible rfl
  try simp only [Act.put, List.setIfInBounds_toArray, List.set_cons_zero, List.set_cons_succ]
  refine wpAnyH_take (i := 3) (oi := ?_) (v := ?_) ?_ (by kernel_rfl) (by kernel_rfl) (by kernel_rfl) (fun _ _ _ h => h) ?_ (by assumption) ?_
  rotate_left 2
  · simp only [List.getElem?_toArray, List.getElem?_cons_succ, List.getElem?_cons_zero]; exact rfl
  · refine Or.inl ⟨by rfl, ?_⟩; intro w hSw; (try dsimp only at hSw); go_simp; try with_reducible rfl
  try simp only [Act.put, List.setIfInBounds_toArray, List.set_cons_zero, List.set_cons_succ]
  refine wpAnyH_take (i := 4) (oi := ?_) (v := ?_) ?_ (by kernel_rfl) (by kernel_rfl) (by kernel_rfl) (fun _ _ _ h => h) ?_ (by assumption) ?_
  rotate_left 2
  · simp only [List.getElem?_toArray, List.getElem?_cons_succ, List.getElem?_cons_zero]; exact rfl
  · refine Or.inl ⟨by rfl, ?_⟩; intro w hSw; (try dsimp only at hSw); go_simp; try with_reducible rfl
  try simp only [Act.put, List.setIfInBounds_toArray, List.set_cons_zero, List.set_cons_succ]
  refine wpAnyH_take (i := 5) (oi := ?_) (v := ?_) ?_ (by kernel_rfl) (by kernel_rfl) (by kernel_rfl) (fun _ _ _ h => h) ?_ (by assumption) ?_
  rotate_left 2
  · simp only [List.getElem?_toArray, List.getElem?_cons_succ, List.getElem?_cons_zero]; exact rfl
  · refine Or.inl ⟨by rfl, ?_⟩; intro w hSw; (try dsimp only at hSw); go_simp; try with_reducible rfl
  try simp only [Act.put, List.setIfInBounds_toArray, List.set_cons_zero, List.set_cons_succ]
  refine wpAnyH_take (i := 6) (oi := ?_) (v := ?_) ?_ (by kernel_rfl) (by kernel_rfl) (by kernel_rfl) (fun _ _ _ h => h) ?_ (by assumption) ?_
  rotate_left 2
  · simp only [List.getElem?_toArray, List.getElem?_cons_succ, List.getElem?_cons_zero]; exact rfl
  · refine Or.inl ⟨by rfl, ?_⟩; intro w hSw; (try dsimp only at hSw); go_simp; try with_reducible rfl
  try simp only [Act.put, List.setIfInBounds_toArray, List.set_cons_zero, List.set_cons_succ]
  refine wpAnyH_take (i := 7) (oi := ?_) (v := ?_) ?_ (by kernel_rfl) (by kernel_rfl) (by kernel_rfl) (fun _ _ _ h => h) ?_ (by assumption) ?_
  rotate_left 2
  · simp only [List.getElem?_toArray, List.getElem?_cons_succ, List.getElem?_cons_zero]; exact rfl
  · refine Or.inl ⟨by rfl, ?_⟩; intro w hSw; (try dsimp only at hSw); go_simp; try with_reducible rfl
  try simp only [Act.put, List.setIfInBounds_toArray, List.set_cons_zero, List.set_cons_succ]
  refine wpAnyH_take (i := 8) (oi := ?_) (v := ?_) ?_ (by kernel_rfl) (by kernel_rfl) (by kernel_rfl) (fun _ _ _ h => h) ?_ (by assumption) ?_
  rotate_left 2
  · simp only [List.getElem?_toArray, List.getElem?_cons_succ, List.getElem?_cons_zero]; exact rfl
  · refine Or.inl ⟨by rfl, ?_⟩; intro w hSw; (try dsimp only at hSw); go_simp; try with_reducible rfl
  try simp only [Act.put, List.setIfInBounds_toArray, List.set_cons_zero, List.set_cons_succ]
  refine wpAnyH_take (i := 9) (oi := ?_) (v := ?_) ?_ (by kernel_rfl) (by kernel_rfl) (by kernel_rfl) (fun _ _ _ h => h) ?_ (by assumption) ?_
  rotate_left 2
  · simp only [List.getElem?_toArray, List.getElem?_cons_succ, List.getElem?_cons_zero]; exact rfl
  · refine Or.inl ⟨by rfl, ?_⟩; intro w hSw; (try dsimp only at hSw); go_simp; try with_reducible rfl
  try simp only [Act.put, List.setIfInBounds_toArray, List.set_cons_zero, List.set_cons_succ]
  refine wpAnyH_take (i := 10) (oi := ?_) (v := ?_) ?_ (by kernel_rfl) (by kernel_rfl) (by kernel_rfl) (fun _ _ _ h => h) ?_ (by assumption) ?_
  rotate_left 2
  · simp only [List.getElem?_toArray, List.getElem?_cons_succ, List.getElem?_cons_zero]; exact rfl
  · refine Or.inl ⟨by rfl, ?_⟩; intro w hSw; (try dsimp only at hSw); go_simp; try with_reducible rfl
  try simp only [Act.put, List.setIfInBounds_toArray, List.set_cons_zero, List.set_cons_succ]
  refine wpAnyH_take (i := 11) (oi := ?_) (v := ?_) ?_ (by kernel_rfl) (by kernel_rfl) (by kernel_rfl) (fun _ _ _ h => h) ?_ (by assumption) ?_
  rotate_left 2
  · simp only [List.getElem?_toArray, List.getElem?_cons_succ, List.getElem?_cons_zero]; exact rfl
  · refine Or.inl ⟨by rfl, ?_⟩; intro w hSw; (try dsimp only at hSw); go_simp; try with_reducible rfl
  try simp only [Act.put, List.setIfInBounds_toArray, List.set_cons_zero, List.set_cons_succ]
  refine wpAnyH_take (i := 12) (oi := ?_) (v := ?_) ?_ (by kernel_rfl) (by kernel_rfl) (by kernel_rfl) (fun _ _ _ h => h) ?_ (by assumption) ?_
  rotate_left 2
  · simp only [List.getElem?_toArray, List.getElem?_cons_succ, List.getElem?_cons_zero]; exact rfl
  · refine Or.inl ⟨by rfl, ?_⟩; intro w hSw; (try dsimp only at hSw); go_simp; try with_reducible rfl
  try simp only [Act.put, List.setIfInBounds_toArray, List.set_cons_zero, List.set_cons_succ]
  refine wpAnyH_take (i := 13) (oi := ?_) (v := ?_) ?_ (by kernel_rfl) (by kernel_rfl) (by kernel_rfl) (fun _ _ _ h => h) ?_ (by assumption) ?_
  rotate_left 2
  · simp only [List.getElem?_toArray, List.getElem?_cons_succ, List.getElem?_cons_zero]; exact rfl
  · refine Or.inl ⟨by rfl, ?_⟩; intro w hSw; (try dsimp only at hSw); go_simp; try with_reducible rfl
  try simp only [Act.put, List.setIfInBounds_toArray, List.set_cons_zero, List.set_cons_succ]
  refine wpAnyH_take (i := 14) (oi := ?_) (v := ?_) ?_ (by kernel_rfl) (by kernel_rfl) (by kernel_rfl) (fun _ _ _ h => h) ?_ (by assumption) ?_
  rotate_left 2
  · simp only [List.getElem?_toArray, List.getElem?_cons_succ, List.getElem?_cons_zero]; exact rfl
  · refine Or.inl ⟨by rfl, ?_⟩; intro w hSw; (try dsimp only at hSw); go_simp; try with_reducible rfl
  try simp only [Act.put, List.setIfInBounds_toArray, List.set_cons_zero, List.set_cons_succ]
  refine wpAnyH_take (i := 15) (oi := ?_) (v := ?_) ?_ (by kernel_rfl) (by kernel_rfl) (by kernel_rfl) (fun _ _ _ h => h) ?_ (by assumption) ?_
  rotate_left 2
  · simp only [List.getElem?_toArray, List.getElem?_cons_succ, List.getElem?_cons_zero]; exact rfl
  · refine Or.inl ⟨by rfl, ?_⟩; intro w hSw; (try dsimp only at hSw); go_simp; try with_reducible rfl
  try simp only [Act.put, List.setIfInBounds_toArray, List.set_cons_zero, List.set_cons_succ]
  refine wpAnyH_take (i := 16) (oi := ?_) (v := ?_) ?_ (by kernel_rfl) (by kernel_rfl) (by kernel_rfl) (fun _ _ _ h => h) ?_ (by assumption) ?_
  rotate_left 2
  · simp only [List.getElem?_toArray, List.getElem?_cons_succ, List.getElem?_cons_zero]; exact rfl
  · refine Or.inl ⟨by rfl, ?_⟩; intro w hSw; (try dsimp only at hSw); go_simp; try with_reducible rfl
  try simp only [Act.put, List.setIfInBounds_toArray, List.set_cons_zero, List.set_cons_succ]
  refine wpAnyH_take (i := 17) (oi := ?_) (v := ?_) ?_ (by kernel_rfl) (by kernel_rfl) (by kernel_rfl) (fun _ _ _ h => h) ?_ (by assumption) ?_
  rotate_left 2
  · simp only [List.getElem?_toArray, List.getElem?_cons_succ, List.getElem?_cons_zero]; exact rfl
  · refine Or.inl ⟨by rfl, ?_⟩; intro w hSw; (try dsimp only at hSw); go_simp; try with_reducible rfl
  try simp only [Act.put, List.setIfInBounds_toArray, List.set_cons_zero, List.set_cons_succ]
  refine wpAnyH_take (i := 18) (oi := ?_) (v := ?_) ?_ (by kernel_rfl) (by kernel_rfl) (by kernel_rfl) (fun _ _ _ h => h) ?_ (by assumption) ?_
  rotate_left 2
  · simp only [List.getElem?_toArray, List.getElem?_cons_succ, List.getElem?_cons_zero]; exact rfl
  · refine Or.inl ⟨by rfl, ?_⟩; intro w hSw; (try dsimp only at hSw); go_simp; try with_reducible rfl
  try simp only [Act.put, List.setIfInBounds_toArray, List.set_cons_zero, List.set_cons_succ]
  refine wpAnyH_take (i := 19) (oi := ?_) (v := ?_) ?_ (by kernel_rfl) (by kernel_rfl) (by kernel_rfl) (fun _ _ _ h => h) ?_ (by assumption) ?_
  rotate_left 2
  · simp only [List.getElem?_toArray, List.getElem?_cons_succ, List.getElem?_cons_zero]; exact rfl
  · refine Or.inl ⟨by rfl, ?_⟩; intro w hSw; (try dsimp only at hSw); go_simp; try with_reducible rfl
  try simp only [Act.put, List.setIfInBounds_toArray, List.set_cons_zero, List.set_cons_succ]
  refine wpAnyH_take (i := 20) (oi := ?_) (v := ?_) ?_ (by kernel_rfl) (by kernel_rfl) (by kernel_rfl) (fun _ _ _ h => h) ?_ (by assumption) ?_
  rotate_left 2
  · simp only [List.getElem?_toArray, List.getElem?_cons_succ, List.getElem?_cons_zero]; exact rfl
  · refine Or.inl ⟨by rfl, ?_⟩; intro w hSw; (try dsimp only at hSw); go_simp; try with_reducible rfl
  try simp only [Act.put, List.setIfInBounds_toArray, List.set_cons_zero, List.set_cons_succ]
  refine wpAnyH_take (i := 21) (oi := ?_) (v := ?_) ?_ (by kernel_rfl) (by kernel_rfl) (by kernel_rfl) (fun _ _ _ h => h) ?_ (by assumption) ?_
  rotate_left 2
  · simp only [List.getElem?_toArray, List.getElem?_cons_succ, List.getElem?_cons_zero]; exact rfl
  · refine Or.inl ⟨by rfl, ?_⟩; intro w hSw; (try dsimp only at hSw); go_simp; try with_reducible rfl
  try simp only [Act.put, List.setIfInBounds_toArray, List.set_cons_zero, List.set_cons_succ]
  refine wpAnyH_take (i := 22) (oi := ?_) (v := ?_) ?_ (by kernel_rfl) (by kernel_rfl) (by kernel_rfl) (fun _ _ _ h => h) ?_ (by assumption) ?_
  rotate_left 2
  · simp only [List.getElem?_toArray, List.getElem?_cons_succ, List.getElem?_cons_zero]; exact rfl
  · refine Or.inl ⟨by rfl, ?_⟩; intro w hSw; (try dsimp only at hSw); go_simp; try with_reducible rfl
  try simp only [Act.put, List.setIfInBounds_toArray, List.set_cons_zero, List.set_cons_succ]
  refine wpAnyH_take (i := 23) (oi := ?_) (v := ?_) ?_ (by kernel_rfl) (by kernel_rfl) (by kernel_rfl) (fun _ _ _ h => h) ?_ (by assumption) ?_
  rotate_left 2
  · simp only [List.getElem?_toArray, List.getElem?_cons_succ, List.getElem?_cons_zero]; exact rfl
  · refine Or.inl ⟨by rfl, ?_⟩; intro w hSw; (try dsimp only at hSw); go_simp; try with_reducible rfl
  try simp only [Act.put, List.setIfInBounds_toArray, List.set_cons_zero, List.set_cons_succ]
  refine wpAnyH_take (i := 24) (oi := ?_) (v := ?_) ?_ (by kernel_rfl) (by kernel_rfl) (by kernel_rfl) (fun _ _ _ h => h) ?_ (by assumption) ?_
  rotate_left 2
  · simp only [List.getElem?_toArray, List.getElem?_cons_succ, List.getElem?_cons_zero]; exact rfl
  · refine Or.inl ⟨by rfl, ?_⟩; intro w hSw; (try dsimp only at hSw); go_simp; try with_reducible rfl
  try simp only [Act.put, List.setIfInBounds_toArray, List.set_cons_zero, List.set_cons_succ]
  refine wpAnyH_take (i := 25) (oi := ?_) (v := ?_) ?_ (by kernel_rfl) (by kernel_rfl) (by kernel_rfl) (fun _ _ _ h => h) ?_ (by assumption) ?_
  rotate_left 2
  · simp only [List.getElem?_toArray, List.getElem?_cons_succ, List.getElem?_cons_zero]; exact rfl
  · refine Or.inl ⟨by rfl, ?_⟩; intro w hSw; (try dsimp only at hSw); go_simp; try with_reducible rfl
  try simp only [Act.put, List.setIfInBounds_toArray, List.set_cons_zero, List.set_cons_succ]
  refine wpAnyH_take (i := 26) (oi := ?_) (v := ?_) ?_ (by kernel_rfl) (by kernel_rfl) (by kernel_rfl) (fun _ _ _ h => h) ?_ (by assumption) ?_
  rotate_left 2
  · simp only [List.getElem?_toArray, List.getElem?_cons_succ, List.getElem?_cons_zero]; exact rfl
  · refine Or.inl ⟨by rfl, ?_⟩; intro w hSw; (try dsimp only at hSw); go_simp; try with_reducible rfl
  try simp only [Act.put, List.setIfInBounds_toArray, List.set_cons_zero, List.set_cons_succ]
  refine wpAnyH_take (i := 27) (oi := ?_) (v := ?_) ?_ (by kernel_rfl) (by kernel_rfl) (by kernel_rfl) (fun _ _ _ h => h) ?_ (by assumption) ?_
  rotate_left 2
  · simp only [List.getElem?_toArray, List.getElem?_cons_succ, List.getElem?_cons_zero]; exact rfl
  · refine Or.inl ⟨by rfl, ?_⟩; intro w hSw; (try dsimp only at hSw); go_simp; try with_reducible rfl
  try simp only [Act.put, List.setIfInBounds_toArray, List.set_cons_zero, List.set_cons_succ]
  refine wpAnyH_take (i := 28) (oi := ?_) (v := ?_) ?_ (by kernel_rfl) (by kernel_rfl) (by kernel_rfl) (fun _ _ _ h => h) ?_ (by assumption) ?_
  rotate_left 2
  · simp only [List.getElem?_toArray, List.getElem?_cons_succ, List.getElem?_cons_zero]; exact rfl
  · refine Or.inl ⟨by rfl, ?_⟩; intro w hSw; (try dsimp only at hSw); go_simp; try with_reducible rfl
  try simp only [Act.put, List.setIfInBounds_toArray, List.set_cons_zero, List.set_cons_succ]
  refine wpAnyH_take (i := 29) (oi := ?_) (v := ?_) ?_ (by kernel_rfl) (by kernel_rfl) (by kernel_rfl) (fun _ _ _ h => h) ?_ (by assumption) ?_
  rotate_left 2
  · simp only [List.getElem?_toArray, List.getElem?_cons_succ, List.getElem?_cons_zero]; exact rfl
  · refine Or.inl ⟨by rfl, ?_⟩; intro w hSw; (try dsimp only at hSw); go_simp; try with_reducible rfl
  try simp only [Act.put, List.setIfInBounds_toArray, List.set_cons_zero, List.set_cons_succ]
  refine wpAnyH_take (i := 30) (oi := ?_) (v := ?_) ?_ (by kernel_rfl) (by kernel_rfl) (by kernel_rfl) (fun _ _ _ h => h) ?_ (by assumption) ?_
  rotate_left 2
  · simp only [List.getElem?_toArray, List.getElem?_cons_succ, List.getElem?_cons_zero]; exact rfl
  · refine Or.inl ⟨by rfl, ?_⟩; intro w hSw; (try dsimp only at hSw); go_simp; try with_reducible rfl
  try simp only [Act.put, List.setIfInBounds_toArray, List.set_cons_zero, List.set_cons_succ]
  refine wpAnyH_take (i := 31) (oi := ?_) (v := ?_) ?_ (by kernel_rfl) (by kernel_rfl) (by kernel_rfl) (fun _ _ _ h => h) ?_ (by assumption) ?_
  rotate_left 2
  · simp only [List.getElem?_toArray, List.getElem?_cons_succ, List.getElem?_cons_zero]; exact rfl
  · refine Or.inl ⟨by rfl, ?_⟩; intro w hSw; (try dsimp only at hSw); go_simp; try with_reducible rfl
  try simp only [Act.put, List.setIfInBounds_toArray, List.set_cons_zero, List.set_cons_succ]
  refine wpAnyH_take (i := 32) (oi := ?_) (v := ?_) ?_ (by kernel_rfl) (by kernel_rfl) (by kernel_rfl) (fun _ _ _ h => h) ?_ (by assumption) ?_
  rotate_left 2
  · simp only [List.getElem?_toArray, List.getElem?_cons_succ, List.getElem?_cons_zero]; exact rfl
  · refine Or.inl ⟨by rfl, ?_⟩; intro w hSw; (try dsimp only at hSw); go_simp; try with_reducible rfl
  try simp only [Act.put, List.setIfInBounds_toArray, List.set_cons_zero, List.set_cons_succ]
  refine wpAnyH_take (i := 33) (oi := ?_) (v := ?_) ?_ (by kernel_rfl) (by kernel_rfl) (by kernel_rfl) (fun _ _ _ h => h) ?_ (by assumption) ?_
  rotate_left 2
  · simp only [List.getElem?_toArray, List.getElem?_cons_succ, List.getElem?_cons_zero]; exact rfl
  · refine Or.inl ⟨by rfl, ?_⟩; intro w hSw; (try dsimp only at hSw); go_simp; try with_reducible rfl
  try simp only [Act.put, List.setIfInBounds_toArray, List.set_cons_zero, List.set_cons_succ]
  refine wpAnyH_take (i := 34) (oi := ?_) (v := ?_) ?_ (by kernel_rfl) (by kernel_rfl) (by kernel_rfl) (fun _ _ _ h => h) ?_ (by assumption) ?_
  rotate_left 2
  · simp only [List.getElem?_toArray, List.getElem?_cons_succ, List.getElem?_cons_zero]; exact rfl
  · refine Or.inl ⟨by rfl, ?_⟩; intro w hSw; (try dsimp only at hSw); go_simp; try with_reducible rfl
  try simp only [Act.put, List.setIfInBounds_toArray, List.set_cons_zero, List.set_cons_succ]
  refine wpAnyH_take (i := 35) (oi := ?_) (v := ?_) ?_ (by kernel_rfl) (by kernel_rfl) (by kernel_rfl) (fun _ _ _ h => h) ?_ (by assumption) ?_
  rotate_left 2
  · simp only [List.getElem?_toArray, List.getElem?_cons_succ, List.getElem?_cons_zero]; exact rfl
  · refine Or.inl ⟨by rfl, ?_⟩; intro w hSw; (try dsimp only at hSw); go_simp; try with_reducible rfl
  try simp only [Act.put, List.setIfInBounds_toArray, List.set_cons_zero, List.set_cons_succ]
  refine wpAnyH_take (i := 36) (oi := ?_) (v := ?_) ?_ (by kernel_rfl) (by kernel_rfl) (by kernel_rfl) (fun _ _ _ h => h) ?_ (by assumption) ?_
  rotate_left 2
  · simp only [List.getElem?_toArray, List.getElem?_cons_succ, List.getElem?_cons_zero]; exact rfl
  · refine Or.inl ⟨by rfl, ?_⟩; intro w hSw; (try dsimp only at hSw); go_simp; try with_reducible rfl
  try simp only [Act.put, List.setIfInBounds_toArray, List.set_cons_zero, List.set_cons_succ]
  refine wpAnyH_ready (rs := [37]) (by kernel_rfl) (by simp) ?_
  refine AllReadyH.cons (o := ?_) ?_ ?_ AllReadyH.nil
  rotate_left
  · simp only [List.getElem?_toArray, List.getElem?_cons_succ, List.getElem?_cons_zero]; exact rfl
  intro K hK
  go_simp
  refine (of0N _).mono ?_
  rintro e u2 ⟨rfl, y2⟩
  have B2 : Below W14.heap.size W14 u2 := bel_tr B1 y2
  clear y2 B1 hHeld
  refine hK.out _ _ (HK _ B2) (fun hHeld => ?_)
  clear hK K
  try simp only [Act.put, List.setIfInBounds_toArray, List.set_cons_zero, List.set_cons_succ]
  refine wpAnyH_take (i := 38) (oi := ?_) (v := ?_) ?_ (by kernel_rfl) (by kernel_rfl) (by kernel_rfl) (fun _ _ _ h => h) ?_ (by assumption) ?_
  rotate_left 2
  · simp only [List.getElem?_toArray, List.getElem?_cons_succ, List.getElem?_cons_zero]; exact rfl
  · refine Or.inl ⟨by rfl, ?_⟩; intro w hSw; (try dsimp only at hSw); go_simp; try with_reducible rfl
  try simp only [Act.put, List.setIfInBounds_toArray, List.set_cons_zero, List.set_cons_succ]
  refine wpAnyH_take (i := 39) (oi := ?_) (v := ?_) ?_ (by kernel_rfl) (by kernel_rfl) (by kernel_rfl) (fun _ _ _ h => h) ?_ (by assumption) ?_
  rotate_left 2
  · simp only [List.getElem?_toArray, List.getElem?_cons_succ, List.getElem?_cons_zero]; exact rfl
  · refine Or.inl ⟨by rfl, ?_⟩; intro w hSw; (try dsimp only at hSw); go_simp; try with_reducible rfl
  try simp only [Act.put, List.setIfInBounds_toArray, List.set_cons_zero, List.set_cons_succ]
  refine wpAnyH_take (i := 40) (oi := ?_) (v := ?_) ?_ (by kernel_rfl) (by kernel_rfl) (by kernel_rfl) (fun _ _ _ h => h) ?_ (by assumption) ?_
  rotate_left 2
  · simp only [List.getElem?_toArray, List.getElem?_cons_succ, List.getElem?_cons_zero]; exact rfl
  · refine Or.inl ⟨by rfl, ?_⟩; intro w hSw; (try dsimp only at hSw); go_simp; try with_reducible rfl
  try simp only [Act.put, List.setIfInBounds_toArray, List.set_cons_zero, List.set_cons_succ]
  refine wpAnyH_take (i := 41) (oi := ?_) (v := ?_) ?_ (by kernel_rfl) (by kernel_rfl) (by kernel_rfl) (fun _ _ _ h => h) ?_ (by assumption) ?_
  rotate_left 2
  · simp only [List.getElem?_toArray, List.getElem?_cons_succ, List.getElem?_cons_zero]; exact rfl
  · refine Or.inl ⟨by rfl, ?_⟩; intro w hSw; (try dsimp only at hSw); go_simp; try with_reducible rfl
  try simp only [Act.put, List.setIfInBounds_toArray, List.set_cons_zero, List.set_cons_succ]
  refine wpAnyH_take (i := 42) (oi := ?_) (v := ?_) ?_ (by kernel_rfl) (by kernel_rfl) (by kernel_rfl) (fun _ _ _ h => h) ?_ (by assumption) ?_
  rotate_left 2
  · simp only [List.getElem?_toArray, List.getElem?_cons_succ, List.getElem?_cons_zero]; exact rfl
  · refine Or.inl ⟨by rfl, ?_⟩; intro w hSw; (try dsimp only at hSw); go_simp; try with_reducible rfl
  try simp only [Act.put, List.setIfInBounds_toArray, List.set_cons_zero, List.set_cons_succ]
  refine wpAnyH_take (i := 43) (oi := ?_) (v := ?_) ?_ (by kernel_rfl) (by kernel_rfl) (by kernel_rfl) (fun _ _ _ h => h) ?_ (by assumption) ?_
  rotate_left 2
  · simp only [List.getElem?_toArray, List.getElem?_cons_succ, List.getElem?_cons_zero]; exact rfl
  · refine Or.inl ⟨by rfl, ?_⟩; intro w hSw; (try dsimp only at hSw); go_simp; try with_reducible rfl
  try simp only [Act.put, List.setIfInBounds_toArray, List.set_cons_zero, List.set_cons_succ]
  refine wpAnyH_take (i := 44) (oi := ?_) (v := ?_) ?_ (by kernel_rfl) (by kernel_rfl) (by kernel_rfl) (fun _ _ _ h => h) ?_ (by assumption) ?_
  rotate_left 2
  · simp only [List.getElem?_toArray, List.getElem?_cons_succ, List.getElem?_cons_zero]; exact rfl
  · refine Or.inl ⟨by rfl, ?_⟩; intro w hSw; (try dsimp only at hSw); go_simp; try with_reducible rfl
  try simp only [Act.put, List.setIfInBounds_toArray, List.set_cons_zero, List.set_cons_succ]
  refine wpAnyH_take (i := 45) (oi := ?_) (v := ?_) ?_ (by kernel_rfl) (by kernel_rfl) (by kernel_rfl) (fun _ _ _ h => h) ?_ (by assumption) ?_
  rotate_left 2
  · simp only [List.getElem?_toArray, List.getElem?_cons_succ, List.getElem?_cons_zero]; exact rfl
  · refine Or.inl ⟨by rfl, ?_⟩; intro w hSw; (try dsimp only at hSw); go_simp; try with_reducible rfl
  try simp only [Act.put, List.setIfInBounds_toArray, List.set_cons_zero, List.set_cons_succ]
  refine wpAnyH_take (i := 46) (oi := ?_) (v := ?_) ?_ (by kernel_rfl) (by kernel_rfl) (by kernel_rfl) (fun _ _ _ h => h) ?_ (by assumption) ?_
  rotate_left 2
  · simp only [List.getElem?_toArray, List.getElem?_cons_succ, List.getElem?_cons_zero]; exact rfl
  · refine Or.inl ⟨by rfl, ?_⟩; intro w hSw; (try dsimp only at hSw); go_simp; try with_reducible rfl
  try simp only [Act.put, List.setIfInBounds_toArray, List.set_cons_zero, List.set_cons_succ]
  refine wpAnyH_take (i := 47) (oi := ?_) (v := ?_) ?_ (by kernel_rfl) (by kernel_rfl) (by kernel_rfl) (fun _ _ _ h => h) ?_ (by assumption) ?_
  rotate_left 2
  · simp only [List.getElem?_toArray, List.getElem?_cons_succ, List.getElem?_cons_zero]; exact rfl
  · refine Or.inl ⟨by rfl, ?_⟩; intro w hSw; (try dsimp only at hSw); go_simp; try with_reducible rfl
  try simp only [Act.put, List.setIfInBounds_toArray, List.set_cons_zero, List.set_cons_succ]
  refine wpAnyH_take (i := 48) (oi := ?_) (v := ?_) ?_ (by kernel_rfl) (by kernel_rfl) (by kernel_rfl) (fun _ _ _ h => h) ?_ (by assumption) ?_
  rotate_left 2
  · simp only [List.getElem?_toArray, List.getElem?_cons_succ, List.getElem?_cons_zero]; exact rfl
  · refine Or.inl ⟨by rfl, ?_⟩; intro w hSw; (try dsimp only at hSw); go_simp; try with_reducible rfl
  try simp only [Act.put, List.setIfInBounds_toArray, List.set_cons_zero, List.set_cons_succ]
  refine wpAnyH_done (by kernel_rfl) ?_ _
  refine NoPanic.normal ?_
  clear HK
  go_wp2
  go_ret
  exact ⟨rfl, bel_tr BW.out B2⟩
end Go.Proofs.Ytamglpncdgiocaa
