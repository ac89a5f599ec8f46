/-
  The walk of LimbsParts: it answers true, and nothing that was there is changed.
-/
import Derived.Test.YtamglpncdgiocaaPartsN
import Derived.Deep.DeepCutAuto
namespace Go.Proofs.Ytamglpncdgiocaa
open Go.RowKit
attribute [local go_sem ↓] Go.wp_at_zero Go.wp_at_succ

set_option maxRecDepth 100000 in
set_option maxHeartbeats 8000000 in
theorem parts_walk (X Y : Nat) (hX : X < 2 ^ 256) (hY : Y < 2 ^ 256) (w : World) :
    Calls Try.prog 9 #[num X, num Y] w fun e w' => e = .returned (.bool true) ∧ Below w.heap.size w w' := by
  have a0 := wd_lt X 0
  have a1 := wd_lt X 1
  have a2 := wd_lt X 2
  have a3 := wd_lt X 3
  have b0 := wd_lt Y 0
  have b1 := wd_lt Y 1
  have b2 := wd_lt Y 2
  have b3 := wd_lt Y 3
  have sX := wd_sum X hX
  have sY := wd_sum Y hY
  have l0 := tw_lt _ _ a0 a1
  have l1 := tw_lt _ _ a2 a3
  have l2 := tw_lt _ _ b0 b1
  have l3 := tw_lt _ _ b2 b3
  obtain ⟨ll, m, hll, hm, e1, C1⟩ := mul_ex (tw (wd X 0) (wd X 1)) (tw (wd Y 0) (wd Y 1)) (by omega) (by omega)
  obtain ⟨lh, n, hlh, hn, e2, C2⟩ := mul_ex (tw (wd X 0) (wd X 1)) (tw (wd Y 2) (wd Y 3)) (by omega) (by omega)
  obtain ⟨hl, o, hhl, ho, e3, C3⟩ := mul_ex (tw (wd X 2) (wd X 3)) (tw (wd Y 0) (wd Y 1)) (by omega) (by omega)
  obtain ⟨hh, p, hhh, hp, e4, C4⟩ := mul_ex (tw (wd X 2) (wd X 3)) (tw (wd Y 2) (wd Y 3)) (by omega) (by omega)
  rw [tw_num _ _ a0 a1, tw_num _ _ b0 b1] at C1
  rw [tw_num _ _ a0 a1, tw_num _ _ b2 b3] at C2
  rw [tw_num _ _ a2 a3, tw_num _ _ b0 b1] at C3
  rw [tw_num _ _ a2 a3, tw_num _ _ b2 b3] at C4
  obtain ⟨cr, be, hcr, hbe, e5, C5⟩ := add_ex lh hl hlh hhl
  have C6 := shift_any cr hcr 128 (by omega) (by omega)
  have C8 := shift_any cr hcr (-128) (by omega) (by omega)
  obtain ⟨sl, hsl⟩ : ∃ sl, sl = shN cr 128 := ⟨_, rfl⟩
  obtain ⟨sr, hsr⟩ : ∃ sr, sr = shN cr (-128) := ⟨_, rfl⟩
  have ksl := sh_lt cr hcr 128
  have ksr := sh_lt cr hcr (-128)
  rw [← hsl] at C6 ksl
  rw [← hsr] at C8 ksr
  obtain ⟨lo, mo, hlo, hmo, e7, C7⟩ := add_ex ll sl hll ksl
  obtain ⟨hi, q, hhi, hq, e9, C9⟩ := add_ex hh sr hhh ksr
  obtain ⟨h2, r, hh2, hr, e10, C10⟩ := add_ex hi (mo + 340282366920938463463374607431768211456 * be) hhi (by omega)
  rw [← num_of mo 0 be 0 (by omega) (by omega) (by omega) (by omega) (mo + 340282366920938463463374607431768211456 * be) (by omega)] at C10
  obtain ⟨P, H, hP, hH, e11, C11⟩ := mul_ex X Y hX hY
  have hs1 : sl = cr * 340282366920938463463374607431768211456 % 2 ^ 256 := by rw [hsl, sh_l]
  have hs2 : sr = cr / 340282366920938463463374607431768211456 := by rw [hsr, sh_r]
  rw [hs1] at e7
  rw [hs2] at e9
  obtain ⟨k1, k2, k3, k4, kk⟩ := parts_nums X Y _ _ _ _ ll m lh n hl o hh p cr be lo mo hi q h2 r P H l0 l1 l2 l3 (by unfold tw; omega) (by unfold tw; omega) hll hlh hhl hhh e1 e2 e3 e4
  obtain ⟨k5, k6, k7, k8⟩ := kk hcr hbe e5 hlo hmo e7 hhi hq e9 hh2 hr e10 hP hH e11
  subst k1 k2 k3 k4 k5 k6 k7 k8
  have A1 := Lib.hid C1; have A2 := Lib.hid C2; have A3 := Lib.hid C3; have A4 := Lib.hid C4; have A5 := Lib.hid C5; have A6 := Lib.hid C6; have A7 := Lib.hid C7; have A8 := Lib.hid C8; have A9 := Lib.hid C9; have A10 := Lib.hid C10; have A11 := Lib.hid C11
  clear C1 C2 C3 C4 C5 C6 C7 C8 C9 C10 C11 kk e1 e2 e3 e4 e5 e7 e9 e10 e11 hs1 hs2 hsl hsr ksl ksr sX sY l0 l1 l2 l3 a0 a1 a2 a3 b0 b1 b2 b3 hll hlh hhl hhh hcr hbe hlo hmo hhi hq hh2 hr hP hH hm hn ho hp hX hY
  have q0 := eqY 0
  have q1 := eqY P
  have q2 := eqY H
  go_enter Try.func9, Try.ntmps9
  go_wp2_with fail
  have Na : At ((((((w.alloc (.cells #[.int .u64 (wd X 0 : Nat), .int .u64 (wd X 1 : Nat), .int .u64 (wd X 2 : Nat), .int .u64 (wd X 3 : Nat)] 24)).alloc (.cells #[.int .u64 (wd Y 0 : Nat), .int .u64 (wd Y 1 : Nat), .int .u64 (wd Y 2 : Nat), .int .u64 (wd Y 3 : Nat)] 24)).alloc (.cells #[.int .u64 (wd X 0 : Nat), .int .u64 (wd X 1 : Nat), .int .u64 0, .int .u64 0] 24)).alloc (.cells #[.int .u64 (wd X 2 : Nat), .int .u64 (wd X 3 : Nat), .int .u64 0, .int .u64 0] 24)).alloc (.cells #[.int .u64 (wd Y 0 : Nat), .int .u64 (wd Y 1 : Nat), .int .u64 0, .int .u64 0] 24)).alloc (.cells #[.int .u64 (wd Y 2 : Nat), .int .u64 (wd Y 3 : Nat), .int .u64 0, .int .u64 0] 24)) (w.heap.size) 24 #[.int .u64 (wd X 0 : Nat), .int .u64 (wd X 1 : Nat), .int .u64 (wd X 2 : Nat), .int .u64 (wd X 3 : Nat)] := (((((At.at_ _ _ _ _ (by simp)).alloc _).alloc _).alloc _).alloc _).alloc _
  have Nb : At ((((((w.alloc (.cells #[.int .u64 (wd X 0 : Nat), .int .u64 (wd X 1 : Nat), .int .u64 (wd X 2 : Nat), .int .u64 (wd X 3 : Nat)] 24)).alloc (.cells #[.int .u64 (wd Y 0 : Nat), .int .u64 (wd Y 1 : Nat), .int .u64 (wd Y 2 : Nat), .int .u64 (wd Y 3 : Nat)] 24)).alloc (.cells #[.int .u64 (wd X 0 : Nat), .int .u64 (wd X 1 : Nat), .int .u64 0, .int .u64 0] 24)).alloc (.cells #[.int .u64 (wd X 2 : Nat), .int .u64 (wd X 3 : Nat), .int .u64 0, .int .u64 0] 24)).alloc (.cells #[.int .u64 (wd Y 0 : Nat), .int .u64 (wd Y 1 : Nat), .int .u64 0, .int .u64 0] 24)).alloc (.cells #[.int .u64 (wd Y 2 : Nat), .int .u64 (wd Y 3 : Nat), .int .u64 0, .int .u64 0] 24)) (w.heap.size + 1) 24 #[.int .u64 (wd Y 0 : Nat), .int .u64 (wd Y 1 : Nat), .int .u64 (wd Y 2 : Nat), .int .u64 (wd Y 3 : Nat)] := ((((At.at_ _ _ _ _ (by simp)).alloc _).alloc _).alloc _).alloc _
  have Nal : At ((((((w.alloc (.cells #[.int .u64 (wd X 0 : Nat), .int .u64 (wd X 1 : Nat), .int .u64 (wd X 2 : Nat), .int .u64 (wd X 3 : Nat)] 24)).alloc (.cells #[.int .u64 (wd Y 0 : Nat), .int .u64 (wd Y 1 : Nat), .int .u64 (wd Y 2 : Nat), .int .u64 (wd Y 3 : Nat)] 24)).alloc (.cells #[.int .u64 (wd X 0 : Nat), .int .u64 (wd X 1 : Nat), .int .u64 0, .int .u64 0] 24)).alloc (.cells #[.int .u64 (wd X 2 : Nat), .int .u64 (wd X 3 : Nat), .int .u64 0, .int .u64 0] 24)).alloc (.cells #[.int .u64 (wd Y 0 : Nat), .int .u64 (wd Y 1 : Nat), .int .u64 0, .int .u64 0] 24)).alloc (.cells #[.int .u64 (wd Y 2 : Nat), .int .u64 (wd Y 3 : Nat), .int .u64 0, .int .u64 0] 24)) (w.heap.size + 1 + 1) 24 #[.int .u64 (wd X 0 : Nat), .int .u64 (wd X 1 : Nat), .int .u64 0, .int .u64 0] := (((At.at_ _ _ _ _ (by simp)).alloc _).alloc _).alloc _
  have Nah : At ((((((w.alloc (.cells #[.int .u64 (wd X 0 : Nat), .int .u64 (wd X 1 : Nat), .int .u64 (wd X 2 : Nat), .int .u64 (wd X 3 : Nat)] 24)).alloc (.cells #[.int .u64 (wd Y 0 : Nat), .int .u64 (wd Y 1 : Nat), .int .u64 (wd Y 2 : Nat), .int .u64 (wd Y 3 : Nat)] 24)).alloc (.cells #[.int .u64 (wd X 0 : Nat), .int .u64 (wd X 1 : Nat), .int .u64 0, .int .u64 0] 24)).alloc (.cells #[.int .u64 (wd X 2 : Nat), .int .u64 (wd X 3 : Nat), .int .u64 0, .int .u64 0] 24)).alloc (.cells #[.int .u64 (wd Y 0 : Nat), .int .u64 (wd Y 1 : Nat), .int .u64 0, .int .u64 0] 24)).alloc (.cells #[.int .u64 (wd Y 2 : Nat), .int .u64 (wd Y 3 : Nat), .int .u64 0, .int .u64 0] 24)) (w.heap.size + 1 + 1 + 1) 24 #[.int .u64 (wd X 2 : Nat), .int .u64 (wd X 3 : Nat), .int .u64 0, .int .u64 0] := ((At.at_ _ _ _ _ (by simp)).alloc _).alloc _
  have Nbl : At ((((((w.alloc (.cells #[.int .u64 (wd X 0 : Nat), .int .u64 (wd X 1 : Nat), .int .u64 (wd X 2 : Nat), .int .u64 (wd X 3 : Nat)] 24)).alloc (.cells #[.int .u64 (wd Y 0 : Nat), .int .u64 (wd Y 1 : Nat), .int .u64 (wd Y 2 : Nat), .int .u64 (wd Y 3 : Nat)] 24)).alloc (.cells #[.int .u64 (wd X 0 : Nat), .int .u64 (wd X 1 : Nat), .int .u64 0, .int .u64 0] 24)).alloc (.cells #[.int .u64 (wd X 2 : Nat), .int .u64 (wd X 3 : Nat), .int .u64 0, .int .u64 0] 24)).alloc (.cells #[.int .u64 (wd Y 0 : Nat), .int .u64 (wd Y 1 : Nat), .int .u64 0, .int .u64 0] 24)).alloc (.cells #[.int .u64 (wd Y 2 : Nat), .int .u64 (wd Y 3 : Nat), .int .u64 0, .int .u64 0] 24)) (w.heap.size + 1 + 1 + 1 + 1) 24 #[.int .u64 (wd Y 0 : Nat), .int .u64 (wd Y 1 : Nat), .int .u64 0, .int .u64 0] := (At.at_ _ _ _ _ (by simp)).alloc _
  have Nbh : At ((((((w.alloc (.cells #[.int .u64 (wd X 0 : Nat), .int .u64 (wd X 1 : Nat), .int .u64 (wd X 2 : Nat), .int .u64 (wd X 3 : Nat)] 24)).alloc (.cells #[.int .u64 (wd Y 0 : Nat), .int .u64 (wd Y 1 : Nat), .int .u64 (wd Y 2 : Nat), .int .u64 (wd Y 3 : Nat)] 24)).alloc (.cells #[.int .u64 (wd X 0 : Nat), .int .u64 (wd X 1 : Nat), .int .u64 0, .int .u64 0] 24)).alloc (.cells #[.int .u64 (wd X 2 : Nat), .int .u64 (wd X 3 : Nat), .int .u64 0, .int .u64 0] 24)).alloc (.cells #[.int .u64 (wd Y 0 : Nat), .int .u64 (wd Y 1 : Nat), .int .u64 0, .int .u64 0] 24)).alloc (.cells #[.int .u64 (wd Y 2 : Nat), .int .u64 (wd Y 3 : Nat), .int .u64 0, .int .u64 0] 24)) (w.heap.size + 1 + 1 + 1 + 1 + 1) 24 #[.int .u64 (wd Y 2 : Nat), .int .u64 (wd Y 3 : Nat), .int .u64 0, .int .u64 0] := At.at_ _ _ _ _ (by simp)
  have NB : Below w.heap.size w ((((((w.alloc (.cells #[.int .u64 (wd X 0 : Nat), .int .u64 (wd X 1 : Nat), .int .u64 (wd X 2 : Nat), .int .u64 (wd X 3 : Nat)] 24)).alloc (.cells #[.int .u64 (wd Y 0 : Nat), .int .u64 (wd Y 1 : Nat), .int .u64 (wd Y 2 : Nat), .int .u64 (wd Y 3 : Nat)] 24)).alloc (.cells #[.int .u64 (wd X 0 : Nat), .int .u64 (wd X 1 : Nat), .int .u64 0, .int .u64 0] 24)).alloc (.cells #[.int .u64 (wd X 2 : Nat), .int .u64 (wd X 3 : Nat), .int .u64 0, .int .u64 0] 24)).alloc (.cells #[.int .u64 (wd Y 0 : Nat), .int .u64 (wd Y 1 : Nat), .int .u64 0, .int .u64 0] 24)).alloc (.cells #[.int .u64 (wd Y 2 : Nat), .int .u64 (wd Y 3 : Nat), .int .u64 0, .int .u64 0] 24)) := by repeat (first | exact Below.refl _ _ | refine gr_alloc ?_ _ | refine Below.drew ?_ | refine bel_tr ?_ (by assumption))
  generalize ((((((w.alloc (.cells #[.int .u64 (wd X 0 : Nat), .int .u64 (wd X 1 : Nat), .int .u64 (wd X 2 : Nat), .int .u64 (wd X 3 : Nat)] 24)).alloc (.cells #[.int .u64 (wd Y 0 : Nat), .int .u64 (wd Y 1 : Nat), .int .u64 (wd Y 2 : Nat), .int .u64 (wd Y 3 : Nat)] 24)).alloc (.cells #[.int .u64 (wd X 0 : Nat), .int .u64 (wd X 1 : Nat), .int .u64 0, .int .u64 0] 24)).alloc (.cells #[.int .u64 (wd X 2 : Nat), .int .u64 (wd X 3 : Nat), .int .u64 0, .int .u64 0] 24)).alloc (.cells #[.int .u64 (wd Y 0 : Nat), .int .u64 (wd Y 1 : Nat), .int .u64 0, .int .u64 0] 24)).alloc (.cells #[.int .u64 (wd Y 2 : Nat), .int .u64 (wd Y 3 : Nat), .int .u64 0, .int .u64 0] 24)) = W0 at *
  generalize w.heap.size + 1 + 1 + 1 + 1 + 1 = gbh at *
  generalize w.heap.size + 1 + 1 + 1 + 1 = gbl at *
  generalize w.heap.size + 1 + 1 + 1 = gah at *
  generalize w.heap.size + 1 + 1 = gal at *
  generalize w.heap.size + 1 = gb at *
  generalize w.heap.size = ga at Na ⊢
  have Fa := Lib.hid Na
  have Fb := Lib.hid Nb
  have Fal := Lib.hid Nal
  have Fah := Lib.hid Nah
  have Fbl := Lib.hid Nbl
  have Fbh := Lib.hid Nbh
  have BW := Lib.hid NB
  clear NB Na Nb Nal Nah Nbl Nbh
  refine (A1.out _).mono ?_
  rintro e v1 ⟨rfl, z1⟩
  have Na := Lib.hid (Fa.out.on z1)
  have Nb := Lib.hid (Fb.out.on z1)
  have Nal := Lib.hid (Fal.out.on z1)
  have Nah := Lib.hid (Fah.out.on z1)
  have Nbl := Lib.hid (Fbl.out.on z1)
  have Nbh := Lib.hid (Fbh.out.on z1)
  have NB := Lib.hid (bel_tr BW.out z1)
  clear BW z1 Fa Fb Fal Fah Fbl Fbh
  have Fa := Na
  have Fb := Nb
  have Fal := Nal
  have Fah := Nah
  have Fbl := Nbl
  have Fbh := Nbh
  have BW := NB
  clear NB Na Nb Nal Nah Nbl Nbh
  have Lal := Fal.out.lt
  have cal0 : v1.cell? ⟨gal, 0, none⟩ = some (.int .u64 (wd X 0 : Nat)) := Fal.out.cell 0
  have cal1 : v1.cell? ⟨gal, 1, none⟩ = some (.int .u64 (wd X 1 : Nat)) := Fal.out.cell 1
  have cal2 : v1.cell? ⟨gal, 2, none⟩ = some (.int .u64 0) := Fal.out.cell 2
  have cal3 : v1.cell? ⟨gal, 3, none⟩ = some (.int .u64 0) := Fal.out.cell 3
  have Lbh := Fbh.out.lt
  have cbh0 : v1.cell? ⟨gbh, 0, none⟩ = some (.int .u64 (wd Y 2 : Nat)) := Fbh.out.cell 0
  have cbh1 : v1.cell? ⟨gbh, 1, none⟩ = some (.int .u64 (wd Y 3 : Nat)) := Fbh.out.cell 1
  have cbh2 : v1.cell? ⟨gbh, 2, none⟩ = some (.int .u64 0) := Fbh.out.cell 2
  have cbh3 : v1.cell? ⟨gbh, 3, none⟩ = some (.int .u64 0) := Fbh.out.cell 3
  go_wp2_with fail
  clear Lal cal0 cal1 cal2 cal3 Lbh cbh0 cbh1 cbh2 cbh3
  have Nll : At ((v1.alloc (.cells #[.int .u64 (wd ll 0 : Nat), .int .u64 (wd ll 1 : Nat), .int .u64 (wd ll 2 : Nat), .int .u64 (wd ll 3 : Nat)] 24)).alloc (.cells #[.int .u64 (wd 0 0 : Nat), .int .u64 (wd 0 1 : Nat), .int .u64 (wd 0 2 : Nat), .int .u64 (wd 0 3 : Nat)] 24)) (v1.heap.size) 24 #[.int .u64 (wd ll 0 : Nat), .int .u64 (wd ll 1 : Nat), .int .u64 (wd ll 2 : Nat), .int .u64 (wd ll 3 : Nat)] := (At.at_ _ _ _ _ (by simp)).alloc _
  have Nm0 : At ((v1.alloc (.cells #[.int .u64 (wd ll 0 : Nat), .int .u64 (wd ll 1 : Nat), .int .u64 (wd ll 2 : Nat), .int .u64 (wd ll 3 : Nat)] 24)).alloc (.cells #[.int .u64 (wd 0 0 : Nat), .int .u64 (wd 0 1 : Nat), .int .u64 (wd 0 2 : Nat), .int .u64 (wd 0 3 : Nat)] 24)) (v1.heap.size + 1) 24 #[.int .u64 (wd 0 0 : Nat), .int .u64 (wd 0 1 : Nat), .int .u64 (wd 0 2 : Nat), .int .u64 (wd 0 3 : Nat)] := At.at_ _ _ _ _ (by simp)
  have Na : At ((v1.alloc (.cells #[.int .u64 (wd ll 0 : Nat), .int .u64 (wd ll 1 : Nat), .int .u64 (wd ll 2 : Nat), .int .u64 (wd ll 3 : Nat)] 24)).alloc (.cells #[.int .u64 (wd 0 0 : Nat), .int .u64 (wd 0 1 : Nat), .int .u64 (wd 0 2 : Nat), .int .u64 (wd 0 3 : Nat)] 24)) ga 24 #[.int .u64 (wd X 0 : Nat), .int .u64 (wd X 1 : Nat), .int .u64 (wd X 2 : Nat), .int .u64 (wd X 3 : Nat)] := (Fa.out.alloc _).alloc _
  have Nb : At ((v1.alloc (.cells #[.int .u64 (wd ll 0 : Nat), .int .u64 (wd ll 1 : Nat), .int .u64 (wd ll 2 : Nat), .int .u64 (wd ll 3 : Nat)] 24)).alloc (.cells #[.int .u64 (wd 0 0 : Nat), .int .u64 (wd 0 1 : Nat), .int .u64 (wd 0 2 : Nat), .int .u64 (wd 0 3 : Nat)] 24)) gb 24 #[.int .u64 (wd Y 0 : Nat), .int .u64 (wd Y 1 : Nat), .int .u64 (wd Y 2 : Nat), .int .u64 (wd Y 3 : Nat)] := (Fb.out.alloc _).alloc _
  have Nal : At ((v1.alloc (.cells #[.int .u64 (wd ll 0 : Nat), .int .u64 (wd ll 1 : Nat), .int .u64 (wd ll 2 : Nat), .int .u64 (wd ll 3 : Nat)] 24)).alloc (.cells #[.int .u64 (wd 0 0 : Nat), .int .u64 (wd 0 1 : Nat), .int .u64 (wd 0 2 : Nat), .int .u64 (wd 0 3 : Nat)] 24)) gal 24 #[.int .u64 (wd X 0 : Nat), .int .u64 (wd X 1 : Nat), .int .u64 0, .int .u64 0] := (Fal.out.alloc _).alloc _
  have Nah : At ((v1.alloc (.cells #[.int .u64 (wd ll 0 : Nat), .int .u64 (wd ll 1 : Nat), .int .u64 (wd ll 2 : Nat), .int .u64 (wd ll 3 : Nat)] 24)).alloc (.cells #[.int .u64 (wd 0 0 : Nat), .int .u64 (wd 0 1 : Nat), .int .u64 (wd 0 2 : Nat), .int .u64 (wd 0 3 : Nat)] 24)) gah 24 #[.int .u64 (wd X 2 : Nat), .int .u64 (wd X 3 : Nat), .int .u64 0, .int .u64 0] := (Fah.out.alloc _).alloc _
  have Nbl : At ((v1.alloc (.cells #[.int .u64 (wd ll 0 : Nat), .int .u64 (wd ll 1 : Nat), .int .u64 (wd ll 2 : Nat), .int .u64 (wd ll 3 : Nat)] 24)).alloc (.cells #[.int .u64 (wd 0 0 : Nat), .int .u64 (wd 0 1 : Nat), .int .u64 (wd 0 2 : Nat), .int .u64 (wd 0 3 : Nat)] 24)) gbl 24 #[.int .u64 (wd Y 0 : Nat), .int .u64 (wd Y 1 : Nat), .int .u64 0, .int .u64 0] := (Fbl.out.alloc _).alloc _
  have Nbh : At ((v1.alloc (.cells #[.int .u64 (wd ll 0 : Nat), .int .u64 (wd ll 1 : Nat), .int .u64 (wd ll 2 : Nat), .int .u64 (wd ll 3 : Nat)] 24)).alloc (.cells #[.int .u64 (wd 0 0 : Nat), .int .u64 (wd 0 1 : Nat), .int .u64 (wd 0 2 : Nat), .int .u64 (wd 0 3 : Nat)] 24)) gbh 24 #[.int .u64 (wd Y 2 : Nat), .int .u64 (wd Y 3 : Nat), .int .u64 0, .int .u64 0] := (Fbh.out.alloc _).alloc _
  have NB : Below w.heap.size w ((v1.alloc (.cells #[.int .u64 (wd ll 0 : Nat), .int .u64 (wd ll 1 : Nat), .int .u64 (wd ll 2 : Nat), .int .u64 (wd ll 3 : Nat)] 24)).alloc (.cells #[.int .u64 (wd 0 0 : Nat), .int .u64 (wd 0 1 : Nat), .int .u64 (wd 0 2 : Nat), .int .u64 (wd 0 3 : Nat)] 24)) := gr_alloc (gr_alloc BW.out _) _
  clear BW Fa Fb Fal Fah Fbl Fbh
  generalize ((v1.alloc (.cells #[.int .u64 (wd ll 0 : Nat), .int .u64 (wd ll 1 : Nat), .int .u64 (wd ll 2 : Nat), .int .u64 (wd ll 3 : Nat)] 24)).alloc (.cells #[.int .u64 (wd 0 0 : Nat), .int .u64 (wd 0 1 : Nat), .int .u64 (wd 0 2 : Nat), .int .u64 (wd 0 3 : Nat)] 24)) = W2 at *
  generalize v1.heap.size + 1 = gm0 at *
  generalize v1.heap.size = gll at *
  have Fa := Lib.hid Na
  have Fb := Lib.hid Nb
  have Fal := Lib.hid Nal
  have Fah := Lib.hid Nah
  have Fbl := Lib.hid Nbl
  have Fbh := Lib.hid Nbh
  have Fll := Lib.hid Nll
  have Fm0 := Lib.hid Nm0
  have BW := Lib.hid NB
  clear NB Na Nb Nal Nah Nbl Nbh Nll Nm0
  refine (A2.out _).mono ?_
  rintro e v3 ⟨rfl, z3⟩
  have Na := Lib.hid (Fa.out.on z3)
  have Nb := Lib.hid (Fb.out.on z3)
  have Nal := Lib.hid (Fal.out.on z3)
  have Nah := Lib.hid (Fah.out.on z3)
  have Nbl := Lib.hid (Fbl.out.on z3)
  have Nbh := Lib.hid (Fbh.out.on z3)
  have Nll := Lib.hid (Fll.out.on z3)
  have Nm0 := Lib.hid (Fm0.out.on z3)
  have NB := Lib.hid (bel_tr BW.out z3)
  clear BW z3 Fa Fb Fal Fah Fbl Fbh Fll Fm0
  have Fa := Na
  have Fb := Nb
  have Fal := Nal
  have Fah := Nah
  have Fbl := Nbl
  have Fbh := Nbh
  have Fll := Nll
  have Fm0 := Nm0
  have BW := NB
  clear NB Na Nb Nal Nah Nbl Nbh Nll Nm0
  have Lah := Fah.out.lt
  have cah0 : v3.cell? ⟨gah, 0, none⟩ = some (.int .u64 (wd X 2 : Nat)) := Fah.out.cell 0
  have cah1 : v3.cell? ⟨gah, 1, none⟩ = some (.int .u64 (wd X 3 : Nat)) := Fah.out.cell 1
  have cah2 : v3.cell? ⟨gah, 2, none⟩ = some (.int .u64 0) := Fah.out.cell 2
  have cah3 : v3.cell? ⟨gah, 3, none⟩ = some (.int .u64 0) := Fah.out.cell 3
  have Lbl := Fbl.out.lt
  have cbl0 : v3.cell? ⟨gbl, 0, none⟩ = some (.int .u64 (wd Y 0 : Nat)) := Fbl.out.cell 0
  have cbl1 : v3.cell? ⟨gbl, 1, none⟩ = some (.int .u64 (wd Y 1 : Nat)) := Fbl.out.cell 1
  have cbl2 : v3.cell? ⟨gbl, 2, none⟩ = some (.int .u64 0) := Fbl.out.cell 2
  have cbl3 : v3.cell? ⟨gbl, 3, none⟩ = some (.int .u64 0) := Fbl.out.cell 3
  go_wp2_with fail
  clear Lah cah0 cah1 cah2 cah3 Lbl cbl0 cbl1 cbl2 cbl3
  have Nlh : At ((v3.alloc (.cells #[.int .u64 (wd lh 0 : Nat), .int .u64 (wd lh 1 : Nat), .int .u64 (wd lh 2 : Nat), .int .u64 (wd lh 3 : Nat)] 24)).alloc (.cells #[.int .u64 (wd 0 0 : Nat), .int .u64 (wd 0 1 : Nat), .int .u64 (wd 0 2 : Nat), .int .u64 (wd 0 3 : Nat)] 24)) (v3.heap.size) 24 #[.int .u64 (wd lh 0 : Nat), .int .u64 (wd lh 1 : Nat), .int .u64 (wd lh 2 : Nat), .int .u64 (wd lh 3 : Nat)] := (At.at_ _ _ _ _ (by simp)).alloc _
  have Nn0 : At ((v3.alloc (.cells #[.int .u64 (wd lh 0 : Nat), .int .u64 (wd lh 1 : Nat), .int .u64 (wd lh 2 : Nat), .int .u64 (wd lh 3 : Nat)] 24)).alloc (.cells #[.int .u64 (wd 0 0 : Nat), .int .u64 (wd 0 1 : Nat), .int .u64 (wd 0 2 : Nat), .int .u64 (wd 0 3 : Nat)] 24)) (v3.heap.size + 1) 24 #[.int .u64 (wd 0 0 : Nat), .int .u64 (wd 0 1 : Nat), .int .u64 (wd 0 2 : Nat), .int .u64 (wd 0 3 : Nat)] := At.at_ _ _ _ _ (by simp)
  have Na : At ((v3.alloc (.cells #[.int .u64 (wd lh 0 : Nat), .int .u64 (wd lh 1 : Nat), .int .u64 (wd lh 2 : Nat), .int .u64 (wd lh 3 : Nat)] 24)).alloc (.cells #[.int .u64 (wd 0 0 : Nat), .int .u64 (wd 0 1 : Nat), .int .u64 (wd 0 2 : Nat), .int .u64 (wd 0 3 : Nat)] 24)) ga 24 #[.int .u64 (wd X 0 : Nat), .int .u64 (wd X 1 : Nat), .int .u64 (wd X 2 : Nat), .int .u64 (wd X 3 : Nat)] := (Fa.out.alloc _).alloc _
  have Nb : At ((v3.alloc (.cells #[.int .u64 (wd lh 0 : Nat), .int .u64 (wd lh 1 : Nat), .int .u64 (wd lh 2 : Nat), .int .u64 (wd lh 3 : Nat)] 24)).alloc (.cells #[.int .u64 (wd 0 0 : Nat), .int .u64 (wd 0 1 : Nat), .int .u64 (wd 0 2 : Nat), .int .u64 (wd 0 3 : Nat)] 24)) gb 24 #[.int .u64 (wd Y 0 : Nat), .int .u64 (wd Y 1 : Nat), .int .u64 (wd Y 2 : Nat), .int .u64 (wd Y 3 : Nat)] := (Fb.out.alloc _).alloc _
  have Nal : At ((v3.alloc (.cells #[.int .u64 (wd lh 0 : Nat), .int .u64 (wd lh 1 : Nat), .int .u64 (wd lh 2 : Nat), .int .u64 (wd lh 3 : Nat)] 24)).alloc (.cells #[.int .u64 (wd 0 0 : Nat), .int .u64 (wd 0 1 : Nat), .int .u64 (wd 0 2 : Nat), .int .u64 (wd 0 3 : Nat)] 24)) gal 24 #[.int .u64 (wd X 0 : Nat), .int .u64 (wd X 1 : Nat), .int .u64 0, .int .u64 0] := (Fal.out.alloc _).alloc _
  have Nah : At ((v3.alloc (.cells #[.int .u64 (wd lh 0 : Nat), .int .u64 (wd lh 1 : Nat), .int .u64 (wd lh 2 : Nat), .int .u64 (wd lh 3 : Nat)] 24)).alloc (.cells #[.int .u64 (wd 0 0 : Nat), .int .u64 (wd 0 1 : Nat), .int .u64 (wd 0 2 : Nat), .int .u64 (wd 0 3 : Nat)] 24)) gah 24 #[.int .u64 (wd X 2 : Nat), .int .u64 (wd X 3 : Nat), .int .u64 0, .int .u64 0] := (Fah.out.alloc _).alloc _
  have Nbl : At ((v3.alloc (.cells #[.int .u64 (wd lh 0 : Nat), .int .u64 (wd lh 1 : Nat), .int .u64 (wd lh 2 : Nat), .int .u64 (wd lh 3 : Nat)] 24)).alloc (.cells #[.int .u64 (wd 0 0 : Nat), .int .u64 (wd 0 1 : Nat), .int .u64 (wd 0 2 : Nat), .int .u64 (wd 0 3 : Nat)] 24)) gbl 24 #[.int .u64 (wd Y 0 : Nat), .int .u64 (wd Y 1 : Nat), .int .u64 0, .int .u64 0] := (Fbl.out.alloc _).alloc _
  have Nbh : At ((v3.alloc (.cells #[.int .u64 (wd lh 0 : Nat), .int .u64 (wd lh 1 : Nat), .int .u64 (wd lh 2 : Nat), .int .u64 (wd lh 3 : Nat)] 24)).alloc (.cells #[.int .u64 (wd 0 0 : Nat), .int .u64 (wd 0 1 : Nat), .int .u64 (wd 0 2 : Nat), .int .u64 (wd 0 3 : Nat)] 24)) gbh 24 #[.int .u64 (wd Y 2 : Nat), .int .u64 (wd Y 3 : Nat), .int .u64 0, .int .u64 0] := (Fbh.out.alloc _).alloc _
  have Nll : At ((v3.alloc (.cells #[.int .u64 (wd lh 0 : Nat), .int .u64 (wd lh 1 : Nat), .int .u64 (wd lh 2 : Nat), .int .u64 (wd lh 3 : Nat)] 24)).alloc (.cells #[.int .u64 (wd 0 0 : Nat), .int .u64 (wd 0 1 : Nat), .int .u64 (wd 0 2 : Nat), .int .u64 (wd 0 3 : Nat)] 24)) gll 24 #[.int .u64 (wd ll 0 : Nat), .int .u64 (wd ll 1 : Nat), .int .u64 (wd ll 2 : Nat), .int .u64 (wd ll 3 : Nat)] := (Fll.out.alloc _).alloc _
  have Nm0 : At ((v3.alloc (.cells #[.int .u64 (wd lh 0 : Nat), .int .u64 (wd lh 1 : Nat), .int .u64 (wd lh 2 : Nat), .int .u64 (wd lh 3 : Nat)] 24)).alloc (.cells #[.int .u64 (wd 0 0 : Nat), .int .u64 (wd 0 1 : Nat), .int .u64 (wd 0 2 : Nat), .int .u64 (wd 0 3 : Nat)] 24)) gm0 24 #[.int .u64 (wd 0 0 : Nat), .int .u64 (wd 0 1 : Nat), .int .u64 (wd 0 2 : Nat), .int .u64 (wd 0 3 : Nat)] := (Fm0.out.alloc _).alloc _
  have NB : Below w.heap.size w ((v3.alloc (.cells #[.int .u64 (wd lh 0 : Nat), .int .u64 (wd lh 1 : Nat), .int .u64 (wd lh 2 : Nat), .int .u64 (wd lh 3 : Nat)] 24)).alloc (.cells #[.int .u64 (wd 0 0 : Nat), .int .u64 (wd 0 1 : Nat), .int .u64 (wd 0 2 : Nat), .int .u64 (wd 0 3 : Nat)] 24)) := gr_alloc (gr_alloc BW.out _) _
  clear BW Fa Fb Fal Fah Fbl Fbh Fll Fm0
  generalize ((v3.alloc (.cells #[.int .u64 (wd lh 0 : Nat), .int .u64 (wd lh 1 : Nat), .int .u64 (wd lh 2 : Nat), .int .u64 (wd lh 3 : Nat)] 24)).alloc (.cells #[.int .u64 (wd 0 0 : Nat), .int .u64 (wd 0 1 : Nat), .int .u64 (wd 0 2 : Nat), .int .u64 (wd 0 3 : Nat)] 24)) = W4 at *
  generalize v3.heap.size + 1 = gn0 at *
  generalize v3.heap.size = glh at *
  have Fa := Lib.hid Na
  have Fb := Lib.hid Nb
  have Fal := Lib.hid Nal
  have Fah := Lib.hid Nah
  have Fbl := Lib.hid Nbl
  have Fbh := Lib.hid Nbh
  have Fll := Lib.hid Nll
  have Fm0 := Lib.hid Nm0
  have Flh := Lib.hid Nlh
  have Fn0 := Lib.hid Nn0
  have BW := Lib.hid NB
  clear NB Na Nb Nal Nah Nbl Nbh Nll Nm0 Nlh Nn0
  refine (A3.out _).mono ?_
  rintro e v5 ⟨rfl, z5⟩
  have Na := Lib.hid (Fa.out.on z5)
  have Nb := Lib.hid (Fb.out.on z5)
  have Nal := Lib.hid (Fal.out.on z5)
  have Nah := Lib.hid (Fah.out.on z5)
  have Nbl := Lib.hid (Fbl.out.on z5)
  have Nbh := Lib.hid (Fbh.out.on z5)
  have Nll := Lib.hid (Fll.out.on z5)
  have Nm0 := Lib.hid (Fm0.out.on z5)
  have Nlh := Lib.hid (Flh.out.on z5)
  have Nn0 := Lib.hid (Fn0.out.on z5)
  have NB := Lib.hid (bel_tr BW.out z5)
  clear BW z5 Fa Fb Fal Fah Fbl Fbh Fll Fm0 Flh Fn0
  have Fa := Na
  have Fb := Nb
  have Fal := Nal
  have Fah := Nah
  have Fbl := Nbl
  have Fbh := Nbh
  have Fll := Nll
  have Fm0 := Nm0
  have Flh := Nlh
  have Fn0 := Nn0
  have BW := NB
  clear NB Na Nb Nal Nah Nbl Nbh Nll Nm0 Nlh Nn0
  have Lah := Fah.out.lt
  have cah0 : v5.cell? ⟨gah, 0, none⟩ = some (.int .u64 (wd X 2 : Nat)) := Fah.out.cell 0
  have cah1 : v5.cell? ⟨gah, 1, none⟩ = some (.int .u64 (wd X 3 : Nat)) := Fah.out.cell 1
  have cah2 : v5.cell? ⟨gah, 2, none⟩ = some (.int .u64 0) := Fah.out.cell 2
  have cah3 : v5.cell? ⟨gah, 3, none⟩ = some (.int .u64 0) := Fah.out.cell 3
  have Lbh := Fbh.out.lt
  have cbh0 : v5.cell? ⟨gbh, 0, none⟩ = some (.int .u64 (wd Y 2 : Nat)) := Fbh.out.cell 0
  have cbh1 : v5.cell? ⟨gbh, 1, none⟩ = some (.int .u64 (wd Y 3 : Nat)) := Fbh.out.cell 1
  have cbh2 : v5.cell? ⟨gbh, 2, none⟩ = some (.int .u64 0) := Fbh.out.cell 2
  have cbh3 : v5.cell? ⟨gbh, 3, none⟩ = some (.int .u64 0) := Fbh.out.cell 3
  go_wp2_with fail
  clear Lah cah0 cah1 cah2 cah3 Lbh cbh0 cbh1 cbh2 cbh3
  have Nhl : At ((v5.alloc (.cells #[.int .u64 (wd hl 0 : Nat), .int .u64 (wd hl 1 : Nat), .int .u64 (wd hl 2 : Nat), .int .u64 (wd hl 3 : Nat)] 24)).alloc (.cells #[.int .u64 (wd 0 0 : Nat), .int .u64 (wd 0 1 : Nat), .int .u64 (wd 0 2 : Nat), .int .u64 (wd 0 3 : Nat)] 24)) (v5.heap.size) 24 #[.int .u64 (wd hl 0 : Nat), .int .u64 (wd hl 1 : Nat), .int .u64 (wd hl 2 : Nat), .int .u64 (wd hl 3 : Nat)] := (At.at_ _ _ _ _ (by simp)).alloc _
  have No0 : At ((v5.alloc (.cells #[.int .u64 (wd hl 0 : Nat), .int .u64 (wd hl 1 : Nat), .int .u64 (wd hl 2 : Nat), .int .u64 (wd hl 3 : Nat)] 24)).alloc (.cells #[.int .u64 (wd 0 0 : Nat), .int .u64 (wd 0 1 : Nat), .int .u64 (wd 0 2 : Nat), .int .u64 (wd 0 3 : Nat)] 24)) (v5.heap.size + 1) 24 #[.int .u64 (wd 0 0 : Nat), .int .u64 (wd 0 1 : Nat), .int .u64 (wd 0 2 : Nat), .int .u64 (wd 0 3 : Nat)] := At.at_ _ _ _ _ (by simp)
  have Na : At ((v5.alloc (.cells #[.int .u64 (wd hl 0 : Nat), .int .u64 (wd hl 1 : Nat), .int .u64 (wd hl 2 : Nat), .int .u64 (wd hl 3 : Nat)] 24)).alloc (.cells #[.int .u64 (wd 0 0 : Nat), .int .u64 (wd 0 1 : Nat), .int .u64 (wd 0 2 : Nat), .int .u64 (wd 0 3 : Nat)] 24)) ga 24 #[.int .u64 (wd X 0 : Nat), .int .u64 (wd X 1 : Nat), .int .u64 (wd X 2 : Nat), .int .u64 (wd X 3 : Nat)] := (Fa.out.alloc _).alloc _
  have Nb : At ((v5.alloc (.cells #[.int .u64 (wd hl 0 : Nat), .int .u64 (wd hl 1 : Nat), .int .u64 (wd hl 2 : Nat), .int .u64 (wd hl 3 : Nat)] 24)).alloc (.cells #[.int .u64 (wd 0 0 : Nat), .int .u64 (wd 0 1 : Nat), .int .u64 (wd 0 2 : Nat), .int .u64 (wd 0 3 : Nat)] 24)) gb 24 #[.int .u64 (wd Y 0 : Nat), .int .u64 (wd Y 1 : Nat), .int .u64 (wd Y 2 : Nat), .int .u64 (wd Y 3 : Nat)] := (Fb.out.alloc _).alloc _
  have Nal : At ((v5.alloc (.cells #[.int .u64 (wd hl 0 : Nat), .int .u64 (wd hl 1 : Nat), .int .u64 (wd hl 2 : Nat), .int .u64 (wd hl 3 : Nat)] 24)).alloc (.cells #[.int .u64 (wd 0 0 : Nat), .int .u64 (wd 0 1 : Nat), .int .u64 (wd 0 2 : Nat), .int .u64 (wd 0 3 : Nat)] 24)) gal 24 #[.int .u64 (wd X 0 : Nat), .int .u64 (wd X 1 : Nat), .int .u64 0, .int .u64 0] := (Fal.out.alloc _).alloc _
  have Nah : At ((v5.alloc (.cells #[.int .u64 (wd hl 0 : Nat), .int .u64 (wd hl 1 : Nat), .int .u64 (wd hl 2 : Nat), .int .u64 (wd hl 3 : Nat)] 24)).alloc (.cells #[.int .u64 (wd 0 0 : Nat), .int .u64 (wd 0 1 : Nat), .int .u64 (wd 0 2 : Nat), .int .u64 (wd 0 3 : Nat)] 24)) gah 24 #[.int .u64 (wd X 2 : Nat), .int .u64 (wd X 3 : Nat), .int .u64 0, .int .u64 0] := (Fah.out.alloc _).alloc _
  have Nbl : At ((v5.alloc (.cells #[.int .u64 (wd hl 0 : Nat), .int .u64 (wd hl 1 : Nat), .int .u64 (wd hl 2 : Nat), .int .u64 (wd hl 3 : Nat)] 24)).alloc (.cells #[.int .u64 (wd 0 0 : Nat), .int .u64 (wd 0 1 : Nat), .int .u64 (wd 0 2 : Nat), .int .u64 (wd 0 3 : Nat)] 24)) gbl 24 #[.int .u64 (wd Y 0 : Nat), .int .u64 (wd Y 1 : Nat), .int .u64 0, .int .u64 0] := (Fbl.out.alloc _).alloc _
  have Nbh : At ((v5.alloc (.cells #[.int .u64 (wd hl 0 : Nat), .int .u64 (wd hl 1 : Nat), .int .u64 (wd hl 2 : Nat), .int .u64 (wd hl 3 : Nat)] 24)).alloc (.cells #[.int .u64 (wd 0 0 : Nat), .int .u64 (wd 0 1 : Nat), .int .u64 (wd 0 2 : Nat), .int .u64 (wd 0 3 : Nat)] 24)) gbh 24 #[.int .u64 (wd Y 2 : Nat), .int .u64 (wd Y 3 : Nat), .int .u64 0, .int .u64 0] := (Fbh.out.alloc _).alloc _
  have Nll : At ((v5.alloc (.cells #[.int .u64 (wd hl 0 : Nat), .int .u64 (wd hl 1 : Nat), .int .u64 (wd hl 2 : Nat), .int .u64 (wd hl 3 : Nat)] 24)).alloc (.cells #[.int .u64 (wd 0 0 : Nat), .int .u64 (wd 0 1 : Nat), .int .u64 (wd 0 2 : Nat), .int .u64 (wd 0 3 : Nat)] 24)) gll 24 #[.int .u64 (wd ll 0 : Nat), .int .u64 (wd ll 1 : Nat), .int .u64 (wd ll 2 : Nat), .int .u64 (wd ll 3 : Nat)] := (Fll.out.alloc _).alloc _
  have Nm0 : At ((v5.alloc (.cells #[.int .u64 (wd hl 0 : Nat), .int .u64 (wd hl 1 : Nat), .int .u64 (wd hl 2 : Nat), .int .u64 (wd hl 3 : Nat)] 24)).alloc (.cells #[.int .u64 (wd 0 0 : Nat), .int .u64 (wd 0 1 : Nat), .int .u64 (wd 0 2 : Nat), .int .u64 (wd 0 3 : Nat)] 24)) gm0 24 #[.int .u64 (wd 0 0 : Nat), .int .u64 (wd 0 1 : Nat), .int .u64 (wd 0 2 : Nat), .int .u64 (wd 0 3 : Nat)] := (Fm0.out.alloc _).alloc _
  have Nlh : At ((v5.alloc (.cells #[.int .u64 (wd hl 0 : Nat), .int .u64 (wd hl 1 : Nat), .int .u64 (wd hl 2 : Nat), .int .u64 (wd hl 3 : Nat)] 24)).alloc (.cells #[.int .u64 (wd 0 0 : Nat), .int .u64 (wd 0 1 : Nat), .int .u64 (wd 0 2 : Nat), .int .u64 (wd 0 3 : Nat)] 24)) glh 24 #[.int .u64 (wd lh 0 : Nat), .int .u64 (wd lh 1 : Nat), .int .u64 (wd lh 2 : Nat), .int .u64 (wd lh 3 : Nat)] := (Flh.out.alloc _).alloc _
  have Nn0 : At ((v5.alloc (.cells #[.int .u64 (wd hl 0 : Nat), .int .u64 (wd hl 1 : Nat), .int .u64 (wd hl 2 : Nat), .int .u64 (wd hl 3 : Nat)] 24)).alloc (.cells #[.int .u64 (wd 0 0 : Nat), .int .u64 (wd 0 1 : Nat), .int .u64 (wd 0 2 : Nat), .int .u64 (wd 0 3 : Nat)] 24)) gn0 24 #[.int .u64 (wd 0 0 : Nat), .int .u64 (wd 0 1 : Nat), .int .u64 (wd 0 2 : Nat), .int .u64 (wd 0 3 : Nat)] := (Fn0.out.alloc _).alloc _
  have NB : Below w.heap.size w ((v5.alloc (.cells #[.int .u64 (wd hl 0 : Nat), .int .u64 (wd hl 1 : Nat), .int .u64 (wd hl 2 : Nat), .int .u64 (wd hl 3 : Nat)] 24)).alloc (.cells #[.int .u64 (wd 0 0 : Nat), .int .u64 (wd 0 1 : Nat), .int .u64 (wd 0 2 : Nat), .int .u64 (wd 0 3 : Nat)] 24)) := gr_alloc (gr_alloc BW.out _) _
  clear BW Fa Fb Fal Fah Fbl Fbh Fll Fm0 Flh Fn0
  generalize ((v5.alloc (.cells #[.int .u64 (wd hl 0 : Nat), .int .u64 (wd hl 1 : Nat), .int .u64 (wd hl 2 : Nat), .int .u64 (wd hl 3 : Nat)] 24)).alloc (.cells #[.int .u64 (wd 0 0 : Nat), .int .u64 (wd 0 1 : Nat), .int .u64 (wd 0 2 : Nat), .int .u64 (wd 0 3 : Nat)] 24)) = W6 at *
  generalize v5.heap.size + 1 = go0 at *
  generalize v5.heap.size = ghl at *
  have Fa := Lib.hid Na
  have Fb := Lib.hid Nb
  have Fal := Lib.hid Nal
  have Fah := Lib.hid Nah
  have Fbl := Lib.hid Nbl
  have Fbh := Lib.hid Nbh
  have Fll := Lib.hid Nll
  have Fm0 := Lib.hid Nm0
  have Flh := Lib.hid Nlh
  have Fn0 := Lib.hid Nn0
  have Fhl := Lib.hid Nhl
  have Fo0 := Lib.hid No0
  have BW := Lib.hid NB
  clear NB Na Nb Nal Nah Nbl Nbh Nll Nm0 Nlh Nn0 Nhl No0
  refine (A4.out _).mono ?_
  rintro e v7 ⟨rfl, z7⟩
  have Na := Lib.hid (Fa.out.on z7)
  have Nb := Lib.hid (Fb.out.on z7)
  have Nal := Lib.hid (Fal.out.on z7)
  have Nah := Lib.hid (Fah.out.on z7)
  have Nbl := Lib.hid (Fbl.out.on z7)
  have Nbh := Lib.hid (Fbh.out.on z7)
  have Nll := Lib.hid (Fll.out.on z7)
  have Nm0 := Lib.hid (Fm0.out.on z7)
  have Nlh := Lib.hid (Flh.out.on z7)
  have Nn0 := Lib.hid (Fn0.out.on z7)
  have Nhl := Lib.hid (Fhl.out.on z7)
  have No0 := Lib.hid (Fo0.out.on z7)
  have NB := Lib.hid (bel_tr BW.out z7)
  clear BW z7 Fa Fb Fal Fah Fbl Fbh Fll Fm0 Flh Fn0 Fhl Fo0
  have Fa := Na
  have Fb := Nb
  have Fal := Nal
  have Fah := Nah
  have Fbl := Nbl
  have Fbh := Nbh
  have Fll := Nll
  have Fm0 := Nm0
  have Flh := Nlh
  have Fn0 := Nn0
  have Fhl := Nhl
  have Fo0 := No0
  have BW := NB
  clear NB Na Nb Nal Nah Nbl Nbh Nll Nm0 Nlh Nn0 Nhl No0
  go_wp2_with fail
  have Nhh : At ((v7.alloc (.cells #[.int .u64 (wd hh 0 : Nat), .int .u64 (wd hh 1 : Nat), .int .u64 (wd hh 2 : Nat), .int .u64 (wd hh 3 : Nat)] 24)).alloc (.cells #[.int .u64 (wd 0 0 : Nat), .int .u64 (wd 0 1 : Nat), .int .u64 (wd 0 2 : Nat), .int .u64 (wd 0 3 : Nat)] 24)) (v7.heap.size) 24 #[.int .u64 (wd hh 0 : Nat), .int .u64 (wd hh 1 : Nat), .int .u64 (wd hh 2 : Nat), .int .u64 (wd hh 3 : Nat)] := (At.at_ _ _ _ _ (by simp)).alloc _
  have Np0 : At ((v7.alloc (.cells #[.int .u64 (wd hh 0 : Nat), .int .u64 (wd hh 1 : Nat), .int .u64 (wd hh 2 : Nat), .int .u64 (wd hh 3 : Nat)] 24)).alloc (.cells #[.int .u64 (wd 0 0 : Nat), .int .u64 (wd 0 1 : Nat), .int .u64 (wd 0 2 : Nat), .int .u64 (wd 0 3 : Nat)] 24)) (v7.heap.size + 1) 24 #[.int .u64 (wd 0 0 : Nat), .int .u64 (wd 0 1 : Nat), .int .u64 (wd 0 2 : Nat), .int .u64 (wd 0 3 : Nat)] := At.at_ _ _ _ _ (by simp)
  have Na : At ((v7.alloc (.cells #[.int .u64 (wd hh 0 : Nat), .int .u64 (wd hh 1 : Nat), .int .u64 (wd hh 2 : Nat), .int .u64 (wd hh 3 : Nat)] 24)).alloc (.cells #[.int .u64 (wd 0 0 : Nat), .int .u64 (wd 0 1 : Nat), .int .u64 (wd 0 2 : Nat), .int .u64 (wd 0 3 : Nat)] 24)) ga 24 #[.int .u64 (wd X 0 : Nat), .int .u64 (wd X 1 : Nat), .int .u64 (wd X 2 : Nat), .int .u64 (wd X 3 : Nat)] := (Fa.out.alloc _).alloc _
  have Nb : At ((v7.alloc (.cells #[.int .u64 (wd hh 0 : Nat), .int .u64 (wd hh 1 : Nat), .int .u64 (wd hh 2 : Nat), .int .u64 (wd hh 3 : Nat)] 24)).alloc (.cells #[.int .u64 (wd 0 0 : Nat), .int .u64 (wd 0 1 : Nat), .int .u64 (wd 0 2 : Nat), .int .u64 (wd 0 3 : Nat)] 24)) gb 24 #[.int .u64 (wd Y 0 : Nat), .int .u64 (wd Y 1 : Nat), .int .u64 (wd Y 2 : Nat), .int .u64 (wd Y 3 : Nat)] := (Fb.out.alloc _).alloc _
  have Nal : At ((v7.alloc (.cells #[.int .u64 (wd hh 0 : Nat), .int .u64 (wd hh 1 : Nat), .int .u64 (wd hh 2 : Nat), .int .u64 (wd hh 3 : Nat)] 24)).alloc (.cells #[.int .u64 (wd 0 0 : Nat), .int .u64 (wd 0 1 : Nat), .int .u64 (wd 0 2 : Nat), .int .u64 (wd 0 3 : Nat)] 24)) gal 24 #[.int .u64 (wd X 0 : Nat), .int .u64 (wd X 1 : Nat), .int .u64 0, .int .u64 0] := (Fal.out.alloc _).alloc _
  have Nah : At ((v7.alloc (.cells #[.int .u64 (wd hh 0 : Nat), .int .u64 (wd hh 1 : Nat), .int .u64 (wd hh 2 : Nat), .int .u64 (wd hh 3 : Nat)] 24)).alloc (.cells #[.int .u64 (wd 0 0 : Nat), .int .u64 (wd 0 1 : Nat), .int .u64 (wd 0 2 : Nat), .int .u64 (wd 0 3 : Nat)] 24)) gah 24 #[.int .u64 (wd X 2 : Nat), .int .u64 (wd X 3 : Nat), .int .u64 0, .int .u64 0] := (Fah.out.alloc _).alloc _
  have Nbl : At ((v7.alloc (.cells #[.int .u64 (wd hh 0 : Nat), .int .u64 (wd hh 1 : Nat), .int .u64 (wd hh 2 : Nat), .int .u64 (wd hh 3 : Nat)] 24)).alloc (.cells #[.int .u64 (wd 0 0 : Nat), .int .u64 (wd 0 1 : Nat), .int .u64 (wd 0 2 : Nat), .int .u64 (wd 0 3 : Nat)] 24)) gbl 24 #[.int .u64 (wd Y 0 : Nat), .int .u64 (wd Y 1 : Nat), .int .u64 0, .int .u64 0] := (Fbl.out.alloc _).alloc _
  have Nbh : At ((v7.alloc (.cells #[.int .u64 (wd hh 0 : Nat), .int .u64 (wd hh 1 : Nat), .int .u64 (wd hh 2 : Nat), .int .u64 (wd hh 3 : Nat)] 24)).alloc (.cells #[.int .u64 (wd 0 0 : Nat), .int .u64 (wd 0 1 : Nat), .int .u64 (wd 0 2 : Nat), .int .u64 (wd 0 3 : Nat)] 24)) gbh 24 #[.int .u64 (wd Y 2 : Nat), .int .u64 (wd Y 3 : Nat), .int .u64 0, .int .u64 0] := (Fbh.out.alloc _).alloc _
  have Nll : At ((v7.alloc (.cells #[.int .u64 (wd hh 0 : Nat), .int .u64 (wd hh 1 : Nat), .int .u64 (wd hh 2 : Nat), .int .u64 (wd hh 3 : Nat)] 24)).alloc (.cells #[.int .u64 (wd 0 0 : Nat), .int .u64 (wd 0 1 : Nat), .int .u64 (wd 0 2 : Nat), .int .u64 (wd 0 3 : Nat)] 24)) gll 24 #[.int .u64 (wd ll 0 : Nat), .int .u64 (wd ll 1 : Nat), .int .u64 (wd ll 2 : Nat), .int .u64 (wd ll 3 : Nat)] := (Fll.out.alloc _).alloc _
  have Nm0 : At ((v7.alloc (.cells #[.int .u64 (wd hh 0 : Nat), .int .u64 (wd hh 1 : Nat), .int .u64 (wd hh 2 : Nat), .int .u64 (wd hh 3 : Nat)] 24)).alloc (.cells #[.int .u64 (wd 0 0 : Nat), .int .u64 (wd 0 1 : Nat), .int .u64 (wd 0 2 : Nat), .int .u64 (wd 0 3 : Nat)] 24)) gm0 24 #[.int .u64 (wd 0 0 : Nat), .int .u64 (wd 0 1 : Nat), .int .u64 (wd 0 2 : Nat), .int .u64 (wd 0 3 : Nat)] := (Fm0.out.alloc _).alloc _
  have Nlh : At ((v7.alloc (.cells #[.int .u64 (wd hh 0 : Nat), .int .u64 (wd hh 1 : Nat), .int .u64 (wd hh 2 : Nat), .int .u64 (wd hh 3 : Nat)] 24)).alloc (.cells #[.int .u64 (wd 0 0 : Nat), .int .u64 (wd 0 1 : Nat), .int .u64 (wd 0 2 : Nat), .int .u64 (wd 0 3 : Nat)] 24)) glh 24 #[.int .u64 (wd lh 0 : Nat), .int .u64 (wd lh 1 : Nat), .int .u64 (wd lh 2 : Nat), .int .u64 (wd lh 3 : Nat)] := (Flh.out.alloc _).alloc _
  have Nn0 : At ((v7.alloc (.cells #[.int .u64 (wd hh 0 : Nat), .int .u64 (wd hh 1 : Nat), .int .u64 (wd hh 2 : Nat), .int .u64 (wd hh 3 : Nat)] 24)).alloc (.cells #[.int .u64 (wd 0 0 : Nat), .int .u64 (wd 0 1 : Nat), .int .u64 (wd 0 2 : Nat), .int .u64 (wd 0 3 : Nat)] 24)) gn0 24 #[.int .u64 (wd 0 0 : Nat), .int .u64 (wd 0 1 : Nat), .int .u64 (wd 0 2 : Nat), .int .u64 (wd 0 3 : Nat)] := (Fn0.out.alloc _).alloc _
  have Nhl : At ((v7.alloc (.cells #[.int .u64 (wd hh 0 : Nat), .int .u64 (wd hh 1 : Nat), .int .u64 (wd hh 2 : Nat), .int .u64 (wd hh 3 : Nat)] 24)).alloc (.cells #[.int .u64 (wd 0 0 : Nat), .int .u64 (wd 0 1 : Nat), .int .u64 (wd 0 2 : Nat), .int .u64 (wd 0 3 : Nat)] 24)) ghl 24 #[.int .u64 (wd hl 0 : Nat), .int .u64 (wd hl 1 : Nat), .int .u64 (wd hl 2 : Nat), .int .u64 (wd hl 3 : Nat)] := (Fhl.out.alloc _).alloc _
  have No0 : At ((v7.alloc (.cells #[.int .u64 (wd hh 0 : Nat), .int .u64 (wd hh 1 : Nat), .int .u64 (wd hh 2 : Nat), .int .u64 (wd hh 3 : Nat)] 24)).alloc (.cells #[.int .u64 (wd 0 0 : Nat), .int .u64 (wd 0 1 : Nat), .int .u64 (wd 0 2 : Nat), .int .u64 (wd 0 3 : Nat)] 24)) go0 24 #[.int .u64 (wd 0 0 : Nat), .int .u64 (wd 0 1 : Nat), .int .u64 (wd 0 2 : Nat), .int .u64 (wd 0 3 : Nat)] := (Fo0.out.alloc _).alloc _
  have NB : Below w.heap.size w ((v7.alloc (.cells #[.int .u64 (wd hh 0 : Nat), .int .u64 (wd hh 1 : Nat), .int .u64 (wd hh 2 : Nat), .int .u64 (wd hh 3 : Nat)] 24)).alloc (.cells #[.int .u64 (wd 0 0 : Nat), .int .u64 (wd 0 1 : Nat), .int .u64 (wd 0 2 : Nat), .int .u64 (wd 0 3 : Nat)] 24)) := gr_alloc (gr_alloc BW.out _) _
  clear BW Fa Fb Fal Fah Fbl Fbh Fll Fm0 Flh Fn0 Fhl Fo0
  generalize ((v7.alloc (.cells #[.int .u64 (wd hh 0 : Nat), .int .u64 (wd hh 1 : Nat), .int .u64 (wd hh 2 : Nat), .int .u64 (wd hh 3 : Nat)] 24)).alloc (.cells #[.int .u64 (wd 0 0 : Nat), .int .u64 (wd 0 1 : Nat), .int .u64 (wd 0 2 : Nat), .int .u64 (wd 0 3 : Nat)] 24)) = W8 at *
  generalize v7.heap.size + 1 = gp0 at *
  generalize v7.heap.size = ghh at *
  have Fa := Lib.hid Na
  have Fb := Lib.hid Nb
  have Fal := Lib.hid Nal
  have Fah := Lib.hid Nah
  have Fbl := Lib.hid Nbl
  have Fbh := Lib.hid Nbh
  have Fll := Lib.hid Nll
  have Fm0 := Lib.hid Nm0
  have Flh := Lib.hid Nlh
  have Fn0 := Lib.hid Nn0
  have Fhl := Lib.hid Nhl
  have Fo0 := Lib.hid No0
  have Fhh := Lib.hid Nhh
  have Fp0 := Lib.hid Np0
  have BW := Lib.hid NB
  clear NB Na Nb Nal Nah Nbl Nbh Nll Nm0 Nlh Nn0 Nhl No0 Nhh Np0
  have HK : ∀ w', Below W8.heap.size W8 w' → (w'.cell? ⟨gm0, 0, none⟩ = some (.int .u64 (wd 0 0 : Nat)) ∧ w'.cell? ⟨gm0, 1, none⟩ = some (.int .u64 (wd 0 1 : Nat)) ∧ w'.cell? ⟨gm0, 2, none⟩ = some (.int .u64 (wd 0 2 : Nat)) ∧ w'.cell? ⟨gm0, 3, none⟩ = some (.int .u64 (wd 0 3 : Nat)) ∧ w'.cell? ⟨gn0, 0, none⟩ = some (.int .u64 (wd 0 0 : Nat)) ∧ w'.cell? ⟨gn0, 1, none⟩ = some (.int .u64 (wd 0 1 : Nat)) ∧ w'.cell? ⟨gn0, 2, none⟩ = some (.int .u64 (wd 0 2 : Nat)) ∧ w'.cell? ⟨gn0, 3, none⟩ = some (.int .u64 (wd 0 3 : Nat)) ∧ w'.cell? ⟨go0, 0, none⟩ = some (.int .u64 (wd 0 0 : Nat)) ∧ w'.cell? ⟨go0, 1, none⟩ = some (.int .u64 (wd 0 1 : Nat)) ∧ w'.cell? ⟨go0, 2, none⟩ = some (.int .u64 (wd 0 2 : Nat)) ∧ w'.cell? ⟨go0, 3, none⟩ = some (.int .u64 (wd 0 3 : Nat)) ∧ w'.cell? ⟨gp0, 0, none⟩ = some (.int .u64 (wd 0 0 : Nat)) ∧ w'.cell? ⟨gp0, 1, none⟩ = some (.int .u64 (wd 0 1 : Nat)) ∧ w'.cell? ⟨gp0, 2, none⟩ = some (.int .u64 (wd 0 2 : Nat)) ∧ w'.cell? ⟨gp0, 3, none⟩ = some (.int .u64 (wd 0 3 : Nat)) ∧ Below W8.heap.size W8 w') := fun w' h => ⟨cell_on h (Fm0.out.cell 0), cell_on h (Fm0.out.cell 1), cell_on h (Fm0.out.cell 2), cell_on h (Fm0.out.cell 3), cell_on h (Fn0.out.cell 0), cell_on h (Fn0.out.cell 1), cell_on h (Fn0.out.cell 2), cell_on h (Fn0.out.cell 3), cell_on h (Fo0.out.cell 0), cell_on h (Fo0.out.cell 1), cell_on h (Fo0.out.cell 2), cell_on h (Fo0.out.cell 3), cell_on h (Fp0.out.cell 0), cell_on h (Fp0.out.cell 1), cell_on h (Fp0.out.cell 2), cell_on h (Fp0.out.cell 3), h⟩
  try simp only [List.append_eq, List.cons_append, List.nil_append]
  have B9_0 : Below W8.heap.size W8 W8.drew := (Below.refl _ _).drew
  refine wp_region_noPanic ?_
  refine wp_region_held_drew (S := fun w' => w'.cell? ⟨gm0, 0, none⟩ = some (.int .u64 (wd 0 0 : Nat)) ∧ w'.cell? ⟨gm0, 1, none⟩ = some (.int .u64 (wd 0 1 : Nat)) ∧ w'.cell? ⟨gm0, 2, none⟩ = some (.int .u64 (wd 0 2 : Nat)) ∧ w'.cell? ⟨gm0, 3, none⟩ = some (.int .u64 (wd 0 3 : Nat)) ∧ w'.cell? ⟨gn0, 0, none⟩ = some (.int .u64 (wd 0 0 : Nat)) ∧ w'.cell? ⟨gn0, 1, none⟩ = some (.int .u64 (wd 0 1 : Nat)) ∧ w'.cell? ⟨gn0, 2, none⟩ = some (.int .u64 (wd 0 2 : Nat)) ∧ w'.cell? ⟨gn0, 3, none⟩ = some (.int .u64 (wd 0 3 : Nat)) ∧ w'.cell? ⟨go0, 0, none⟩ = some (.int .u64 (wd 0 0 : Nat)) ∧ w'.cell? ⟨go0, 1, none⟩ = some (.int .u64 (wd 0 1 : Nat)) ∧ w'.cell? ⟨go0, 2, none⟩ = some (.int .u64 (wd 0 2 : Nat)) ∧ w'.cell? ⟨go0, 3, none⟩ = some (.int .u64 (wd 0 3 : Nat)) ∧ w'.cell? ⟨gp0, 0, none⟩ = some (.int .u64 (wd 0 0 : Nat)) ∧ w'.cell? ⟨gp0, 1, none⟩ = some (.int .u64 (wd 0 1 : Nat)) ∧ w'.cell? ⟨gp0, 2, none⟩ = some (.int .u64 (wd 0 2 : Nat)) ∧ w'.cell? ⟨gp0, 3, none⟩ = some (.int .u64 (wd 0 3 : Nat)) ∧ Below W8.heap.size W8 w') (by kernel_rfl) (HK _ B9_0) (fun hHeld => ?_)
  refine wpAnyH_take (i := 0) (oi := ?_) (v := ?_) ?_ (by kernel_rfl) (by kernel_rfl) (by kernel_rfl) (fun _ _ _ h => h) ?_ (by assumption) ?_
  rotate_left 2
  · simp only [List.getElem?_toArray, List.getElem?_cons_succ, List.getElem?_cons_zero]; exact rfl
  · refine Or.inl ⟨by rfl, ?_⟩; intro w hSw; (try dsimp only at hSw); go_simp; try with_reducible rfl
  try simp only [Act.put, List.setIfInBounds_toArray, List.set_cons_zero, List.set_cons_succ]
  refine wpAnyH_ready (rs := [1]) (by kernel_rfl) (by simp) ?_
  refine AllReadyH.cons (o := ?_) ?_ ?_ AllReadyH.nil
  rotate_left
  · simp only [List.getElem?_toArray, List.getElem?_cons_succ, List.getElem?_cons_zero]; exact rfl
  intro K hK
  go_simp
  refine (of0N _).mono ?_
  rintro e u9_1 ⟨rfl, y1⟩
  have B9_1 : Below W8.heap.size W8 u9_1 := bel_tr B9_0 y1
  clear y1 B9_0 hHeld
  refine hK.out _ _ (HK _ B9_1) (fun hHeld => ?_)
  clear hK K
  try simp only [Act.put, List.setIfInBounds_toArray, List.set_cons_zero, List.set_cons_succ]
  refine wpAnyH_take (i := 2) (oi := ?_) (v := ?_) ?_ (by kernel_rfl) (by kernel_rfl) (by kernel_rfl) (fun _ _ _ h => h) ?_ (by assumption) ?_
  rotate_left 2
  · simp only [List.getElem?_toArray, List.getElem?_cons_succ, List.getElem?_cons_zero]; exact rfl
  · refine Or.inl ⟨by rfl, ?_⟩; intro w hSw; (try dsimp only at hSw); go_simp; try with_reducible rfl
  try simp only [Act.put, List.setIfInBounds_toArray, List.set_cons_zero, List.set_cons_succ]
  refine wpAnyH_take (i := 3) (oi := ?_) (v := ?_) ?_ (by kernel_rfl) (by kernel_rfl) (by kernel_rfl) (fun _ _ _ h => h) ?_ (by assumption) ?_
  rotate_left 2
  · simp only [List.getElem?_toArray, List.getElem?_cons_succ, List.getElem?_cons_zero]; exact rfl
  · refine Or.inl ⟨by rfl, ?_⟩; intro w hSw; (try dsimp only at hSw); go_simp; try with_reducible rfl
  try simp only [Act.put, List.setIfInBounds_toArray, List.set_cons_zero, List.set_cons_succ]
  refine wpAnyH_take (i := 4) (oi := ?_) (v := ?_) ?_ (by kernel_rfl) (by kernel_rfl) (by kernel_rfl) (fun _ _ _ h => h) ?_ (by assumption) ?_
  rotate_left 2
  · simp only [List.getElem?_toArray, List.getElem?_cons_succ, List.getElem?_cons_zero]; exact rfl
  · refine Or.inl ⟨by rfl, ?_⟩; intro w hSw; (try dsimp only at hSw); go_simp; try with_reducible rfl
  try simp only [Act.put, List.setIfInBounds_toArray, List.set_cons_zero, List.set_cons_succ]
  refine wpAnyH_ready (rs := [5]) (by kernel_rfl) (by simp) ?_
  refine AllReadyH.cons (o := ?_) ?_ ?_ AllReadyH.nil
  rotate_left
  · simp only [List.getElem?_toArray, List.getElem?_cons_succ, List.getElem?_cons_zero]; exact rfl
  intro K hK
  go_simp
  refine (of0N _).mono ?_
  rintro e u9_2 ⟨rfl, y2⟩
  have B9_2 : Below W8.heap.size W8 u9_2 := bel_tr B9_1 y2
  clear y2 B9_1 hHeld
  refine hK.out _ _ (HK _ B9_2) (fun hHeld => ?_)
  clear hK K
  try simp only [Act.put, List.setIfInBounds_toArray, List.set_cons_zero, List.set_cons_succ]
  refine wpAnyH_take (i := 6) (oi := ?_) (v := ?_) ?_ (by kernel_rfl) (by kernel_rfl) (by kernel_rfl) (fun _ _ _ h => h) ?_ (by assumption) ?_
  rotate_left 2
  · simp only [List.getElem?_toArray, List.getElem?_cons_succ, List.getElem?_cons_zero]; exact rfl
  · refine Or.inl ⟨by rfl, ?_⟩; intro w hSw; (try dsimp only at hSw); go_simp; try with_reducible rfl
  try simp only [Act.put, List.setIfInBounds_toArray, List.set_cons_zero, List.set_cons_succ]
  refine wpAnyH_take (i := 7) (oi := ?_) (v := ?_) ?_ (by kernel_rfl) (by kernel_rfl) (by kernel_rfl) (fun _ _ _ h => h) ?_ (by assumption) ?_
  rotate_left 2
  · simp only [List.getElem?_toArray, List.getElem?_cons_succ, List.getElem?_cons_zero]; exact rfl
  · refine Or.inl ⟨by rfl, ?_⟩; intro w hSw; (try dsimp only at hSw); go_simp; try with_reducible rfl
  try simp only [Act.put, List.setIfInBounds_toArray, List.set_cons_zero, List.set_cons_succ]
  refine wpAnyH_take (i := 8) (oi := ?_) (v := ?_) ?_ (by kernel_rfl) (by kernel_rfl) (by kernel_rfl) (fun _ _ _ h => h) ?_ (by assumption) ?_
  rotate_left 2
  · simp only [List.getElem?_toArray, List.getElem?_cons_succ, List.getElem?_cons_zero]; exact rfl
  · refine Or.inl ⟨by rfl, ?_⟩; intro w hSw; (try dsimp only at hSw); go_simp; try with_reducible rfl
  try simp only [Act.put, List.setIfInBounds_toArray, List.set_cons_zero, List.set_cons_succ]
  refine wpAnyH_take (i := 9) (oi := ?_) (v := ?_) ?_ (by kernel_rfl) (by kernel_rfl) (by kernel_rfl) (fun _ _ _ h => h) ?_ (by assumption) ?_
  rotate_left 2
  · simp only [List.getElem?_toArray, List.getElem?_cons_succ, List.getElem?_cons_zero]; exact rfl
  · refine Or.inl ⟨by rfl, ?_⟩; intro w hSw; (try dsimp only at hSw); go_simp; try with_reducible rfl
  try simp only [Act.put, List.setIfInBounds_toArray, List.set_cons_zero, List.set_cons_succ]
  refine wpAnyH_ready (rs := [10]) (by kernel_rfl) (by simp) ?_
  refine AllReadyH.cons (o := ?_) ?_ ?_ AllReadyH.nil
  rotate_left
  · simp only [List.getElem?_toArray, List.getElem?_cons_succ, List.getElem?_cons_zero]; exact rfl
  intro K hK
  go_simp
  refine (of0N _).mono ?_
  rintro e u9_3 ⟨rfl, y3⟩
  have B9_3 : Below W8.heap.size W8 u9_3 := bel_tr B9_2 y3
  clear y3 B9_2 hHeld
  refine hK.out _ _ (HK _ B9_3) (fun hHeld => ?_)
  clear hK K
  try simp only [Act.put, List.setIfInBounds_toArray, List.set_cons_zero, List.set_cons_succ]
  refine wpAnyH_take (i := 11) (oi := ?_) (v := ?_) ?_ (by kernel_rfl) (by kernel_rfl) (by kernel_rfl) (fun _ _ _ h => h) ?_ (by assumption) ?_
  rotate_left 2
  · simp only [List.getElem?_toArray, List.getElem?_cons_succ, List.getElem?_cons_zero]; exact rfl
  · refine Or.inl ⟨by rfl, ?_⟩; intro w hSw; (try dsimp only at hSw); go_simp; try with_reducible rfl
  try simp only [Act.put, List.setIfInBounds_toArray, List.set_cons_zero, List.set_cons_succ]
  refine wpAnyH_take (i := 12) (oi := ?_) (v := ?_) ?_ (by kernel_rfl) (by kernel_rfl) (by kernel_rfl) (fun _ _ _ h => h) ?_ (by assumption) ?_
  rotate_left 2
  · simp only [List.getElem?_toArray, List.getElem?_cons_succ, List.getElem?_cons_zero]; exact rfl
  · refine Or.inl ⟨by rfl, ?_⟩; intro w hSw; (try dsimp only at hSw); go_simp; try with_reducible rfl
  try simp only [Act.put, List.setIfInBounds_toArray, List.set_cons_zero, List.set_cons_succ]
  refine wpAnyH_take (i := 13) (oi := ?_) (v := ?_) ?_ (by kernel_rfl) (by kernel_rfl) (by kernel_rfl) (fun _ _ _ h => h) ?_ (by assumption) ?_
  rotate_left 2
  · simp only [List.getElem?_toArray, List.getElem?_cons_succ, List.getElem?_cons_zero]; exact rfl
  · refine Or.inl ⟨by rfl, ?_⟩; intro w hSw; (try dsimp only at hSw); go_simp; try with_reducible rfl
  try simp only [Act.put, List.setIfInBounds_toArray, List.set_cons_zero, List.set_cons_succ]
  refine wpAnyH_take (i := 14) (oi := ?_) (v := ?_) ?_ (by kernel_rfl) (by kernel_rfl) (by kernel_rfl) (fun _ _ _ h => h) ?_ (by assumption) ?_
  rotate_left 2
  · simp only [List.getElem?_toArray, List.getElem?_cons_succ, List.getElem?_cons_zero]; exact rfl
  · refine Or.inl ⟨by rfl, ?_⟩; intro w hSw; (try dsimp only at hSw); go_simp; try with_reducible rfl
  try simp only [Act.put, List.setIfInBounds_toArray, List.set_cons_zero, List.set_cons_succ]
  refine wpAnyH_ready (rs := [15]) (by kernel_rfl) (by simp) ?_
  refine AllReadyH.cons (o := ?_) ?_ ?_ AllReadyH.nil
  rotate_left
  · simp only [List.getElem?_toArray, List.getElem?_cons_succ, List.getElem?_cons_zero]; exact rfl
  intro K hK
  go_simp
  refine (of0N _).mono ?_
  rintro e u9_4 ⟨rfl, y4⟩
  have B9_4 : Below W8.heap.size W8 u9_4 := bel_tr B9_3 y4
  clear y4 B9_3 hHeld
  refine hK.out _ _ (HK _ B9_4) (fun hHeld => ?_)
  clear hK K
  try simp only [Act.put, List.setIfInBounds_toArray, List.set_cons_zero, List.set_cons_succ]
  refine wpAnyH_take (i := 16) (oi := ?_) (v := ?_) ?_ (by kernel_rfl) (by kernel_rfl) (by kernel_rfl) (fun _ _ _ h => h) ?_ (by assumption) ?_
  rotate_left 2
  · simp only [List.getElem?_toArray, List.getElem?_cons_succ, List.getElem?_cons_zero]; exact rfl
  · refine Or.inl ⟨by rfl, ?_⟩; intro w hSw; (try dsimp only at hSw); go_simp; try with_reducible rfl
  try simp only [Act.put, List.setIfInBounds_toArray, List.set_cons_zero, List.set_cons_succ]
  refine wpAnyH_take (i := 17) (oi := ?_) (v := ?_) ?_ (by kernel_rfl) (by kernel_rfl) (by kernel_rfl) (fun _ _ _ h => h) ?_ (by assumption) ?_
  rotate_left 2
  · simp only [List.getElem?_toArray, List.getElem?_cons_succ, List.getElem?_cons_zero]; exact rfl
  · refine Or.inl ⟨by rfl, ?_⟩; intro w hSw; (try dsimp only at hSw); go_simp; try with_reducible rfl
  try simp only [Act.put, List.setIfInBounds_toArray, List.set_cons_zero, List.set_cons_succ]
  refine wpAnyH_done (by kernel_rfl) ?_ _
  refine NoPanic.normal ?_
  clear HK
  have Na := Fa.out.on B9_4
  have Nb := Fb.out.on B9_4
  have Nal := Fal.out.on B9_4
  have Nah := Fah.out.on B9_4
  have Nbl := Fbl.out.on B9_4
  have Nbh := Fbh.out.on B9_4
  have Nll := Fll.out.on B9_4
  have Nm0 := Fm0.out.on B9_4
  have Nlh := Flh.out.on B9_4
  have Nn0 := Fn0.out.on B9_4
  have Nhl := Fhl.out.on B9_4
  have No0 := Fo0.out.on B9_4
  have Nhh := Fhh.out.on B9_4
  have Np0 := Fp0.out.on B9_4
  have NB := bel_tr BW.out B9_4
  clear BW hHeld B9_4 Fa Fb Fal Fah Fbl Fbh Fll Fm0 Flh Fn0 Fhl Fo0 Fhh Fp0
  have Fa := Lib.hid Na
  have Fb := Lib.hid Nb
  have Fal := Lib.hid Nal
  have Fah := Lib.hid Nah
  have Fbl := Lib.hid Nbl
  have Fbh := Lib.hid Nbh
  have Fll := Lib.hid Nll
  have Fm0 := Lib.hid Nm0
  have Flh := Lib.hid Nlh
  have Fn0 := Lib.hid Nn0
  have Fhl := Lib.hid Nhl
  have Fo0 := Lib.hid No0
  have Fhh := Lib.hid Nhh
  have Fp0 := Lib.hid Np0
  have BW := Lib.hid NB
  clear NB Na Nb Nal Nah Nbl Nbh Nll Nm0 Nlh Nn0 Nhl No0 Nhh Np0
  clear Fm0
  clear Fn0
  clear Fo0
  clear Fp0
  clear Fal
  clear Fah
  clear Fbl
  clear Fbh
  have Llh := Flh.out.lt
  have clh0 : u9_4.cell? ⟨glh, 0, none⟩ = some (.int .u64 (wd lh 0 : Nat)) := Flh.out.cell 0
  have clh1 : u9_4.cell? ⟨glh, 1, none⟩ = some (.int .u64 (wd lh 1 : Nat)) := Flh.out.cell 1
  have clh2 : u9_4.cell? ⟨glh, 2, none⟩ = some (.int .u64 (wd lh 2 : Nat)) := Flh.out.cell 2
  have clh3 : u9_4.cell? ⟨glh, 3, none⟩ = some (.int .u64 (wd lh 3 : Nat)) := Flh.out.cell 3
  have Lhl := Fhl.out.lt
  have chl0 : u9_4.cell? ⟨ghl, 0, none⟩ = some (.int .u64 (wd hl 0 : Nat)) := Fhl.out.cell 0
  have chl1 : u9_4.cell? ⟨ghl, 1, none⟩ = some (.int .u64 (wd hl 1 : Nat)) := Fhl.out.cell 1
  have chl2 : u9_4.cell? ⟨ghl, 2, none⟩ = some (.int .u64 (wd hl 2 : Nat)) := Fhl.out.cell 2
  have chl3 : u9_4.cell? ⟨ghl, 3, none⟩ = some (.int .u64 (wd hl 3 : Nat)) := Fhl.out.cell 3
  go_wp2_with fail
  clear Llh clh0 clh1 clh2 clh3 Lhl chl0 chl1 chl2 chl3
  refine (A5.out _).mono ?_
  rintro e v10 ⟨rfl, z10⟩
  have Na := Lib.hid (Fa.out.on z10)
  have Nb := Lib.hid (Fb.out.on z10)
  have Nll := Lib.hid (Fll.out.on z10)
  have Nlh := Lib.hid (Flh.out.on z10)
  have Nhl := Lib.hid (Fhl.out.on z10)
  have Nhh := Lib.hid (Fhh.out.on z10)
  have NB := Lib.hid (bel_tr BW.out z10)
  clear BW z10 Fa Fb Fll Flh Fhl Fhh
  have Fa := Na
  have Fb := Nb
  have Fll := Nll
  have Flh := Nlh
  have Fhl := Nhl
  have Fhh := Nhh
  have BW := NB
  clear NB Na Nb Nll Nlh Nhl Nhh
  go_wp2_with fail
  have Ncr : At (v10.alloc (.cells #[.int .u64 (wd cr 0 : Nat), .int .u64 (wd cr 1 : Nat), .int .u64 (wd cr 2 : Nat), .int .u64 (wd cr 3 : Nat)] 24)) (v10.heap.size) 24 #[.int .u64 (wd cr 0 : Nat), .int .u64 (wd cr 1 : Nat), .int .u64 (wd cr 2 : Nat), .int .u64 (wd cr 3 : Nat)] := At.at_ _ _ _ _ (by simp)
  have Na : At (v10.alloc (.cells #[.int .u64 (wd cr 0 : Nat), .int .u64 (wd cr 1 : Nat), .int .u64 (wd cr 2 : Nat), .int .u64 (wd cr 3 : Nat)] 24)) ga 24 #[.int .u64 (wd X 0 : Nat), .int .u64 (wd X 1 : Nat), .int .u64 (wd X 2 : Nat), .int .u64 (wd X 3 : Nat)] := Fa.out.alloc _
  have Nb : At (v10.alloc (.cells #[.int .u64 (wd cr 0 : Nat), .int .u64 (wd cr 1 : Nat), .int .u64 (wd cr 2 : Nat), .int .u64 (wd cr 3 : Nat)] 24)) gb 24 #[.int .u64 (wd Y 0 : Nat), .int .u64 (wd Y 1 : Nat), .int .u64 (wd Y 2 : Nat), .int .u64 (wd Y 3 : Nat)] := Fb.out.alloc _
  have Nll : At (v10.alloc (.cells #[.int .u64 (wd cr 0 : Nat), .int .u64 (wd cr 1 : Nat), .int .u64 (wd cr 2 : Nat), .int .u64 (wd cr 3 : Nat)] 24)) gll 24 #[.int .u64 (wd ll 0 : Nat), .int .u64 (wd ll 1 : Nat), .int .u64 (wd ll 2 : Nat), .int .u64 (wd ll 3 : Nat)] := Fll.out.alloc _
  have Nlh : At (v10.alloc (.cells #[.int .u64 (wd cr 0 : Nat), .int .u64 (wd cr 1 : Nat), .int .u64 (wd cr 2 : Nat), .int .u64 (wd cr 3 : Nat)] 24)) glh 24 #[.int .u64 (wd lh 0 : Nat), .int .u64 (wd lh 1 : Nat), .int .u64 (wd lh 2 : Nat), .int .u64 (wd lh 3 : Nat)] := Flh.out.alloc _
  have Nhl : At (v10.alloc (.cells #[.int .u64 (wd cr 0 : Nat), .int .u64 (wd cr 1 : Nat), .int .u64 (wd cr 2 : Nat), .int .u64 (wd cr 3 : Nat)] 24)) ghl 24 #[.int .u64 (wd hl 0 : Nat), .int .u64 (wd hl 1 : Nat), .int .u64 (wd hl 2 : Nat), .int .u64 (wd hl 3 : Nat)] := Fhl.out.alloc _
  have Nhh : At (v10.alloc (.cells #[.int .u64 (wd cr 0 : Nat), .int .u64 (wd cr 1 : Nat), .int .u64 (wd cr 2 : Nat), .int .u64 (wd cr 3 : Nat)] 24)) ghh 24 #[.int .u64 (wd hh 0 : Nat), .int .u64 (wd hh 1 : Nat), .int .u64 (wd hh 2 : Nat), .int .u64 (wd hh 3 : Nat)] := Fhh.out.alloc _
  have NB : Below w.heap.size w (v10.alloc (.cells #[.int .u64 (wd cr 0 : Nat), .int .u64 (wd cr 1 : Nat), .int .u64 (wd cr 2 : Nat), .int .u64 (wd cr 3 : Nat)] 24)) := gr_alloc BW.out _
  clear BW Fa Fb Fll Flh Fhl Fhh
  generalize (v10.alloc (.cells #[.int .u64 (wd cr 0 : Nat), .int .u64 (wd cr 1 : Nat), .int .u64 (wd cr 2 : Nat), .int .u64 (wd cr 3 : Nat)] 24)) = W11 at *
  generalize v10.heap.size = gcr at *
  have Fa := Lib.hid Na
  have Fb := Lib.hid Nb
  have Fll := Lib.hid Nll
  have Flh := Lib.hid Nlh
  have Fhl := Lib.hid Nhl
  have Fhh := Lib.hid Nhh
  have Fcr := Lib.hid Ncr
  have BW := Lib.hid NB
  clear NB Na Nb Nll Nlh Nhl Nhh Ncr
  have HK : ∀ w', Below W11.heap.size W11 w' → (w'.cell? ⟨gll, 0, none⟩ = some (.int .u64 (wd ll 0 : Nat)) ∧ w'.cell? ⟨gll, 1, none⟩ = some (.int .u64 (wd ll 1 : Nat)) ∧ w'.cell? ⟨gll, 2, none⟩ = some (.int .u64 (wd ll 2 : Nat)) ∧ w'.cell? ⟨gll, 3, none⟩ = some (.int .u64 (wd ll 3 : Nat)) ∧ w'.cell? ⟨gcr, 0, none⟩ = some (.int .u64 (wd cr 0 : Nat)) ∧ w'.cell? ⟨gcr, 1, none⟩ = some (.int .u64 (wd cr 1 : Nat)) ∧ w'.cell? ⟨gcr, 2, none⟩ = some (.int .u64 (wd cr 2 : Nat)) ∧ w'.cell? ⟨gcr, 3, none⟩ = some (.int .u64 (wd cr 3 : Nat)) ∧ Below W11.heap.size W11 w') := fun w' h => ⟨cell_on h (Fll.out.cell 0), cell_on h (Fll.out.cell 1), cell_on h (Fll.out.cell 2), cell_on h (Fll.out.cell 3), cell_on h (Fcr.out.cell 0), cell_on h (Fcr.out.cell 1), cell_on h (Fcr.out.cell 2), cell_on h (Fcr.out.cell 3), h⟩
  go_cut [19, 20] (fun s19 s20 wx => ∃ glo, s19 = .pointer (some ⟨glo, 0, none⟩) ∧ s20 = .int .u64 (mo : Nat) ∧ Hid (At wx glo 24 #[.int .u64 (wd P 0 : Nat), .int .u64 (wd P 1 : Nat), .int .u64 (wd P 2 : Nat), .int .u64 (wd P 3 : Nat)]) ∧ Hid (At wx ga 24 #[.int .u64 (wd X 0 : Nat), .int .u64 (wd X 1 : Nat), .int .u64 (wd X 2 : Nat), .int .u64 (wd X 3 : Nat)]) ∧ Hid (At wx gb 24 #[.int .u64 (wd Y 0 : Nat), .int .u64 (wd Y 1 : Nat), .int .u64 (wd Y 2 : Nat), .int .u64 (wd Y 3 : Nat)]) ∧ Hid (At wx gll 24 #[.int .u64 (wd ll 0 : Nat), .int .u64 (wd ll 1 : Nat), .int .u64 (wd ll 2 : Nat), .int .u64 (wd ll 3 : Nat)]) ∧ Hid (At wx glh 24 #[.int .u64 (wd lh 0 : Nat), .int .u64 (wd lh 1 : Nat), .int .u64 (wd lh 2 : Nat), .int .u64 (wd lh 3 : Nat)]) ∧ Hid (At wx ghl 24 #[.int .u64 (wd hl 0 : Nat), .int .u64 (wd hl 1 : Nat), .int .u64 (wd hl 2 : Nat), .int .u64 (wd hl 3 : Nat)]) ∧ Hid (At wx ghh 24 #[.int .u64 (wd hh 0 : Nat), .int .u64 (wd hh 1 : Nat), .int .u64 (wd hh 2 : Nat), .int .u64 (wd hh 3 : Nat)]) ∧ Hid (At wx gcr 24 #[.int .u64 (wd cr 0 : Nat), .int .u64 (wd cr 1 : Nat), .int .u64 (wd cr 2 : Nat), .int .u64 (wd cr 3 : Nat)]) ∧ Hid (Below w.heap.size w wx) ∧ Hid (W11.heap.size ≤ glo))
  case first => as_aux_lemma =>
    try simp only [List.append_eq, List.cons_append, List.nil_append]
    have B0 : Below W11.heap.size W11 W11.drew := (Below.refl _ _).drew
    refine wp_region_noPanic ?_
    refine wp_region_held_drew (S := fun w' => w'.cell? ⟨gll, 0, none⟩ = some (.int .u64 (wd ll 0 : Nat)) ∧ w'.cell? ⟨gll, 1, none⟩ = some (.int .u64 (wd ll 1 : Nat)) ∧ w'.cell? ⟨gll, 2, none⟩ = some (.int .u64 (wd ll 2 : Nat)) ∧ w'.cell? ⟨gll, 3, none⟩ = some (.int .u64 (wd ll 3 : Nat)) ∧ w'.cell? ⟨gcr, 0, none⟩ = some (.int .u64 (wd cr 0 : Nat)) ∧ w'.cell? ⟨gcr, 1, none⟩ = some (.int .u64 (wd cr 1 : Nat)) ∧ w'.cell? ⟨gcr, 2, none⟩ = some (.int .u64 (wd cr 2 : Nat)) ∧ w'.cell? ⟨gcr, 3, none⟩ = some (.int .u64 (wd cr 3 : Nat)) ∧ Below W11.heap.size W11 w') (by kernel_rfl) (HK _ B0) (fun hHeld => ?_)
    generalize W11.drew = x0 at *
    refine wpAnyH_take (i := 0) (oi := ?_) (v := ?_) ?_ (by kernel_rfl) (by kernel_rfl) (by kernel_rfl) (fun _ _ _ h => h) ?_ (by assumption) ?_
    rotate_left 2
    · simp only [List.getElem?_toArray, List.getElem?_cons_succ, List.getElem?_cons_zero]; exact rfl
    · refine Or.inl ⟨by rfl, ?_⟩; intro w hSw; (try dsimp only at hSw); go_simp; try with_reducible rfl
    try simp only [Act.put, List.setIfInBounds_toArray, List.set_cons_zero, List.set_cons_succ]
    refine wpAnyH_take (i := 1) (oi := ?_) (v := ?_) ?_ (by kernel_rfl) (by kernel_rfl) (by kernel_rfl) (fun _ _ _ h => h) ?_ (by assumption) ?_
    rotate_left 2
    · simp only [List.getElem?_toArray, List.getElem?_cons_succ, List.getElem?_cons_zero]; exact rfl
    · refine Or.inl ⟨by rfl, ?_⟩; intro w hSw; (try dsimp only at hSw); go_simp; try with_reducible rfl
    try simp only [Act.put, List.setIfInBounds_toArray, List.set_cons_zero, List.set_cons_succ]
    refine wpAnyH_ready (rs := [2, 7]) (by kernel_rfl) (by simp) ?_
    refine AllReadyH.cons (o := ?_) ?_ ?_ ?_
    rotate_left 1
    · simp only [List.getElem?_toArray, List.getElem?_cons_succ, List.getElem?_cons_zero]; exact rfl
    · intro K hK
      go_simp
      refine (A6.out _).mono ?_
      rintro e x1 ⟨rfl, y⟩
      have B_x1 : Below W11.heap.size W11 x1 := bel_tr B0 y
      clear y hHeld B0 
      refine hK.out _ _ (HK _ B_x1) (fun hHeld => ?_)
      clear hK K
      try simp only [Act.put, List.setIfInBounds_toArray, List.set_cons_zero, List.set_cons_succ]
      refine wpAnyH_ready (rs := [3, 7]) (by kernel_rfl) (by simp) ?_
      refine AllReadyH.cons (o := ?_) ?_ ?_ ?_
      rotate_left 1
      · simp only [List.getElem?_toArray, List.getElem?_cons_succ, List.getElem?_cons_zero]; exact rfl
      · intro K hK
        go_simp
        refine (A7.out _).mono ?_
        rintro e x2 ⟨rfl, y⟩
        have B_x2 : Below W11.heap.size W11 x2 := bel_tr B_x1 y
        clear y hHeld B_x1 
        refine hK.out _ _ (HK _ B_x2) (fun hHeld => ?_)
        clear hK K
        try simp only [Act.put, List.setIfInBounds_toArray, List.set_cons_zero, List.set_cons_succ]
        refine wpAnyH_take (i := 4) (oi := ?_) (v := ?_) ?_ (by kernel_rfl) (by kernel_rfl) (by kernel_rfl) (fun _ _ _ h => h) ?_ (by assumption) ?_
        rotate_left 2
        · simp only [List.getElem?_toArray, List.getElem?_cons_succ, List.getElem?_cons_zero]; exact rfl
        · refine Or.inl ⟨by rfl, ?_⟩; intro w hSw; (try dsimp only at hSw); go_simp; try with_reducible rfl
        try simp only [Act.put, List.setIfInBounds_toArray, List.set_cons_zero, List.set_cons_succ]
        refine wpAnyH_take (i := 5) (oi := ?_) (v := ?_) ?_ (by kernel_rfl) (by kernel_rfl) (by kernel_rfl) (fun _ _ _ h => h) ?_ (by assumption) ?_
        rotate_left 2
        · simp only [List.getElem?_toArray, List.getElem?_cons_succ, List.getElem?_cons_zero]; exact rfl
        · refine Or.inl ⟨by rfl, ?_⟩; intro w hSw; (try dsimp only at hSw); go_simp; try with_reducible rfl
        try simp only [Act.put, List.setIfInBounds_toArray, List.set_cons_zero, List.set_cons_succ]
        refine wpAnyH_take (i := 6) (oi := ?_) (v := ?_) ?_ (by kernel_rfl) (by kernel_rfl) (by kernel_rfl) (fun _ _ _ h => h) ?_ (by assumption) ?_
        rotate_left 2
        · simp only [List.getElem?_toArray, List.getElem?_cons_succ, List.getElem?_cons_zero]; exact rfl
        · refine Or.inl ⟨by rfl, ?_⟩; intro w hSw; (try dsimp only at hSw); go_simp; try with_reducible rfl
        try simp only [Act.put, List.setIfInBounds_toArray, List.set_cons_zero, List.set_cons_succ]
        refine wpAnyH_ready (rs := [7]) (by kernel_rfl) (by simp) ?_
        refine AllReadyH.cons (o := ?_) ?_ ?_ AllReadyH.nil
        rotate_left
        · simp only [List.getElem?_toArray, List.getElem?_cons_succ, List.getElem?_cons_zero]; exact rfl
        intro K hK
        go_simp
        refine hK.out _ _ (HK _ (gr_alloc B_x2 _)) (fun hHeld => ?_)
        clear hK K
        try simp only [Act.put, List.setIfInBounds_toArray, List.set_cons_zero, List.set_cons_succ]
        have A19_x3 : At (x2.alloc (.cells #[.int .u64 0, .int .u64 0, .int .u64 0, .int .u64 0] 24)) x2.heap.size 24 #[.int .u64 0, .int .u64 0, .int .u64 0, .int .u64 0] := At.new _ _ _
        have B_x3 : Below W11.heap.size W11 (x2.alloc (.cells #[.int .u64 0, .int .u64 0, .int .u64 0, .int .u64 0] 24)) := gr_alloc B_x2 _
        have E19_b3 : W11.heap.size ≤ x2.heap.size := B_x2.size
        clear B_x2 
        generalize (x2.alloc (.cells #[.int .u64 0, .int .u64 0, .int .u64 0, .int .u64 0] 24)) = x3 at *
        generalize x2.heap.size = b3 at *
        refine wpAnyH_ready (rs := [8]) (by kernel_rfl) (by simp) ?_
        refine AllReadyH.cons (o := ?_) ?_ ?_ AllReadyH.nil
        rotate_left
        · simp only [List.getElem?_toArray, List.getElem?_cons_succ, List.getElem?_cons_zero]; exact rfl
        intro K hK
        have c0 : x3.cell? ⟨b3, 0, none⟩ = some (.int .u64 0) := A19_x3.cell 0
        have f0 : x3.frozen? ⟨b3, 0, none⟩ = false := A19_x3.frozen 0
        have c1 : x3.cell? ⟨b3, 1, none⟩ = some (.int .u64 0) := A19_x3.cell 1
        have f1 : x3.frozen? ⟨b3, 1, none⟩ = false := A19_x3.frozen 1
        have c2 : x3.cell? ⟨b3, 2, none⟩ = some (.int .u64 0) := A19_x3.cell 2
        have f2 : x3.frozen? ⟨b3, 2, none⟩ = false := A19_x3.frozen 2
        have c3 : x3.cell? ⟨b3, 3, none⟩ = some (.int .u64 0) := A19_x3.cell 3
        have f3 : x3.frozen? ⟨b3, 3, none⟩ = false := A19_x3.frozen 3
        go_simp
        have B_x4 : Below W11.heap.size W11 ((((x3.setCell ⟨b3, 0, none⟩ (.int .u64 (wd P 0 : Nat))).setCell ⟨b3, 1, none⟩ (.int .u64 (wd P 1 : Nat))).setCell ⟨b3, 2, none⟩ (.int .u64 (wd P 2 : Nat))).setCell ⟨b3, 3, none⟩ (.int .u64 (wd P 3 : Nat))) := (((B_x3.setCell E19_b3 _).setCell E19_b3 _).setCell E19_b3 _).setCell E19_b3 _
        have A19_x4 : At ((((x3.setCell ⟨b3, 0, none⟩ (.int .u64 (wd P 0 : Nat))).setCell ⟨b3, 1, none⟩ (.int .u64 (wd P 1 : Nat))).setCell ⟨b3, 2, none⟩ (.int .u64 (wd P 2 : Nat))).setCell ⟨b3, 3, none⟩ (.int .u64 (wd P 3 : Nat))) b3 24 #[.int .u64 (wd P 0 : Nat), .int .u64 (wd P 1 : Nat), .int .u64 (wd P 2 : Nat), .int .u64 (wd P 3 : Nat)] := A19_x3.put4 _ _ _ _
        refine hK.out _ _ (HK _ B_x4) (fun hHeld => ?_)
        clear hK K c0 c1 c2 c3 f0 f1 f2 f3 B_x3 A19_x3
        try simp only [Act.put, List.setIfInBounds_toArray, List.set_cons_zero, List.set_cons_succ]
        generalize ((((x3.setCell ⟨b3, 0, none⟩ (.int .u64 (wd P 0 : Nat))).setCell ⟨b3, 1, none⟩ (.int .u64 (wd P 1 : Nat))).setCell ⟨b3, 2, none⟩ (.int .u64 (wd P 2 : Nat))).setCell ⟨b3, 3, none⟩ (.int .u64 (wd P 3 : Nat))) = x4 at *
        refine wpAnyH_take (i := 9) (oi := ?_) (v := ?_) ?_ (by kernel_rfl) (by kernel_rfl) (by kernel_rfl) (fun _ _ _ h => h) ?_ (by assumption) ?_
        rotate_left 2
        · simp only [List.getElem?_toArray, List.getElem?_cons_succ, List.getElem?_cons_zero]; exact rfl
        · refine Or.inl ⟨by rfl, ?_⟩; intro w hSw; (try dsimp only at hSw); go_simp; try with_reducible rfl
        try simp only [Act.put, List.setIfInBounds_toArray, List.set_cons_zero, List.set_cons_succ]
        refine wpAnyH_done (by kernel_rfl) ?_ _
        refine NoPanic.normal ?_
        clear HK hHeld
        go_wp2_with fail
        go_meet
        exact ⟨b3, rfl, rfl, A19_x4, Fa.out.on B_x4, Fb.out.on B_x4, Fll.out.on B_x4, Flh.out.on B_x4, Fhl.out.on B_x4, Fhh.out.on B_x4, Fcr.out.on B_x4, bel_tr BW.out B_x4, E19_b3⟩
      refine AllReadyH.cons (o := ?_) ?_ ?_ AllReadyH.nil
      rotate_left
      · simp only [List.getElem?_toArray, List.getElem?_cons_succ, List.getElem?_cons_zero]; exact rfl
      intro K hK
      go_simp
      refine hK.out _ _ (HK _ (gr_alloc B_x1 _)) (fun hHeld => ?_)
      clear hK K
      try simp only [Act.put, List.setIfInBounds_toArray, List.set_cons_zero, List.set_cons_succ]
      have A19_x5 : At (x1.alloc (.cells #[.int .u64 0, .int .u64 0, .int .u64 0, .int .u64 0] 24)) x1.heap.size 24 #[.int .u64 0, .int .u64 0, .int .u64 0, .int .u64 0] := At.new _ _ _
      have B_x5 : Below W11.heap.size W11 (x1.alloc (.cells #[.int .u64 0, .int .u64 0, .int .u64 0, .int .u64 0] 24)) := gr_alloc B_x1 _
      have E19_b5 : W11.heap.size ≤ x1.heap.size := B_x1.size
      clear B_x1 
      generalize (x1.alloc (.cells #[.int .u64 0, .int .u64 0, .int .u64 0, .int .u64 0] 24)) = x5 at *
      generalize x1.heap.size = b5 at *
      refine wpAnyH_ready (rs := [3]) (by kernel_rfl) (by simp) ?_
      refine AllReadyH.cons (o := ?_) ?_ ?_ AllReadyH.nil
      rotate_left
      · simp only [List.getElem?_toArray, List.getElem?_cons_succ, List.getElem?_cons_zero]; exact rfl
      intro K hK
      go_simp
      refine (A7.out _).mono ?_
      rintro e x6 ⟨rfl, y⟩
      have B_x6 : Below W11.heap.size W11 x6 := bel_tr B_x5 y
      have A19_x6 := A19_x5.on y
      clear y hHeld B_x5 A19_x5
      refine hK.out _ _ (HK _ B_x6) (fun hHeld => ?_)
      clear hK K
      try simp only [Act.put, List.setIfInBounds_toArray, List.set_cons_zero, List.set_cons_succ]
      refine wpAnyH_take (i := 4) (oi := ?_) (v := ?_) ?_ (by kernel_rfl) (by kernel_rfl) (by kernel_rfl) (fun _ _ _ h => h) ?_ (by assumption) ?_
      rotate_left 2
      · simp only [List.getElem?_toArray, List.getElem?_cons_succ, List.getElem?_cons_zero]; exact rfl
      · refine Or.inl ⟨by rfl, ?_⟩; intro w hSw; (try dsimp only at hSw); go_simp; try with_reducible rfl
      try simp only [Act.put, List.setIfInBounds_toArray, List.set_cons_zero, List.set_cons_succ]
      refine wpAnyH_take (i := 5) (oi := ?_) (v := ?_) ?_ (by kernel_rfl) (by kernel_rfl) (by kernel_rfl) (fun _ _ _ h => h) ?_ (by assumption) ?_
      rotate_left 2
      · simp only [List.getElem?_toArray, List.getElem?_cons_succ, List.getElem?_cons_zero]; exact rfl
      · refine Or.inl ⟨by rfl, ?_⟩; intro w hSw; (try dsimp only at hSw); go_simp; try with_reducible rfl
      try simp only [Act.put, List.setIfInBounds_toArray, List.set_cons_zero, List.set_cons_succ]
      refine wpAnyH_take (i := 6) (oi := ?_) (v := ?_) ?_ (by kernel_rfl) (by kernel_rfl) (by kernel_rfl) (fun _ _ _ h => h) ?_ (by assumption) ?_
      rotate_left 2
      · simp only [List.getElem?_toArray, List.getElem?_cons_succ, List.getElem?_cons_zero]; exact rfl
      · refine Or.inl ⟨by rfl, ?_⟩; intro w hSw; (try dsimp only at hSw); go_simp; try with_reducible rfl
      try simp only [Act.put, List.setIfInBounds_toArray, List.set_cons_zero, List.set_cons_succ]
      refine wpAnyH_ready (rs := [8]) (by kernel_rfl) (by simp) ?_
      refine AllReadyH.cons (o := ?_) ?_ ?_ AllReadyH.nil
      rotate_left
      · simp only [List.getElem?_toArray, List.getElem?_cons_succ, List.getElem?_cons_zero]; exact rfl
      intro K hK
      have c0 : x6.cell? ⟨b5, 0, none⟩ = some (.int .u64 0) := A19_x6.cell 0
      have f0 : x6.frozen? ⟨b5, 0, none⟩ = false := A19_x6.frozen 0
      have c1 : x6.cell? ⟨b5, 1, none⟩ = some (.int .u64 0) := A19_x6.cell 1
      have f1 : x6.frozen? ⟨b5, 1, none⟩ = false := A19_x6.frozen 1
      have c2 : x6.cell? ⟨b5, 2, none⟩ = some (.int .u64 0) := A19_x6.cell 2
      have f2 : x6.frozen? ⟨b5, 2, none⟩ = false := A19_x6.frozen 2
      have c3 : x6.cell? ⟨b5, 3, none⟩ = some (.int .u64 0) := A19_x6.cell 3
      have f3 : x6.frozen? ⟨b5, 3, none⟩ = false := A19_x6.frozen 3
      go_simp
      have B_x7 : Below W11.heap.size W11 ((((x6.setCell ⟨b5, 0, none⟩ (.int .u64 (wd P 0 : Nat))).setCell ⟨b5, 1, none⟩ (.int .u64 (wd P 1 : Nat))).setCell ⟨b5, 2, none⟩ (.int .u64 (wd P 2 : Nat))).setCell ⟨b5, 3, none⟩ (.int .u64 (wd P 3 : Nat))) := (((B_x6.setCell E19_b5 _).setCell E19_b5 _).setCell E19_b5 _).setCell E19_b5 _
      have A19_x7 : At ((((x6.setCell ⟨b5, 0, none⟩ (.int .u64 (wd P 0 : Nat))).setCell ⟨b5, 1, none⟩ (.int .u64 (wd P 1 : Nat))).setCell ⟨b5, 2, none⟩ (.int .u64 (wd P 2 : Nat))).setCell ⟨b5, 3, none⟩ (.int .u64 (wd P 3 : Nat))) b5 24 #[.int .u64 (wd P 0 : Nat), .int .u64 (wd P 1 : Nat), .int .u64 (wd P 2 : Nat), .int .u64 (wd P 3 : Nat)] := A19_x6.put4 _ _ _ _
      refine hK.out _ _ (HK _ B_x7) (fun hHeld => ?_)
      clear hK K c0 c1 c2 c3 f0 f1 f2 f3 B_x6 A19_x6
      try simp only [Act.put, List.setIfInBounds_toArray, List.set_cons_zero, List.set_cons_succ]
      generalize ((((x6.setCell ⟨b5, 0, none⟩ (.int .u64 (wd P 0 : Nat))).setCell ⟨b5, 1, none⟩ (.int .u64 (wd P 1 : Nat))).setCell ⟨b5, 2, none⟩ (.int .u64 (wd P 2 : Nat))).setCell ⟨b5, 3, none⟩ (.int .u64 (wd P 3 : Nat))) = x7 at *
      refine wpAnyH_take (i := 9) (oi := ?_) (v := ?_) ?_ (by kernel_rfl) (by kernel_rfl) (by kernel_rfl) (fun _ _ _ h => h) ?_ (by assumption) ?_
      rotate_left 2
      · simp only [List.getElem?_toArray, List.getElem?_cons_succ, List.getElem?_cons_zero]; exact rfl
      · refine Or.inl ⟨by rfl, ?_⟩; intro w hSw; (try dsimp only at hSw); go_simp; try with_reducible rfl
      try simp only [Act.put, List.setIfInBounds_toArray, List.set_cons_zero, List.set_cons_succ]
      refine wpAnyH_done (by kernel_rfl) ?_ _
      refine NoPanic.normal ?_
      clear HK hHeld
      go_wp2_with fail
      go_meet
      exact ⟨b5, rfl, rfl, A19_x7, Fa.out.on B_x7, Fb.out.on B_x7, Fll.out.on B_x7, Flh.out.on B_x7, Fhl.out.on B_x7, Fhh.out.on B_x7, Fcr.out.on B_x7, bel_tr BW.out B_x7, E19_b5⟩
    refine AllReadyH.cons (o := ?_) ?_ ?_ AllReadyH.nil
    rotate_left
    · simp only [List.getElem?_toArray, List.getElem?_cons_succ, List.getElem?_cons_zero]; exact rfl
    intro K hK
    go_simp
    refine hK.out _ _ (HK _ (gr_alloc B0 _)) (fun hHeld => ?_)
    clear hK K
    try simp only [Act.put, List.setIfInBounds_toArray, List.set_cons_zero, List.set_cons_succ]
    have A19_x8 : At (x0.alloc (.cells #[.int .u64 0, .int .u64 0, .int .u64 0, .int .u64 0] 24)) x0.heap.size 24 #[.int .u64 0, .int .u64 0, .int .u64 0, .int .u64 0] := At.new _ _ _
    have B_x8 : Below W11.heap.size W11 (x0.alloc (.cells #[.int .u64 0, .int .u64 0, .int .u64 0, .int .u64 0] 24)) := gr_alloc B0 _
    have E19_b8 : W11.heap.size ≤ x0.heap.size := B0.size
    clear B0 
    generalize (x0.alloc (.cells #[.int .u64 0, .int .u64 0, .int .u64 0, .int .u64 0] 24)) = x8 at *
    generalize x0.heap.size = b8 at *
    refine wpAnyH_ready (rs := [2]) (by kernel_rfl) (by simp) ?_
    refine AllReadyH.cons (o := ?_) ?_ ?_ AllReadyH.nil
    rotate_left
    · simp only [List.getElem?_toArray, List.getElem?_cons_succ, List.getElem?_cons_zero]; exact rfl
    intro K hK
    go_simp
    refine (A6.out _).mono ?_
    rintro e x9 ⟨rfl, y⟩
    have B_x9 : Below W11.heap.size W11 x9 := bel_tr B_x8 y
    have A19_x9 := A19_x8.on y
    clear y hHeld B_x8 A19_x8
    refine hK.out _ _ (HK _ B_x9) (fun hHeld => ?_)
    clear hK K
    try simp only [Act.put, List.setIfInBounds_toArray, List.set_cons_zero, List.set_cons_succ]
    refine wpAnyH_ready (rs := [3]) (by kernel_rfl) (by simp) ?_
    refine AllReadyH.cons (o := ?_) ?_ ?_ AllReadyH.nil
    rotate_left
    · simp only [List.getElem?_toArray, List.getElem?_cons_succ, List.getElem?_cons_zero]; exact rfl
    intro K hK
    go_simp
    refine (A7.out _).mono ?_
    rintro e x10 ⟨rfl, y⟩
    have B_x10 : Below W11.heap.size W11 x10 := bel_tr B_x9 y
    have A19_x10 := A19_x9.on y
    clear y hHeld B_x9 A19_x9
    refine hK.out _ _ (HK _ B_x10) (fun hHeld => ?_)
    clear hK K
    try simp only [Act.put, List.setIfInBounds_toArray, List.set_cons_zero, List.set_cons_succ]
    refine wpAnyH_take (i := 4) (oi := ?_) (v := ?_) ?_ (by kernel_rfl) (by kernel_rfl) (by kernel_rfl) (fun _ _ _ h => h) ?_ (by assumption) ?_
    rotate_left 2
    · simp only [List.getElem?_toArray, List.getElem?_cons_succ, List.getElem?_cons_zero]; exact rfl
    · refine Or.inl ⟨by rfl, ?_⟩; intro w hSw; (try dsimp only at hSw); go_simp; try with_reducible rfl
    try simp only [Act.put, List.setIfInBounds_toArray, List.set_cons_zero, List.set_cons_succ]
    refine wpAnyH_take (i := 5) (oi := ?_) (v := ?_) ?_ (by kernel_rfl) (by kernel_rfl) (by kernel_rfl) (fun _ _ _ h => h) ?_ (by assumption) ?_
    rotate_left 2
    · simp only [List.getElem?_toArray, List.getElem?_cons_succ, List.getElem?_cons_zero]; exact rfl
    · refine Or.inl ⟨by rfl, ?_⟩; intro w hSw; (try dsimp only at hSw); go_simp; try with_reducible rfl
    try simp only [Act.put, List.setIfInBounds_toArray, List.set_cons_zero, List.set_cons_succ]
    refine wpAnyH_take (i := 6) (oi := ?_) (v := ?_) ?_ (by kernel_rfl) (by kernel_rfl) (by kernel_rfl) (fun _ _ _ h => h) ?_ (by assumption) ?_
    rotate_left 2
    · simp only [List.getElem?_toArray, List.getElem?_cons_succ, List.getElem?_cons_zero]; exact rfl
    · refine Or.inl ⟨by rfl, ?_⟩; intro w hSw; (try dsimp only at hSw); go_simp; try with_reducible rfl
    try simp only [Act.put, List.setIfInBounds_toArray, List.set_cons_zero, List.set_cons_succ]
    refine wpAnyH_ready (rs := [8]) (by kernel_rfl) (by simp) ?_
    refine AllReadyH.cons (o := ?_) ?_ ?_ AllReadyH.nil
    rotate_left
    · simp only [List.getElem?_toArray, List.getElem?_cons_succ, List.getElem?_cons_zero]; exact rfl
    intro K hK
    have c0 : x10.cell? ⟨b8, 0, none⟩ = some (.int .u64 0) := A19_x10.cell 0
    have f0 : x10.frozen? ⟨b8, 0, none⟩ = false := A19_x10.frozen 0
    have c1 : x10.cell? ⟨b8, 1, none⟩ = some (.int .u64 0) := A19_x10.cell 1
    have f1 : x10.frozen? ⟨b8, 1, none⟩ = false := A19_x10.frozen 1
    have c2 : x10.cell? ⟨b8, 2, none⟩ = some (.int .u64 0) := A19_x10.cell 2
    have f2 : x10.frozen? ⟨b8, 2, none⟩ = false := A19_x10.frozen 2
    have c3 : x10.cell? ⟨b8, 3, none⟩ = some (.int .u64 0) := A19_x10.cell 3
    have f3 : x10.frozen? ⟨b8, 3, none⟩ = false := A19_x10.frozen 3
    go_simp
    have B_x11 : Below W11.heap.size W11 ((((x10.setCell ⟨b8, 0, none⟩ (.int .u64 (wd P 0 : Nat))).setCell ⟨b8, 1, none⟩ (.int .u64 (wd P 1 : Nat))).setCell ⟨b8, 2, none⟩ (.int .u64 (wd P 2 : Nat))).setCell ⟨b8, 3, none⟩ (.int .u64 (wd P 3 : Nat))) := (((B_x10.setCell E19_b8 _).setCell E19_b8 _).setCell E19_b8 _).setCell E19_b8 _
    have A19_x11 : At ((((x10.setCell ⟨b8, 0, none⟩ (.int .u64 (wd P 0 : Nat))).setCell ⟨b8, 1, none⟩ (.int .u64 (wd P 1 : Nat))).setCell ⟨b8, 2, none⟩ (.int .u64 (wd P 2 : Nat))).setCell ⟨b8, 3, none⟩ (.int .u64 (wd P 3 : Nat))) b8 24 #[.int .u64 (wd P 0 : Nat), .int .u64 (wd P 1 : Nat), .int .u64 (wd P 2 : Nat), .int .u64 (wd P 3 : Nat)] := A19_x10.put4 _ _ _ _
    refine hK.out _ _ (HK _ B_x11) (fun hHeld => ?_)
    clear hK K c0 c1 c2 c3 f0 f1 f2 f3 B_x10 A19_x10
    try simp only [Act.put, List.setIfInBounds_toArray, List.set_cons_zero, List.set_cons_succ]
    generalize ((((x10.setCell ⟨b8, 0, none⟩ (.int .u64 (wd P 0 : Nat))).setCell ⟨b8, 1, none⟩ (.int .u64 (wd P 1 : Nat))).setCell ⟨b8, 2, none⟩ (.int .u64 (wd P 2 : Nat))).setCell ⟨b8, 3, none⟩ (.int .u64 (wd P 3 : Nat))) = x11 at *
    refine wpAnyH_take (i := 9) (oi := ?_) (v := ?_) ?_ (by kernel_rfl) (by kernel_rfl) (by kernel_rfl) (fun _ _ _ h => h) ?_ (by assumption) ?_
    rotate_left 2
    · simp only [List.getElem?_toArray, List.getElem?_cons_succ, List.getElem?_cons_zero]; exact rfl
    · refine Or.inl ⟨by rfl, ?_⟩; intro w hSw; (try dsimp only at hSw); go_simp; try with_reducible rfl
    try simp only [Act.put, List.setIfInBounds_toArray, List.set_cons_zero, List.set_cons_succ]
    refine wpAnyH_done (by kernel_rfl) ?_ _
    refine NoPanic.normal ?_
    clear HK hHeld
    go_wp2_with fail
    go_meet
    exact ⟨b8, rfl, rfl, A19_x11, Fa.out.on B_x11, Fb.out.on B_x11, Fll.out.on B_x11, Flh.out.on B_x11, Fhl.out.on B_x11, Fhh.out.on B_x11, Fcr.out.on B_x11, bel_tr BW.out B_x11, E19_b8⟩
  case rest => as_aux_lemma =>
  clear HK
  obtain ⟨glo, rfl, rfl, Nlo, Na, Nb, Nll, Nlh, Nhl, Nhh, Ncr, NB, Elo⟩ := hcut
  clear BW Fa Fb Fll Flh Fhl Fhh Fcr Elo
  have Fa := Na
  have Fb := Nb
  have Fll := Nll
  have Flh := Nlh
  have Fhl := Nhl
  have Fhh := Nhh
  have Fcr := Ncr
  have Flo := Nlo
  have BW := NB
  clear NB Na Nb Nll Nlh Nhl Nhh Ncr Nlo
  go_wp2_with fail
  have HK : ∀ w', Below wc.heap.size wc w' → (w'.cell? ⟨ghh, 0, none⟩ = some (.int .u64 (wd hh 0 : Nat)) ∧ w'.cell? ⟨ghh, 1, none⟩ = some (.int .u64 (wd hh 1 : Nat)) ∧ w'.cell? ⟨ghh, 2, none⟩ = some (.int .u64 (wd hh 2 : Nat)) ∧ w'.cell? ⟨ghh, 3, none⟩ = some (.int .u64 (wd hh 3 : Nat)) ∧ w'.cell? ⟨gcr, 0, none⟩ = some (.int .u64 (wd cr 0 : Nat)) ∧ w'.cell? ⟨gcr, 1, none⟩ = some (.int .u64 (wd cr 1 : Nat)) ∧ w'.cell? ⟨gcr, 2, none⟩ = some (.int .u64 (wd cr 2 : Nat)) ∧ w'.cell? ⟨gcr, 3, none⟩ = some (.int .u64 (wd cr 3 : Nat)) ∧ Below wc.heap.size wc w') := fun w' h => ⟨cell_on h (Fhh.out.cell 0), cell_on h (Fhh.out.cell 1), cell_on h (Fhh.out.cell 2), cell_on h (Fhh.out.cell 3), cell_on h (Fcr.out.cell 0), cell_on h (Fcr.out.cell 1), cell_on h (Fcr.out.cell 2), cell_on h (Fcr.out.cell 3), h⟩
  go_cut [21, 22] (fun s21 s22 wx => ∃ ghi, s21 = .pointer (some ⟨ghi, 0, none⟩) ∧ s22 = .int .u64 (0 : Nat) ∧ Hid (At wx ghi 24 #[.int .u64 (wd hi 0 : Nat), .int .u64 (wd hi 1 : Nat), .int .u64 (wd hi 2 : Nat), .int .u64 (wd hi 3 : Nat)]) ∧ Hid (At wx ga 24 #[.int .u64 (wd X 0 : Nat), .int .u64 (wd X 1 : Nat), .int .u64 (wd X 2 : Nat), .int .u64 (wd X 3 : Nat)]) ∧ Hid (At wx gb 24 #[.int .u64 (wd Y 0 : Nat), .int .u64 (wd Y 1 : Nat), .int .u64 (wd Y 2 : Nat), .int .u64 (wd Y 3 : Nat)]) ∧ Hid (At wx gll 24 #[.int .u64 (wd ll 0 : Nat), .int .u64 (wd ll 1 : Nat), .int .u64 (wd ll 2 : Nat), .int .u64 (wd ll 3 : Nat)]) ∧ Hid (At wx glh 24 #[.int .u64 (wd lh 0 : Nat), .int .u64 (wd lh 1 : Nat), .int .u64 (wd lh 2 : Nat), .int .u64 (wd lh 3 : Nat)]) ∧ Hid (At wx ghl 24 #[.int .u64 (wd hl 0 : Nat), .int .u64 (wd hl 1 : Nat), .int .u64 (wd hl 2 : Nat), .int .u64 (wd hl 3 : Nat)]) ∧ Hid (At wx ghh 24 #[.int .u64 (wd hh 0 : Nat), .int .u64 (wd hh 1 : Nat), .int .u64 (wd hh 2 : Nat), .int .u64 (wd hh 3 : Nat)]) ∧ Hid (At wx gcr 24 #[.int .u64 (wd cr 0 : Nat), .int .u64 (wd cr 1 : Nat), .int .u64 (wd cr 2 : Nat), .int .u64 (wd cr 3 : Nat)]) ∧ Hid (At wx glo 24 #[.int .u64 (wd P 0 : Nat), .int .u64 (wd P 1 : Nat), .int .u64 (wd P 2 : Nat), .int .u64 (wd P 3 : Nat)]) ∧ Hid (Below w.heap.size w wx) ∧ Hid (wc.heap.size ≤ ghi))
  case first => as_aux_lemma =>
    try simp only [List.append_eq, List.cons_append, List.nil_append]
    have B0 : Below wc.heap.size wc wc.drew := (Below.refl _ _).drew
    refine wp_region_noPanic ?_
    refine wp_region_held_drew (S := fun w' => w'.cell? ⟨ghh, 0, none⟩ = some (.int .u64 (wd hh 0 : Nat)) ∧ w'.cell? ⟨ghh, 1, none⟩ = some (.int .u64 (wd hh 1 : Nat)) ∧ w'.cell? ⟨ghh, 2, none⟩ = some (.int .u64 (wd hh 2 : Nat)) ∧ w'.cell? ⟨ghh, 3, none⟩ = some (.int .u64 (wd hh 3 : Nat)) ∧ w'.cell? ⟨gcr, 0, none⟩ = some (.int .u64 (wd cr 0 : Nat)) ∧ w'.cell? ⟨gcr, 1, none⟩ = some (.int .u64 (wd cr 1 : Nat)) ∧ w'.cell? ⟨gcr, 2, none⟩ = some (.int .u64 (wd cr 2 : Nat)) ∧ w'.cell? ⟨gcr, 3, none⟩ = some (.int .u64 (wd cr 3 : Nat)) ∧ Below wc.heap.size wc w') (by kernel_rfl) (HK _ B0) (fun hHeld => ?_)
    generalize wc.drew = x0 at *
    refine wpAnyH_take (i := 0) (oi := ?_) (v := ?_) ?_ (by kernel_rfl) (by kernel_rfl) (by kernel_rfl) (fun _ _ _ h => h) ?_ (by assumption) ?_
    rotate_left 2
    · simp only [List.getElem?_toArray, List.getElem?_cons_succ, List.getElem?_cons_zero]; exact rfl
    · refine Or.inl ⟨by rfl, ?_⟩; intro w hSw; (try dsimp only at hSw); go_simp; try with_reducible rfl
    try simp only [Act.put, List.setIfInBounds_toArray, List.set_cons_zero, List.set_cons_succ]
    refine wpAnyH_take (i := 1) (oi := ?_) (v := ?_) ?_ (by kernel_rfl) (by kernel_rfl) (by kernel_rfl) (fun _ _ _ h => h) ?_ (by assumption) ?_
    rotate_left 2
    · simp only [List.getElem?_toArray, List.getElem?_cons_succ, List.getElem?_cons_zero]; exact rfl
    · refine Or.inl ⟨by rfl, ?_⟩; intro w hSw; (try dsimp only at hSw); go_simp; try with_reducible rfl
    try simp only [Act.put, List.setIfInBounds_toArray, List.set_cons_zero, List.set_cons_succ]
    refine wpAnyH_ready (rs := [2, 7]) (by kernel_rfl) (by simp) ?_
    refine AllReadyH.cons (o := ?_) ?_ ?_ ?_
    rotate_left 1
    · simp only [List.getElem?_toArray, List.getElem?_cons_succ, List.getElem?_cons_zero]; exact rfl
    · intro K hK
      go_simp
      refine (A8.out _).mono ?_
      rintro e x1 ⟨rfl, y⟩
      have B_x1 : Below wc.heap.size wc x1 := bel_tr B0 y
      clear y hHeld B0 
      refine hK.out _ _ (HK _ B_x1) (fun hHeld => ?_)
      clear hK K
      try simp only [Act.put, List.setIfInBounds_toArray, List.set_cons_zero, List.set_cons_succ]
      refine wpAnyH_ready (rs := [3, 7]) (by kernel_rfl) (by simp) ?_
      refine AllReadyH.cons (o := ?_) ?_ ?_ ?_
      rotate_left 1
      · simp only [List.getElem?_toArray, List.getElem?_cons_succ, List.getElem?_cons_zero]; exact rfl
      · intro K hK
        go_simp
        refine (A9.out _).mono ?_
        rintro e x2 ⟨rfl, y⟩
        have B_x2 : Below wc.heap.size wc x2 := bel_tr B_x1 y
        clear y hHeld B_x1 
        refine hK.out _ _ (HK _ B_x2) (fun hHeld => ?_)
        clear hK K
        try simp only [Act.put, List.setIfInBounds_toArray, List.set_cons_zero, List.set_cons_succ]
        refine wpAnyH_take (i := 4) (oi := ?_) (v := ?_) ?_ (by kernel_rfl) (by kernel_rfl) (by kernel_rfl) (fun _ _ _ h => h) ?_ (by assumption) ?_
        rotate_left 2
        · simp only [List.getElem?_toArray, List.getElem?_cons_succ, List.getElem?_cons_zero]; exact rfl
        · refine Or.inl ⟨by rfl, ?_⟩; intro w hSw; (try dsimp only at hSw); go_simp; try with_reducible rfl
        try simp only [Act.put, List.setIfInBounds_toArray, List.set_cons_zero, List.set_cons_succ]
        refine wpAnyH_take (i := 5) (oi := ?_) (v := ?_) ?_ (by kernel_rfl) (by kernel_rfl) (by kernel_rfl) (fun _ _ _ h => h) ?_ (by assumption) ?_
        rotate_left 2
        · simp only [List.getElem?_toArray, List.getElem?_cons_succ, List.getElem?_cons_zero]; exact rfl
        · refine Or.inl ⟨by rfl, ?_⟩; intro w hSw; (try dsimp only at hSw); go_simp; try with_reducible rfl
        try simp only [Act.put, List.setIfInBounds_toArray, List.set_cons_zero, List.set_cons_succ]
        refine wpAnyH_take (i := 6) (oi := ?_) (v := ?_) ?_ (by kernel_rfl) (by kernel_rfl) (by kernel_rfl) (fun _ _ _ h => h) ?_ (by assumption) ?_
        rotate_left 2
        · simp only [List.getElem?_toArray, List.getElem?_cons_succ, List.getElem?_cons_zero]; exact rfl
        · refine Or.inl ⟨by rfl, ?_⟩; intro w hSw; (try dsimp only at hSw); go_simp; try with_reducible rfl
        try simp only [Act.put, List.setIfInBounds_toArray, List.set_cons_zero, List.set_cons_succ]
        refine wpAnyH_ready (rs := [7]) (by kernel_rfl) (by simp) ?_
        refine AllReadyH.cons (o := ?_) ?_ ?_ AllReadyH.nil
        rotate_left
        · simp only [List.getElem?_toArray, List.getElem?_cons_succ, List.getElem?_cons_zero]; exact rfl
        intro K hK
        go_simp
        refine hK.out _ _ (HK _ (gr_alloc B_x2 _)) (fun hHeld => ?_)
        clear hK K
        try simp only [Act.put, List.setIfInBounds_toArray, List.set_cons_zero, List.set_cons_succ]
        have A21_x3 : At (x2.alloc (.cells #[.int .u64 0, .int .u64 0, .int .u64 0, .int .u64 0] 24)) x2.heap.size 24 #[.int .u64 0, .int .u64 0, .int .u64 0, .int .u64 0] := At.new _ _ _
        have B_x3 : Below wc.heap.size wc (x2.alloc (.cells #[.int .u64 0, .int .u64 0, .int .u64 0, .int .u64 0] 24)) := gr_alloc B_x2 _
        have E21_b3 : wc.heap.size ≤ x2.heap.size := B_x2.size
        clear B_x2 
        generalize (x2.alloc (.cells #[.int .u64 0, .int .u64 0, .int .u64 0, .int .u64 0] 24)) = x3 at *
        generalize x2.heap.size = b3 at *
        refine wpAnyH_ready (rs := [8]) (by kernel_rfl) (by simp) ?_
        refine AllReadyH.cons (o := ?_) ?_ ?_ AllReadyH.nil
        rotate_left
        · simp only [List.getElem?_toArray, List.getElem?_cons_succ, List.getElem?_cons_zero]; exact rfl
        intro K hK
        have c0 : x3.cell? ⟨b3, 0, none⟩ = some (.int .u64 0) := A21_x3.cell 0
        have f0 : x3.frozen? ⟨b3, 0, none⟩ = false := A21_x3.frozen 0
        have c1 : x3.cell? ⟨b3, 1, none⟩ = some (.int .u64 0) := A21_x3.cell 1
        have f1 : x3.frozen? ⟨b3, 1, none⟩ = false := A21_x3.frozen 1
        have c2 : x3.cell? ⟨b3, 2, none⟩ = some (.int .u64 0) := A21_x3.cell 2
        have f2 : x3.frozen? ⟨b3, 2, none⟩ = false := A21_x3.frozen 2
        have c3 : x3.cell? ⟨b3, 3, none⟩ = some (.int .u64 0) := A21_x3.cell 3
        have f3 : x3.frozen? ⟨b3, 3, none⟩ = false := A21_x3.frozen 3
        go_simp
        have B_x4 : Below wc.heap.size wc ((((x3.setCell ⟨b3, 0, none⟩ (.int .u64 (wd hi 0 : Nat))).setCell ⟨b3, 1, none⟩ (.int .u64 (wd hi 1 : Nat))).setCell ⟨b3, 2, none⟩ (.int .u64 (wd hi 2 : Nat))).setCell ⟨b3, 3, none⟩ (.int .u64 (wd hi 3 : Nat))) := (((B_x3.setCell E21_b3 _).setCell E21_b3 _).setCell E21_b3 _).setCell E21_b3 _
        have A21_x4 : At ((((x3.setCell ⟨b3, 0, none⟩ (.int .u64 (wd hi 0 : Nat))).setCell ⟨b3, 1, none⟩ (.int .u64 (wd hi 1 : Nat))).setCell ⟨b3, 2, none⟩ (.int .u64 (wd hi 2 : Nat))).setCell ⟨b3, 3, none⟩ (.int .u64 (wd hi 3 : Nat))) b3 24 #[.int .u64 (wd hi 0 : Nat), .int .u64 (wd hi 1 : Nat), .int .u64 (wd hi 2 : Nat), .int .u64 (wd hi 3 : Nat)] := A21_x3.put4 _ _ _ _
        refine hK.out _ _ (HK _ B_x4) (fun hHeld => ?_)
        clear hK K c0 c1 c2 c3 f0 f1 f2 f3 B_x3 A21_x3
        try simp only [Act.put, List.setIfInBounds_toArray, List.set_cons_zero, List.set_cons_succ]
        generalize ((((x3.setCell ⟨b3, 0, none⟩ (.int .u64 (wd hi 0 : Nat))).setCell ⟨b3, 1, none⟩ (.int .u64 (wd hi 1 : Nat))).setCell ⟨b3, 2, none⟩ (.int .u64 (wd hi 2 : Nat))).setCell ⟨b3, 3, none⟩ (.int .u64 (wd hi 3 : Nat))) = x4 at *
        refine wpAnyH_take (i := 9) (oi := ?_) (v := ?_) ?_ (by kernel_rfl) (by kernel_rfl) (by kernel_rfl) (fun _ _ _ h => h) ?_ (by assumption) ?_
        rotate_left 2
        · simp only [List.getElem?_toArray, List.getElem?_cons_succ, List.getElem?_cons_zero]; exact rfl
        · refine Or.inl ⟨by rfl, ?_⟩; intro w hSw; (try dsimp only at hSw); go_simp; try with_reducible rfl
        try simp only [Act.put, List.setIfInBounds_toArray, List.set_cons_zero, List.set_cons_succ]
        refine wpAnyH_done (by kernel_rfl) ?_ _
        refine NoPanic.normal ?_
        clear HK hHeld
        go_wp2_with fail
        go_meet
        exact ⟨b3, rfl, rfl, A21_x4, Fa.out.on B_x4, Fb.out.on B_x4, Fll.out.on B_x4, Flh.out.on B_x4, Fhl.out.on B_x4, Fhh.out.on B_x4, Fcr.out.on B_x4, Flo.out.on B_x4, bel_tr BW.out B_x4, E21_b3⟩
      refine AllReadyH.cons (o := ?_) ?_ ?_ AllReadyH.nil
      rotate_left
      · simp only [List.getElem?_toArray, List.getElem?_cons_succ, List.getElem?_cons_zero]; exact rfl
      intro K hK
      go_simp
      refine hK.out _ _ (HK _ (gr_alloc B_x1 _)) (fun hHeld => ?_)
      clear hK K
      try simp only [Act.put, List.setIfInBounds_toArray, List.set_cons_zero, List.set_cons_succ]
      have A21_x5 : At (x1.alloc (.cells #[.int .u64 0, .int .u64 0, .int .u64 0, .int .u64 0] 24)) x1.heap.size 24 #[.int .u64 0, .int .u64 0, .int .u64 0, .int .u64 0] := At.new _ _ _
      have B_x5 : Below wc.heap.size wc (x1.alloc (.cells #[.int .u64 0, .int .u64 0, .int .u64 0, .int .u64 0] 24)) := gr_alloc B_x1 _
      have E21_b5 : wc.heap.size ≤ x1.heap.size := B_x1.size
      clear B_x1 
      generalize (x1.alloc (.cells #[.int .u64 0, .int .u64 0, .int .u64 0, .int .u64 0] 24)) = x5 at *
      generalize x1.heap.size = b5 at *
      refine wpAnyH_ready (rs := [3]) (by kernel_rfl) (by simp) ?_
      refine AllReadyH.cons (o := ?_) ?_ ?_ AllReadyH.nil
      rotate_left
      · simp only [List.getElem?_toArray, List.getElem?_cons_succ, List.getElem?_cons_zero]; exact rfl
      intro K hK
      go_simp
      refine (A9.out _).mono ?_
      rintro e x6 ⟨rfl, y⟩
      have B_x6 : Below wc.heap.size wc x6 := bel_tr B_x5 y
      have A21_x6 := A21_x5.on y
      clear y hHeld B_x5 A21_x5
      refine hK.out _ _ (HK _ B_x6) (fun hHeld => ?_)
      clear hK K
      try simp only [Act.put, List.setIfInBounds_toArray, List.set_cons_zero, List.set_cons_succ]
      refine wpAnyH_take (i := 4) (oi := ?_) (v := ?_) ?_ (by kernel_rfl) (by kernel_rfl) (by kernel_rfl) (fun _ _ _ h => h) ?_ (by assumption) ?_
      rotate_left 2
      · simp only [List.getElem?_toArray, List.getElem?_cons_succ, List.getElem?_cons_zero]; exact rfl
      · refine Or.inl ⟨by rfl, ?_⟩; intro w hSw; (try dsimp only at hSw); go_simp; try with_reducible rfl
      try simp only [Act.put, List.setIfInBounds_toArray, List.set_cons_zero, List.set_cons_succ]
      refine wpAnyH_take (i := 5) (oi := ?_) (v := ?_) ?_ (by kernel_rfl) (by kernel_rfl) (by kernel_rfl) (fun _ _ _ h => h) ?_ (by assumption) ?_
      rotate_left 2
      · simp only [List.getElem?_toArray, List.getElem?_cons_succ, List.getElem?_cons_zero]; exact rfl
      · refine Or.inl ⟨by rfl, ?_⟩; intro w hSw; (try dsimp only at hSw); go_simp; try with_reducible rfl
      try simp only [Act.put, List.setIfInBounds_toArray, List.set_cons_zero, List.set_cons_succ]
      refine wpAnyH_take (i := 6) (oi := ?_) (v := ?_) ?_ (by kernel_rfl) (by kernel_rfl) (by kernel_rfl) (fun _ _ _ h => h) ?_ (by assumption) ?_
      rotate_left 2
      · simp only [List.getElem?_toArray, List.getElem?_cons_succ, List.getElem?_cons_zero]; exact rfl
      · refine Or.inl ⟨by rfl, ?_⟩; intro w hSw; (try dsimp only at hSw); go_simp; try with_reducible rfl
      try simp only [Act.put, List.setIfInBounds_toArray, List.set_cons_zero, List.set_cons_succ]
      refine wpAnyH_ready (rs := [8]) (by kernel_rfl) (by simp) ?_
      refine AllReadyH.cons (o := ?_) ?_ ?_ AllReadyH.nil
      rotate_left
      · simp only [List.getElem?_toArray, List.getElem?_cons_succ, List.getElem?_cons_zero]; exact rfl
      intro K hK
      have c0 : x6.cell? ⟨b5, 0, none⟩ = some (.int .u64 0) := A21_x6.cell 0
      have f0 : x6.frozen? ⟨b5, 0, none⟩ = false := A21_x6.frozen 0
      have c1 : x6.cell? ⟨b5, 1, none⟩ = some (.int .u64 0) := A21_x6.cell 1
      have f1 : x6.frozen? ⟨b5, 1, none⟩ = false := A21_x6.frozen 1
      have c2 : x6.cell? ⟨b5, 2, none⟩ = some (.int .u64 0) := A21_x6.cell 2
      have f2 : x6.frozen? ⟨b5, 2, none⟩ = false := A21_x6.frozen 2
      have c3 : x6.cell? ⟨b5, 3, none⟩ = some (.int .u64 0) := A21_x6.cell 3
      have f3 : x6.frozen? ⟨b5, 3, none⟩ = false := A21_x6.frozen 3
      go_simp
      have B_x7 : Below wc.heap.size wc ((((x6.setCell ⟨b5, 0, none⟩ (.int .u64 (wd hi 0 : Nat))).setCell ⟨b5, 1, none⟩ (.int .u64 (wd hi 1 : Nat))).setCell ⟨b5, 2, none⟩ (.int .u64 (wd hi 2 : Nat))).setCell ⟨b5, 3, none⟩ (.int .u64 (wd hi 3 : Nat))) := (((B_x6.setCell E21_b5 _).setCell E21_b5 _).setCell E21_b5 _).setCell E21_b5 _
      have A21_x7 : At ((((x6.setCell ⟨b5, 0, none⟩ (.int .u64 (wd hi 0 : Nat))).setCell ⟨b5, 1, none⟩ (.int .u64 (wd hi 1 : Nat))).setCell ⟨b5, 2, none⟩ (.int .u64 (wd hi 2 : Nat))).setCell ⟨b5, 3, none⟩ (.int .u64 (wd hi 3 : Nat))) b5 24 #[.int .u64 (wd hi 0 : Nat), .int .u64 (wd hi 1 : Nat), .int .u64 (wd hi 2 : Nat), .int .u64 (wd hi 3 : Nat)] := A21_x6.put4 _ _ _ _
      refine hK.out _ _ (HK _ B_x7) (fun hHeld => ?_)
      clear hK K c0 c1 c2 c3 f0 f1 f2 f3 B_x6 A21_x6
      try simp only [Act.put, List.setIfInBounds_toArray, List.set_cons_zero, List.set_cons_succ]
      generalize ((((x6.setCell ⟨b5, 0, none⟩ (.int .u64 (wd hi 0 : Nat))).setCell ⟨b5, 1, none⟩ (.int .u64 (wd hi 1 : Nat))).setCell ⟨b5, 2, none⟩ (.int .u64 (wd hi 2 : Nat))).setCell ⟨b5, 3, none⟩ (.int .u64 (wd hi 3 : Nat))) = x7 at *
      refine wpAnyH_take (i := 9) (oi := ?_) (v := ?_) ?_ (by kernel_rfl) (by kernel_rfl) (by kernel_rfl) (fun _ _ _ h => h) ?_ (by assumption) ?_
      rotate_left 2
      · simp only [List.getElem?_toArray, List.getElem?_cons_succ, List.getElem?_cons_zero]; exact rfl
      · refine Or.inl ⟨by rfl, ?_⟩; intro w hSw; (try dsimp only at hSw); go_simp; try with_reducible rfl
      try simp only [Act.put, List.setIfInBounds_toArray, List.set_cons_zero, List.set_cons_succ]
      refine wpAnyH_done (by kernel_rfl) ?_ _
      refine NoPanic.normal ?_
      clear HK hHeld
      go_wp2_with fail
      go_meet
      exact ⟨b5, rfl, rfl, A21_x7, Fa.out.on B_x7, Fb.out.on B_x7, Fll.out.on B_x7, Flh.out.on B_x7, Fhl.out.on B_x7, Fhh.out.on B_x7, Fcr.out.on B_x7, Flo.out.on B_x7, bel_tr BW.out B_x7, E21_b5⟩
    refine AllReadyH.cons (o := ?_) ?_ ?_ AllReadyH.nil
    rotate_left
    · simp only [List.getElem?_toArray, List.getElem?_cons_succ, List.getElem?_cons_zero]; exact rfl
    intro K hK
    go_simp
    refine hK.out _ _ (HK _ (gr_alloc B0 _)) (fun hHeld => ?_)
    clear hK K
    try simp only [Act.put, List.setIfInBounds_toArray, List.set_cons_zero, List.set_cons_succ]
    have A21_x8 : At (x0.alloc (.cells #[.int .u64 0, .int .u64 0, .int .u64 0, .int .u64 0] 24)) x0.heap.size 24 #[.int .u64 0, .int .u64 0, .int .u64 0, .int .u64 0] := At.new _ _ _
    have B_x8 : Below wc.heap.size wc (x0.alloc (.cells #[.int .u64 0, .int .u64 0, .int .u64 0, .int .u64 0] 24)) := gr_alloc B0 _
    have E21_b8 : wc.heap.size ≤ x0.heap.size := B0.size
    clear B0 
    generalize (x0.alloc (.cells #[.int .u64 0, .int .u64 0, .int .u64 0, .int .u64 0] 24)) = x8 at *
    generalize x0.heap.size = b8 at *
    refine wpAnyH_ready (rs := [2]) (by kernel_rfl) (by simp) ?_
    refine AllReadyH.cons (o := ?_) ?_ ?_ AllReadyH.nil
    rotate_left
    · simp only [List.getElem?_toArray, List.getElem?_cons_succ, List.getElem?_cons_zero]; exact rfl
    intro K hK
    go_simp
    refine (A8.out _).mono ?_
    rintro e x9 ⟨rfl, y⟩
    have B_x9 : Below wc.heap.size wc x9 := bel_tr B_x8 y
    have A21_x9 := A21_x8.on y
    clear y hHeld B_x8 A21_x8
    refine hK.out _ _ (HK _ B_x9) (fun hHeld => ?_)
    clear hK K
    try simp only [Act.put, List.setIfInBounds_toArray, List.set_cons_zero, List.set_cons_succ]
    refine wpAnyH_ready (rs := [3]) (by kernel_rfl) (by simp) ?_
    refine AllReadyH.cons (o := ?_) ?_ ?_ AllReadyH.nil
    rotate_left
    · simp only [List.getElem?_toArray, List.getElem?_cons_succ, List.getElem?_cons_zero]; exact rfl
    intro K hK
    go_simp
    refine (A9.out _).mono ?_
    rintro e x10 ⟨rfl, y⟩
    have B_x10 : Below wc.heap.size wc x10 := bel_tr B_x9 y
    have A21_x10 := A21_x9.on y
    clear y hHeld B_x9 A21_x9
    refine hK.out _ _ (HK _ B_x10) (fun hHeld => ?_)
    clear hK K
    try simp only [Act.put, List.setIfInBounds_toArray, List.set_cons_zero, List.set_cons_succ]
    refine wpAnyH_take (i := 4) (oi := ?_) (v := ?_) ?_ (by kernel_rfl) (by kernel_rfl) (by kernel_rfl) (fun _ _ _ h => h) ?_ (by assumption) ?_
    rotate_left 2
    · simp only [List.getElem?_toArray, List.getElem?_cons_succ, List.getElem?_cons_zero]; exact rfl
    · refine Or.inl ⟨by rfl, ?_⟩; intro w hSw; (try dsimp only at hSw); go_simp; try with_reducible rfl
    try simp only [Act.put, List.setIfInBounds_toArray, List.set_cons_zero, List.set_cons_succ]
    refine wpAnyH_take (i := 5) (oi := ?_) (v := ?_) ?_ (by kernel_rfl) (by kernel_rfl) (by kernel_rfl) (fun _ _ _ h => h) ?_ (by assumption) ?_
    rotate_left 2
    · simp only [List.getElem?_toArray, List.getElem?_cons_succ, List.getElem?_cons_zero]; exact rfl
    · refine Or.inl ⟨by rfl, ?_⟩; intro w hSw; (try dsimp only at hSw); go_simp; try with_reducible rfl
    try simp only [Act.put, List.setIfInBounds_toArray, List.set_cons_zero, List.set_cons_succ]
    refine wpAnyH_take (i := 6) (oi := ?_) (v := ?_) ?_ (by kernel_rfl) (by kernel_rfl) (by kernel_rfl) (fun _ _ _ h => h) ?_ (by assumption) ?_
    rotate_left 2
    · simp only [List.getElem?_toArray, List.getElem?_cons_succ, List.getElem?_cons_zero]; exact rfl
    · refine Or.inl ⟨by rfl, ?_⟩; intro w hSw; (try dsimp only at hSw); go_simp; try with_reducible rfl
    try simp only [Act.put, List.setIfInBounds_toArray, List.set_cons_zero, List.set_cons_succ]
    refine wpAnyH_ready (rs := [8]) (by kernel_rfl) (by simp) ?_
    refine AllReadyH.cons (o := ?_) ?_ ?_ AllReadyH.nil
    rotate_left
    · simp only [List.getElem?_toArray, List.getElem?_cons_succ, List.getElem?_cons_zero]; exact rfl
    intro K hK
    have c0 : x10.cell? ⟨b8, 0, none⟩ = some (.int .u64 0) := A21_x10.cell 0
    have f0 : x10.frozen? ⟨b8, 0, none⟩ = false := A21_x10.frozen 0
    have c1 : x10.cell? ⟨b8, 1, none⟩ = some (.int .u64 0) := A21_x10.cell 1
    have f1 : x10.frozen? ⟨b8, 1, none⟩ = false := A21_x10.frozen 1
    have c2 : x10.cell? ⟨b8, 2, none⟩ = some (.int .u64 0) := A21_x10.cell 2
    have f2 : x10.frozen? ⟨b8, 2, none⟩ = false := A21_x10.frozen 2
    have c3 : x10.cell? ⟨b8, 3, none⟩ = some (.int .u64 0) := A21_x10.cell 3
    have f3 : x10.frozen? ⟨b8, 3, none⟩ = false := A21_x10.frozen 3
    go_simp
    have B_x11 : Below wc.heap.size wc ((((x10.setCell ⟨b8, 0, none⟩ (.int .u64 (wd hi 0 : Nat))).setCell ⟨b8, 1, none⟩ (.int .u64 (wd hi 1 : Nat))).setCell ⟨b8, 2, none⟩ (.int .u64 (wd hi 2 : Nat))).setCell ⟨b8, 3, none⟩ (.int .u64 (wd hi 3 : Nat))) := (((B_x10.setCell E21_b8 _).setCell E21_b8 _).setCell E21_b8 _).setCell E21_b8 _
    have A21_x11 : At ((((x10.setCell ⟨b8, 0, none⟩ (.int .u64 (wd hi 0 : Nat))).setCell ⟨b8, 1, none⟩ (.int .u64 (wd hi 1 : Nat))).setCell ⟨b8, 2, none⟩ (.int .u64 (wd hi 2 : Nat))).setCell ⟨b8, 3, none⟩ (.int .u64 (wd hi 3 : Nat))) b8 24 #[.int .u64 (wd hi 0 : Nat), .int .u64 (wd hi 1 : Nat), .int .u64 (wd hi 2 : Nat), .int .u64 (wd hi 3 : Nat)] := A21_x10.put4 _ _ _ _
    refine hK.out _ _ (HK _ B_x11) (fun hHeld => ?_)
    clear hK K c0 c1 c2 c3 f0 f1 f2 f3 B_x10 A21_x10
    try simp only [Act.put, List.setIfInBounds_toArray, List.set_cons_zero, List.set_cons_succ]
    generalize ((((x10.setCell ⟨b8, 0, none⟩ (.int .u64 (wd hi 0 : Nat))).setCell ⟨b8, 1, none⟩ (.int .u64 (wd hi 1 : Nat))).setCell ⟨b8, 2, none⟩ (.int .u64 (wd hi 2 : Nat))).setCell ⟨b8, 3, none⟩ (.int .u64 (wd hi 3 : Nat))) = x11 at *
    refine wpAnyH_take (i := 9) (oi := ?_) (v := ?_) ?_ (by kernel_rfl) (by kernel_rfl) (by kernel_rfl) (fun _ _ _ h => h) ?_ (by assumption) ?_
    rotate_left 2
    · simp only [List.getElem?_toArray, List.getElem?_cons_succ, List.getElem?_cons_zero]; exact rfl
    · refine Or.inl ⟨by rfl, ?_⟩; intro w hSw; (try dsimp only at hSw); go_simp; try with_reducible rfl
    try simp only [Act.put, List.setIfInBounds_toArray, List.set_cons_zero, List.set_cons_succ]
    refine wpAnyH_done (by kernel_rfl) ?_ _
    refine NoPanic.normal ?_
    clear HK hHeld
    go_wp2_with fail
    go_meet
    exact ⟨b8, rfl, rfl, A21_x11, Fa.out.on B_x11, Fb.out.on B_x11, Fll.out.on B_x11, Flh.out.on B_x11, Fhl.out.on B_x11, Fhh.out.on B_x11, Fcr.out.on B_x11, Flo.out.on B_x11, bel_tr BW.out B_x11, E21_b8⟩
  case rest => as_aux_lemma =>
  clear HK
  obtain ⟨ghi, rfl, rfl, Nhi, Na, Nb, Nll, Nlh, Nhl, Nhh, Ncr, Nlo, NB, Ehi⟩ := hcut
  have Dahi : ga ≠ ghi := by have := Fa.out.lt; have := Ehi.out; omega
  have Dbhi : gb ≠ ghi := by have := Fb.out.lt; have := Ehi.out; omega
  have Dllhi : gll ≠ ghi := by have := Fll.out.lt; have := Ehi.out; omega
  have Dlhhi : glh ≠ ghi := by have := Flh.out.lt; have := Ehi.out; omega
  have Dhlhi : ghl ≠ ghi := by have := Fhl.out.lt; have := Ehi.out; omega
  have Dhhhi : ghh ≠ ghi := by have := Fhh.out.lt; have := Ehi.out; omega
  have Dcrhi : gcr ≠ ghi := by have := Fcr.out.lt; have := Ehi.out; omega
  have Dlohi : glo ≠ ghi := by have := Flo.out.lt; have := Ehi.out; omega
  have EEhi : w.heap.size ≤ ghi := Nat.le_trans BW.out.size Ehi.out
  clear BW Fa Fb Fll Flh Fhl Fhh Fcr Flo Ehi
  have Ehi := EEhi
  have Fa := Na
  have Fb := Nb
  have Fll := Nll
  have Flh := Nlh
  have Fhl := Nhl
  have Fhh := Nhh
  have Fcr := Ncr
  have Flo := Nlo
  have Fhi := Nhi
  have BW := NB
  clear NB Na Nb Nll Nlh Nhl Nhh Ncr Nlo Nhi
  have Lhi := Fhi.out.lt
  have chi0 : wc.cell? ⟨ghi, 0, none⟩ = some (.int .u64 (wd hi 0 : Nat)) := Fhi.out.cell 0
  have chi1 : wc.cell? ⟨ghi, 1, none⟩ = some (.int .u64 (wd hi 1 : Nat)) := Fhi.out.cell 1
  have chi2 : wc.cell? ⟨ghi, 2, none⟩ = some (.int .u64 (wd hi 2 : Nat)) := Fhi.out.cell 2
  have chi3 : wc.cell? ⟨ghi, 3, none⟩ = some (.int .u64 (wd hi 3 : Nat)) := Fhi.out.cell 3
  go_wp2_with fail
  clear Lhi chi0 chi1 chi2 chi3
  clear Fll
  clear Flh
  clear Fhl
  clear Fhh
  clear Fcr
  refine (A10.out _).mono ?_
  rintro e v14 ⟨rfl, z14⟩
  have Na := Lib.hid (Fa.out.on z14)
  have Nb := Lib.hid (Fb.out.on z14)
  have Nlo := Lib.hid (Flo.out.on z14)
  have Nhi := Lib.hid (Fhi.out.on z14)
  have NB := Lib.hid (bel_tr BW.out z14)
  clear BW z14 Fa Fb Flo Fhi
  have Fa := Na
  have Fb := Nb
  have Flo := Nlo
  have Fhi := Nhi
  have BW := NB
  clear NB Na Nb Nlo Nhi
  have Lhi := Fhi.out.lt
  have chi0 : v14.cell? ⟨ghi, 0, none⟩ = some (.int .u64 (wd hi 0 : Nat)) := Fhi.out.cell 0
  have chi1 : v14.cell? ⟨ghi, 1, none⟩ = some (.int .u64 (wd hi 1 : Nat)) := Fhi.out.cell 1
  have chi2 : v14.cell? ⟨ghi, 2, none⟩ = some (.int .u64 (wd hi 2 : Nat)) := Fhi.out.cell 2
  have chi3 : v14.cell? ⟨ghi, 3, none⟩ = some (.int .u64 (wd hi 3 : Nat)) := Fhi.out.cell 3
  have fhi0 : v14.frozen? ⟨ghi, 0, none⟩ = false := Fhi.out.frozen 0
  have fhi1 : v14.frozen? ⟨ghi, 1, none⟩ = false := Fhi.out.frozen 1
  have fhi2 : v14.frozen? ⟨ghi, 2, none⟩ = false := Fhi.out.frozen 2
  have fhi3 : v14.frozen? ⟨ghi, 3, none⟩ = false := Fhi.out.frozen 3
  have La := Fa.out.lt
  have ca0 : v14.cell? ⟨ga, 0, none⟩ = some (.int .u64 (wd X 0 : Nat)) := Fa.out.cell 0
  have ca1 : v14.cell? ⟨ga, 1, none⟩ = some (.int .u64 (wd X 1 : Nat)) := Fa.out.cell 1
  have ca2 : v14.cell? ⟨ga, 2, none⟩ = some (.int .u64 (wd X 2 : Nat)) := Fa.out.cell 2
  have ca3 : v14.cell? ⟨ga, 3, none⟩ = some (.int .u64 (wd X 3 : Nat)) := Fa.out.cell 3
  have Lb := Fb.out.lt
  have cb0 : v14.cell? ⟨gb, 0, none⟩ = some (.int .u64 (wd Y 0 : Nat)) := Fb.out.cell 0
  have cb1 : v14.cell? ⟨gb, 1, none⟩ = some (.int .u64 (wd Y 1 : Nat)) := Fb.out.cell 1
  have cb2 : v14.cell? ⟨gb, 2, none⟩ = some (.int .u64 (wd Y 2 : Nat)) := Fb.out.cell 2
  have cb3 : v14.cell? ⟨gb, 3, none⟩ = some (.int .u64 (wd Y 3 : Nat)) := Fb.out.cell 3
  go_wp2_with fail
  clear Lhi chi0 chi1 chi2 chi3 fhi0 fhi1 fhi2 fhi3 La ca0 ca1 ca2 ca3 Lb cb0 cb1 cb2 cb3
  have Nhi : At ((((v14.setCell ⟨ghi, 0, none⟩ (.int .u64 (wd H 0 : Nat))).setCell ⟨ghi, 1, none⟩ (.int .u64 (wd H 1 : Nat))).setCell ⟨ghi, 2, none⟩ (.int .u64 (wd H 2 : Nat))).setCell ⟨ghi, 3, none⟩ (.int .u64 (wd H 3 : Nat))) ghi 24 #[.int .u64 (wd H 0 : Nat), .int .u64 (wd H 1 : Nat), .int .u64 (wd H 2 : Nat), .int .u64 (wd H 3 : Nat)] := Fhi.out.put4 _ _ _ _
  have Na : At ((((v14.setCell ⟨ghi, 0, none⟩ (.int .u64 (wd H 0 : Nat))).setCell ⟨ghi, 1, none⟩ (.int .u64 (wd H 1 : Nat))).setCell ⟨ghi, 2, none⟩ (.int .u64 (wd H 2 : Nat))).setCell ⟨ghi, 3, none⟩ (.int .u64 (wd H 3 : Nat))) ga 24 #[.int .u64 (wd X 0 : Nat), .int .u64 (wd X 1 : Nat), .int .u64 (wd X 2 : Nat), .int .u64 (wd X 3 : Nat)] := Fa.out.far4 Dahi _ _ _ _
  have Nb : At ((((v14.setCell ⟨ghi, 0, none⟩ (.int .u64 (wd H 0 : Nat))).setCell ⟨ghi, 1, none⟩ (.int .u64 (wd H 1 : Nat))).setCell ⟨ghi, 2, none⟩ (.int .u64 (wd H 2 : Nat))).setCell ⟨ghi, 3, none⟩ (.int .u64 (wd H 3 : Nat))) gb 24 #[.int .u64 (wd Y 0 : Nat), .int .u64 (wd Y 1 : Nat), .int .u64 (wd Y 2 : Nat), .int .u64 (wd Y 3 : Nat)] := Fb.out.far4 Dbhi _ _ _ _
  have Nlo : At ((((v14.setCell ⟨ghi, 0, none⟩ (.int .u64 (wd H 0 : Nat))).setCell ⟨ghi, 1, none⟩ (.int .u64 (wd H 1 : Nat))).setCell ⟨ghi, 2, none⟩ (.int .u64 (wd H 2 : Nat))).setCell ⟨ghi, 3, none⟩ (.int .u64 (wd H 3 : Nat))) glo 24 #[.int .u64 (wd P 0 : Nat), .int .u64 (wd P 1 : Nat), .int .u64 (wd P 2 : Nat), .int .u64 (wd P 3 : Nat)] := Flo.out.far4 Dlohi _ _ _ _
  have NB : Below w.heap.size w ((((v14.setCell ⟨ghi, 0, none⟩ (.int .u64 (wd H 0 : Nat))).setCell ⟨ghi, 1, none⟩ (.int .u64 (wd H 1 : Nat))).setCell ⟨ghi, 2, none⟩ (.int .u64 (wd H 2 : Nat))).setCell ⟨ghi, 3, none⟩ (.int .u64 (wd H 3 : Nat))) := (((BW.out.setCell Ehi _).setCell Ehi _).setCell Ehi _).setCell Ehi _
  clear BW Fa Fb Flo Fhi
  generalize ((((v14.setCell ⟨ghi, 0, none⟩ (.int .u64 (wd H 0 : Nat))).setCell ⟨ghi, 1, none⟩ (.int .u64 (wd H 1 : Nat))).setCell ⟨ghi, 2, none⟩ (.int .u64 (wd H 2 : Nat))).setCell ⟨ghi, 3, none⟩ (.int .u64 (wd H 3 : Nat))) = W15 at *
  have Fa := Lib.hid Na
  have Fb := Lib.hid Nb
  have Flo := Lib.hid Nlo
  have Fhi := Lib.hid Nhi
  have BW := Lib.hid NB
  clear NB Na Nb Nlo Nhi
  refine (A11.out _).mono ?_
  rintro e v16 ⟨rfl, z16⟩
  have Na := Lib.hid (Fa.out.on z16)
  have Nb := Lib.hid (Fb.out.on z16)
  have Nlo := Lib.hid (Flo.out.on z16)
  have Nhi := Lib.hid (Fhi.out.on z16)
  have NB := Lib.hid (bel_tr BW.out z16)
  clear BW z16 Fa Fb Flo Fhi
  have Fa := Na
  have Fb := Nb
  have Flo := Nlo
  have Fhi := Nhi
  have BW := NB
  clear NB Na Nb Nlo Nhi
  go_wp2_with fail
  have NP : At ((v16.alloc (.cells #[.int .u64 (wd P 0 : Nat), .int .u64 (wd P 1 : Nat), .int .u64 (wd P 2 : Nat), .int .u64 (wd P 3 : Nat)] 24)).alloc (.cells #[.int .u64 (wd H 0 : Nat), .int .u64 (wd H 1 : Nat), .int .u64 (wd H 2 : Nat), .int .u64 (wd H 3 : Nat)] 24)) (v16.heap.size) 24 #[.int .u64 (wd P 0 : Nat), .int .u64 (wd P 1 : Nat), .int .u64 (wd P 2 : Nat), .int .u64 (wd P 3 : Nat)] := (At.at_ _ _ _ _ (by simp)).alloc _
  have DhiP : ghi ≠ v16.heap.size := by have := Fhi.out.lt; omega
  have NH : At ((v16.alloc (.cells #[.int .u64 (wd P 0 : Nat), .int .u64 (wd P 1 : Nat), .int .u64 (wd P 2 : Nat), .int .u64 (wd P 3 : Nat)] 24)).alloc (.cells #[.int .u64 (wd H 0 : Nat), .int .u64 (wd H 1 : Nat), .int .u64 (wd H 2 : Nat), .int .u64 (wd H 3 : Nat)] 24)) (v16.heap.size + 1) 24 #[.int .u64 (wd H 0 : Nat), .int .u64 (wd H 1 : Nat), .int .u64 (wd H 2 : Nat), .int .u64 (wd H 3 : Nat)] := At.at_ _ _ _ _ (by simp)
  have DhiH : ghi ≠ v16.heap.size + 1 := by have := Fhi.out.lt; omega
  have Na : At ((v16.alloc (.cells #[.int .u64 (wd P 0 : Nat), .int .u64 (wd P 1 : Nat), .int .u64 (wd P 2 : Nat), .int .u64 (wd P 3 : Nat)] 24)).alloc (.cells #[.int .u64 (wd H 0 : Nat), .int .u64 (wd H 1 : Nat), .int .u64 (wd H 2 : Nat), .int .u64 (wd H 3 : Nat)] 24)) ga 24 #[.int .u64 (wd X 0 : Nat), .int .u64 (wd X 1 : Nat), .int .u64 (wd X 2 : Nat), .int .u64 (wd X 3 : Nat)] := (Fa.out.alloc _).alloc _
  have Nb : At ((v16.alloc (.cells #[.int .u64 (wd P 0 : Nat), .int .u64 (wd P 1 : Nat), .int .u64 (wd P 2 : Nat), .int .u64 (wd P 3 : Nat)] 24)).alloc (.cells #[.int .u64 (wd H 0 : Nat), .int .u64 (wd H 1 : Nat), .int .u64 (wd H 2 : Nat), .int .u64 (wd H 3 : Nat)] 24)) gb 24 #[.int .u64 (wd Y 0 : Nat), .int .u64 (wd Y 1 : Nat), .int .u64 (wd Y 2 : Nat), .int .u64 (wd Y 3 : Nat)] := (Fb.out.alloc _).alloc _
  have Nlo : At ((v16.alloc (.cells #[.int .u64 (wd P 0 : Nat), .int .u64 (wd P 1 : Nat), .int .u64 (wd P 2 : Nat), .int .u64 (wd P 3 : Nat)] 24)).alloc (.cells #[.int .u64 (wd H 0 : Nat), .int .u64 (wd H 1 : Nat), .int .u64 (wd H 2 : Nat), .int .u64 (wd H 3 : Nat)] 24)) glo 24 #[.int .u64 (wd P 0 : Nat), .int .u64 (wd P 1 : Nat), .int .u64 (wd P 2 : Nat), .int .u64 (wd P 3 : Nat)] := (Flo.out.alloc _).alloc _
  have Nhi : At ((v16.alloc (.cells #[.int .u64 (wd P 0 : Nat), .int .u64 (wd P 1 : Nat), .int .u64 (wd P 2 : Nat), .int .u64 (wd P 3 : Nat)] 24)).alloc (.cells #[.int .u64 (wd H 0 : Nat), .int .u64 (wd H 1 : Nat), .int .u64 (wd H 2 : Nat), .int .u64 (wd H 3 : Nat)] 24)) ghi 24 #[.int .u64 (wd H 0 : Nat), .int .u64 (wd H 1 : Nat), .int .u64 (wd H 2 : Nat), .int .u64 (wd H 3 : Nat)] := (Fhi.out.alloc _).alloc _
  have NB : Below w.heap.size w ((v16.alloc (.cells #[.int .u64 (wd P 0 : Nat), .int .u64 (wd P 1 : Nat), .int .u64 (wd P 2 : Nat), .int .u64 (wd P 3 : Nat)] 24)).alloc (.cells #[.int .u64 (wd H 0 : Nat), .int .u64 (wd H 1 : Nat), .int .u64 (wd H 2 : Nat), .int .u64 (wd H 3 : Nat)] 24)) := gr_alloc (gr_alloc BW.out _) _
  clear BW Fa Fb Flo Fhi
  generalize ((v16.alloc (.cells #[.int .u64 (wd P 0 : Nat), .int .u64 (wd P 1 : Nat), .int .u64 (wd P 2 : Nat), .int .u64 (wd P 3 : Nat)] 24)).alloc (.cells #[.int .u64 (wd H 0 : Nat), .int .u64 (wd H 1 : Nat), .int .u64 (wd H 2 : Nat), .int .u64 (wd H 3 : Nat)] 24)) = W17 at *
  generalize v16.heap.size + 1 = gH at *
  generalize v16.heap.size = gP at *
  have Fa := Lib.hid Na
  have Fb := Lib.hid Nb
  have Flo := Lib.hid Nlo
  have Fhi := Lib.hid Nhi
  have FP := Lib.hid NP
  have FH := Lib.hid NH
  have BW := Lib.hid NB
  clear NB Na Nb Nlo Nhi NP NH
  refine (alive_any _).mono ?_
  rintro e v18 ⟨rfl, z18⟩
  have Na := Lib.hid (Fa.out.on z18)
  have Nb := Lib.hid (Fb.out.on z18)
  have Nlo := Lib.hid (Flo.out.on z18)
  have Nhi := Lib.hid (Fhi.out.on z18)
  have NP := Lib.hid (FP.out.on z18)
  have NH := Lib.hid (FH.out.on z18)
  have NB := Lib.hid (bel_tr BW.out z18)
  clear BW z18 Fa Fb Flo Fhi FP FH
  have Fa := Na
  have Fb := Nb
  have Flo := Nlo
  have Fhi := Nhi
  have FP := NP
  have FH := NH
  have BW := NB
  clear NB Na Nb Nlo Nhi NP NH
  have LP := FP.out.lt
  have cP0 : v18.cell? ⟨gP, 0, none⟩ = some (.int .u64 (wd P 0 : Nat)) := FP.out.cell 0
  have cP1 : v18.cell? ⟨gP, 1, none⟩ = some (.int .u64 (wd P 1 : Nat)) := FP.out.cell 1
  have cP2 : v18.cell? ⟨gP, 2, none⟩ = some (.int .u64 (wd P 2 : Nat)) := FP.out.cell 2
  have cP3 : v18.cell? ⟨gP, 3, none⟩ = some (.int .u64 (wd P 3 : Nat)) := FP.out.cell 3
  have Llo := Flo.out.lt
  have clo0 : v18.cell? ⟨glo, 0, none⟩ = some (.int .u64 (wd P 0 : Nat)) := Flo.out.cell 0
  have clo1 : v18.cell? ⟨glo, 1, none⟩ = some (.int .u64 (wd P 1 : Nat)) := Flo.out.cell 1
  have clo2 : v18.cell? ⟨glo, 2, none⟩ = some (.int .u64 (wd P 2 : Nat)) := Flo.out.cell 2
  have clo3 : v18.cell? ⟨glo, 3, none⟩ = some (.int .u64 (wd P 3 : Nat)) := Flo.out.cell 3
  have LH := FH.out.lt
  have cH0 : v18.cell? ⟨gH, 0, none⟩ = some (.int .u64 (wd H 0 : Nat)) := FH.out.cell 0
  have cH1 : v18.cell? ⟨gH, 1, none⟩ = some (.int .u64 (wd H 1 : Nat)) := FH.out.cell 1
  have cH2 : v18.cell? ⟨gH, 2, none⟩ = some (.int .u64 (wd H 2 : Nat)) := FH.out.cell 2
  have cH3 : v18.cell? ⟨gH, 3, none⟩ = some (.int .u64 (wd H 3 : Nat)) := FH.out.cell 3
  have Lhi := Fhi.out.lt
  have chi0 : v18.cell? ⟨ghi, 0, none⟩ = some (.int .u64 (wd H 0 : Nat)) := Fhi.out.cell 0
  have chi1 : v18.cell? ⟨ghi, 1, none⟩ = some (.int .u64 (wd H 1 : Nat)) := Fhi.out.cell 1
  have chi2 : v18.cell? ⟨ghi, 2, none⟩ = some (.int .u64 (wd H 2 : Nat)) := Fhi.out.cell 2
  have chi3 : v18.cell? ⟨ghi, 3, none⟩ = some (.int .u64 (wd H 3 : Nat)) := Fhi.out.cell 3
  go_wp2
  go_ret
  exact ⟨rfl, BW.out⟩
end Go.Proofs.Ytamglpncdgiocaa
