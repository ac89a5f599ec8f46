import Derived.Deep.Cut
import Derived.Test.YtodlpmepoakdlaaGreatMPowIn
import Derived.Test.YtodlpmepoakdlaaGreatMRCore2
import Derived.Test.YtodlpmepoakdlaaGreatMRng
import Derived.Test.YtodlpmepoakdlaaGreatMSmall
namespace Go.Proofs.YtodlpmepoakdlaaGreat
set_option maxRecDepth 100000
set_option maxHeartbeats 8000000
open Go.RowKit
set_option linter.unusedSimpArgs false
set_option linter.unusedVariables false
attribute [local go_sem ↓] Go.wp_at_zero Go.wp_at_succ

theorem Xw {X Y : Nat} (h : X ≤ Y) : Uu X Y ≤ 0 := by unfold Uu; split <;> (try split) <;> omega
theorem Xn {X Y : Nat} (h : Y < X) : ¬ Uu X Y ≤ 0 := by rw [Jda h]; decide
theorem Jbu {X Y : Nat} (h : Y ≤ X) : 0 ≤ Uu X Y := by unfold Uu; split <;> (try split) <;> omega
theorem Jcy {X Y : Nat} (h : X < Y) : ¬ 0 ≤ Uu X Y := by rw [Xo h]; decide
def Jev (N Y q : Nat) : Bool := decide (Nat.gcd ((Y ^ ((N - 1) / q) % N + N - 1) % N) N = 1)
def Jcl (N Y : Nat) (qs : List Nat) : Bool := decide (1 < Y) && decide (Y < N) && decide (Y ^ (N - 1) % N = 1) && qs.all (Jev N Y)
theorem Sl.cells {w : World} {a : Option Addr} {cap : Nat} {ps : List Pr.Rsn} (h : Sl w a cap ps) {i : Nat} (hi : i < ps.length) : ∃ g off a' cap' q y l', a = some ⟨g, off, none⟩ ∧ (ps[i]).n = q ∧ (ps[i]).w = y ∧ (ps[i]).ps.length = l' ∧ q < 2 ^ 256 ∧ y < 2 ^ 256 ∧ Sl w a' cap' (ps[i]).ps ∧
  w.cell? ⟨g, off + i * 9, none⟩ = some (.int .u64 (wd q 0)) ∧ w.cell? ⟨g, off + i * 9 + 1, none⟩ = some (.int .u64 (wd q 1)) ∧ w.cell? ⟨g, off + i * 9 + 2, none⟩ = some (.int .u64 (wd q 2)) ∧ w.cell? ⟨g, off + i * 9 + 3, none⟩ = some (.int .u64 (wd q 3)) ∧
  w.cell? ⟨g, off + i * 9 + 4, none⟩ = some (.int .u64 (wd y 0)) ∧ w.cell? ⟨g, off + i * 9 + 5, none⟩ = some (.int .u64 (wd y 1)) ∧ w.cell? ⟨g, off + i * 9 + 6, none⟩ = some (.int .u64 (wd y 2)) ∧ w.cell? ⟨g, off + i * 9 + 7, none⟩ = some (.int .u64 (wd y 3)) ∧
  w.cell? ⟨g, off + i * 9 + 8, none⟩ = some (.slice a' l' cap') := by
 obtain ⟨g, off, ha, hr⟩ := h.get hi
 obtain ⟨⟨hn, h1⟩, ⟨hy, h2⟩, a', cap', hc, hs⟩ := rsAt_iff.mp hr
 rw [Nat.mul_comm 9 i] at *
 refine ⟨g, off, a', cap', _, _, _, ha, rfl, rfl, rfl, hn, hy, hs, by simpa using h1 0 (by omega), h1 1 (by omega), h1 2 (by omega), h1 3 (by omega), by simpa using h2 0 (by omega), ?_, ?_, ?_, hc⟩
 ·have := h2 1 (by omega); rw [Nat.add_assoc (off + i * 9)] at this; exact this
 ·have := h2 2 (by omega); rw [Nat.add_assoc (off + i * 9)] at this; exact this
 ·have := h2 3 (by omega); rw [Nat.add_assoc (off + i * 9)] at this; exact this
theorem witB_all {N Y : Nat} {ps : List Pr.Rsn} (h1 : 1 < Y) (h2 : Y < N) (h3 : Y ^ (N - 1) % N = 1) (h : ∀ j (hj : j < ps.length), Jev N Y (ps[j]).n = true) : Jcl N Y (ps.map Pr.Rsn.n) = true := by
 simp only [Jcl, h1, h2, h3, decide_true, Bool.true_and, List.all_eq_true]
 intro q hq
 obtain ⟨p, hp, rfl⟩ := List.mem_map.mp hq
 obtain ⟨j, hj, rfl⟩ := List.getElem_of_mem hp
 exact h j hj
theorem witB_no {N Y i q : Nat} {ps : List Pr.Rsn} (hx : ∃ hi : i < ps.length, (ps[i]).n = q) (h : Jev N Y q = false) : Jcl N Y (ps.map Pr.Rsn.n) = false := by
 obtain ⟨hi, rfl⟩ := hx
 rcases hb : Jcl N Y (ps.map Pr.Rsn.n) with _ | _
 ·rfl
 ·simp only [Jcl, Bool.and_eq_true, List.all_eq_true] at hb
  have := hb.2 (ps[i]).n (List.mem_map.mpr ⟨_, List.getElem_mem hi, rfl⟩)
  rw [h] at this; cases this

theorem witnessed_any (N Y M : Nat) (a : Option Addr) (cap : Nat) (ps : List Pr.Rsn) (hN : N < 2 ^ 256) (hN1 : 1 < N) (hY : Y < 2 ^ 256) (hM : M = N - 1) (hq : ∀ p ∈ ps, p.n ≠ 0)
  (w : World) (hs : Sl w a cap ps) : Calls Tryz.prog 69 #[rv N Y (.slice a ps.length cap), num M] w fun e w' => e = .returned (.bool (Jcl N Y (ps.map Pr.Rsn.n))) ∧ Below w.heap.size w w' := by
 obtain ⟨l, hl⟩ : ∃ l, ps.length = l := ⟨_, rfl⟩
 obtain ⟨V, hV⟩ : ∃ V, V = Jcl N Y (ps.map Pr.Rsn.n) := ⟨_, rfl⟩
 rw [← hV, hl]
 have HO := Jfg (fun w => Vc 1 (by decide) w)
 have HK1 := Jfg (fun w => Uo Y 1 hY (by decide) w)
 have HK2 := Jfg (fun w => Uo Y N hY hN w)
 have HN := Jfg hN; have HN1 := Jfg hN1; have HY := Jfg hY; have HM := Jfg hM; have HQ := Jfg hq; have HS := Jfg hs; have HL := Jfg hl; have HV := Jfg hV
 have hlc : l ≤ 9223372036854775807 := by rw [← hl]; exact Nat.le_trans hs.1 hs.2.1
 have HLC := Jfg hlc
 clear hN hN1 hY hM hq hs hl hV hlc
 go_enter Tryz.func69, Tryz.ntmps69
 go_wp2_with fail
 have BW := Jfg (Below.refl w.heap.size w)
 have Em : w.heap.size ≤ w.heap.size + 1 := by have := BW.out.size; omega
 have Drm : w.heap.size ≠ w.heap.size + 1 := by omega
 generalize hW1 : ((w.alloc (.cells #[.int .u64 (wd N 0), .int .u64 (wd N 1), .int .u64 (wd N 2), .int .u64 (wd N 3), .int .u64 (wd Y 0), .int .u64 (wd Y 1), .int .u64 (wd Y 2), .int .u64 (wd Y 3), .slice a l cap] 29)).alloc (.cells (ncs M) 24)) = W1 at *
 have Nr : At W1 (w.heap.size) _ _ := Jb hW1 ((At.at_ _ _ _ _ (by simp)).alloc _)
 have Nm : At W1 (w.heap.size + 1) _ _ := Jb hW1 (At.at_ _ _ _ _ (by simp))
 have NB := gr_of hW1 (gr_alloc (gr_alloc BW.out _) _)
 clear hW1 BW 
 generalize w.heap.size + 1 = gm at *
 obtain ⟨gr, hg0⟩ : ∃ g, g = w.heap.size := ⟨_, rfl⟩
 rw [← hg0] at Nr ⊢
 rw [← hg0] at Drm
 have Er : w.heap.size ≤ gr := by omega
 clear hg0
 have Fr := Jfg Nr
 have Fm := Jfg Nm
 have BW := Jfg NB
 clear NB Nr Nm
 refine (HO.out _).mono ?_
 rintro e v2 ⟨rfl, z2⟩
 have Nr := Jfg (Fr.out.on z2)
 have Nm := Jfg (Fm.out.on z2)
 have NB := Jfg (bel_tr BW.out z2)
 clear BW z2 Fr Fm
 have Fr := Nr
 have Fm := Nm
 have BW := NB
 clear NB Nr Nm
 go_upto_region 2 with fail
 have Eo : w.heap.size ≤ v2.heap.size := by have := BW.out.size; omega
 have Dro : gr ≠ v2.heap.size := by have := Fr.out.lt; omega
 have Dmo : gm ≠ v2.heap.size := by have := Fm.out.lt; omega
 generalize hW3 : (v2.alloc (.cells #[.int .u64 (wd 1 0), .int .u64 (wd 1 1), .int .u64 (wd 1 2), .int .u64 (wd 1 3)] 24)) = W3 at *
 have No : At W3 (v2.heap.size) _ _ := Jb hW3 (At.at_ _ _ _ _ (by simp))
 have Nr := Jb hW3 (Fr.out.alloc _)
 have Nm := Jb hW3 (Fm.out.alloc _)
 have NB := gr_of hW3 (gr_alloc BW.out _)
 clear hW3 BW Fr Fm
 generalize v2.heap.size = go at *
 have Fr := Jfg Nr
 have Fm := Jfg Nm
 have Fo := Jfg No
 have BW := Jfg NB
 clear NB Nr Nm No
 by_cases h1 : 1 < Y
 ·have hk := Xn h1
  have HK := Jfg HK1.out
  have HH1 := Jfg h1
  clear h1 HK1
  generalize Uu Y 1 = k at *
  have Lr := Fr.out.lt
  obtain ⟨cr0, cr1, cr2, cr3, cr4, cr5, cr6, cr7, cr8⟩ := Jah Fr.out
  have Lo := Fo.out.lt
  have co0 := Fo.out.c0; have co1 := Fo.out.c1; have co2 := Fo.out.c2; have co3 := Fo.out.c3
  go_wp2_with fail
  clear Lr cr0 cr1 cr2 cr3 cr4 cr5 cr6 cr7 cr8 Lo co0 co1 co2 co3
  refine (HK.out _).mono ?_
  rintro e v4 ⟨rfl, z4⟩
  have Nr := Jfg (Fr.out.on z4)
  have Nm := Jfg (Fm.out.on z4)
  have No := Jfg (Fo.out.on z4)
  have NB := Jfg (bel_tr BW.out z4)
  clear BW z4 Fr Fm Fo
  have Fr := Nr
  have Fm := Nm
  have Fo := No
  have BW := NB
  clear NB Nr Nm No
  have Lr := Fr.out.lt
  obtain ⟨cr0, cr1, cr2, cr3, cr4, cr5, cr6, cr7, cr8⟩ := Jah Fr.out
  go_wp2_with fail
  clear Lr cr0 cr1 cr2 cr3 cr4 cr5 cr6 cr7 cr8
  by_cases h2 : Y < N
  ·have hk2 := Jcy h2
   have HKK := Jfg HK2.out
   have HH2 := Jfg h2
   have HEX := Jfg (fun e (he : e < 2 ^ 256) => mexp_yes Y e N HN.out he HN1.out h2)
   clear h2 HK2
   generalize Uu Y N = k2 at *
   refine (HKK.out _).mono ?_
   rintro e v5 ⟨rfl, z5⟩
   have Nr := Jfg (Fr.out.on z5)
   have Nm := Jfg (Fm.out.on z5)
   have No := Jfg (Fo.out.on z5)
   have NB := Jfg (bel_tr BW.out z5)
   clear BW z5 Fr Fm Fo
   have Fr := Nr
   have Fm := Nm
   have Fo := No
   have BW := NB
   clear NB Nr Nm No
   go_upto_region 4 with fail
   have Lr := Fr.out.lt
   obtain ⟨cr0, cr1, cr2, cr3, cr4, cr5, cr6, cr7, cr8⟩ := Jah Fr.out
   have Lm := Fm.out.lt
   have cm0 := Fm.out.c0; have cm1 := Fm.out.c1; have cm2 := Fm.out.c2; have cm3 := Fm.out.c3
   go_wp2_with fail
   clear Lr cr0 cr1 cr2 cr3 cr4 cr5 cr6 cr7 cr8 Lm cm0 cm1 cm2 cm3
   obtain ⟨X, hX⟩ : ∃ X, X = Y ^ M % N := ⟨_, rfl⟩
   have CE := HEX.out M (by have := HM.out; have := HN.out; omega)
   rw [← hX] at CE
   have HCE := Jfg CE; have HX := Jfg hX
   clear CE hX
   refine (HCE.out _).mono ?_
   rintro e v6 ⟨rfl, z6⟩
   have Nr := Jfg (Fr.out.on z6)
   have Nm := Jfg (Fm.out.on z6)
   have No := Jfg (Fo.out.on z6)
   have NB := Jfg (bel_tr BW.out z6)
   clear BW z6 Fr Fm Fo
   have Fr := Nr
   have Fm := Nm
   have Fo := No
   have BW := NB
   clear NB Nr Nm No
   go_upto_region 5 with fail
   have Drx : gr ≠ v6.heap.size := by have := Fr.out.lt; omega
   have Dmx : gm ≠ v6.heap.size := by have := Fm.out.lt; omega
   have Dox : go ≠ v6.heap.size := by have := Fo.out.lt; omega
   generalize hW7 : (v6.alloc (.cells (ncs X) 24)) = W7 at *
   have Nx : At W7 (v6.heap.size) _ _ := Jb hW7 (At.at_ _ _ _ _ (by simp))
   have Nr := Jb hW7 (Fr.out.alloc _)
   have Nm := Jb hW7 (Fm.out.alloc _)
   have No := Jb hW7 (Fo.out.alloc _)
   have NB := gr_of hW7 (gr_alloc BW.out _)
   clear hW7 BW Fr Fm Fo
   generalize v6.heap.size = gx at *
   have Fr := Jfg Nr
   have Fm := Jfg Nm
   have Fo := Jfg No
   have Fx := Jfg Nx
   have BW := Jfg NB
   clear NB Nr Nm No Nx
   have eqx := eqN X 1 (by rw [HX.out]; exact Nat.lt_trans (Nat.mod_lt _ (by have := HN1.out; omega)) HN.out) (by decide)
   by_cases h3 : X = 1
   ·rw [decide_eq_true h3] at eqx
    have HH3 := Jfg h3
    clear h3
    have Lx := Fx.out.lt
    have cx0 := Fx.out.c0; have cx1 := Fx.out.c1; have cx2 := Fx.out.c2; have cx3 := Fx.out.c3
    have Lo := Fo.out.lt
    have co0 := Fo.out.c0; have co1 := Fo.out.c1; have co2 := Fo.out.c2; have co3 := Fo.out.c3
    go_upto_region 7 with fail
    clear Lx cx0 cx1 cx2 cx3 Lo co0 co1 co2 co3
    clear eqx
    have Lr := Fr.out.lt
    obtain ⟨cr0, cr1, cr2, cr3, cr4, cr5, cr6, cr7, cr8⟩ := Jah Fr.out
    go_wp2_with fail
    clear Lr cr0 cr1 cr2 cr3 cr4 cr5 cr6 cr7 cr8
    go_loopw [46] (fun s wr => ∃ i : Nat, i ≤ l ∧ s = .int .i64 (i : Nat) ∧ Hid (At wr gr 29 #[.int .u64 (wd N 0), .int .u64 (wd N 1), .int .u64 (wd N 2), .int .u64 (wd N 3), .int .u64 (wd Y 0), .int .u64 (wd Y 1), .int .u64 (wd Y 2), .int .u64 (wd Y 3), .slice a l cap] ∧ At wr gm 24 (ncs M) ∧ At wr go 24 #[.int .u64 (wd 1 0), .int .u64 (wd 1 1), .int .u64 (wd 1 2), .int .u64 (wd 1 3)] ∧ Below w.heap.size w wr ∧ (∀ j (hj : j < ps.length), j < i → Jev N Y (ps[j]).n = true))) (fun s _ => l - (intOf s).toNat)
    case atStart => exact ⟨0, by omega, rfl, Fr.out, Fm.out, Fo.out, BW.out, fun j _ h => absurd h (Nat.not_lt_zero _)⟩
    case round =>
     obtain ⟨i, hi, rfl, hM⟩ := hrel
     clear BW Fr Fm Fo Fx
     have Fr := Jfg hM.out.1
     have Fm := Jfg hM.out.2.1
     have Fo := Jfg hM.out.2.2.1
     have BW := Jfg hM.out.2.2.2.1
     have HJ := Jfg hM.out.2.2.2.2
     clear hM
     by_cases hlt : i < l
     ·have hlt2 : (i : Int) < (l : Int) := by omega
      have hil : i < ps.length := by rw [HL.out]; exact hlt
      obtain ⟨gs, os, a2, cap2, q, y2, l2, ha, hq1, hq2, hq3, hqb, hyb, hs2, e0, e1, e2, e3, e4, e5, e6, e7, e8⟩ := (HS.out.on BW.out).cells hil
      subst ha
      have hq0 : q ≠ 0 := by rw [← hq1]; exact HQ.out _ (List.getElem_mem hil)
      obtain ⟨D, r, hD, hr, he, CD⟩ := Jdk M q (by have := HM.out; have := HN.out; omega) hqb hq0
      have hDq : D = M / q := by rw [he, Nat.mul_comm, Nat.mul_add_div (by omega), Nat.div_eq_of_lt hr, Nat.add_zero]
      have CE2 := HEX.out D hD
      obtain ⟨X2, hX2⟩ : ∃ X2, X2 = Y ^ D % N := ⟨_, rfl⟩
      have hN1 := HN1.out
      have hX2N : X2 < N := by rw [hX2]; exact Nat.mod_lt _ (by omega)
      have CS := msub_yes X2 1 N HN.out hN1 hX2N hN1
      obtain ⟨Z, hZ⟩ : ∃ Z, Z = (X2 + N - 1) % N := ⟨_, rfl⟩
      rw [← hX2] at CE2
      rw [← hZ] at CS
      have hZN : Z < N := by rw [hZ]; exact Nat.mod_lt _ (by omega)
      have CC := fun w => common_any Z N (Nat.lt_trans hZN HN.out) HN.out w
      obtain ⟨G, hG⟩ : ∃ G, G = Nat.gcd Z N := ⟨_, rfl⟩
      rw [← hG] at CC
      have hGN : G < 2 ^ 256 := Nat.lt_of_le_of_lt (by rw [hG]; exact Nat.gcd_le_right _ (by omega)) HN.out
      have hWQ : Jev N Y q = decide (G = 1) := by rw [hG, hZ, hX2, hDq, HM.out]; rfl
      have HCD := Jfg CD; have HCE2 := Jfg CE2; have HCS := Jfg CS; have HCC := Jfg CC; have HWQ := Jfg hWQ; have HIL := Jfg (show ∃ h : i < ps.length, (ps[i]).n = q from ⟨hil, hq1⟩); have HLT := Jfg hlt; have HEG := Jfg (eqN G 1 hGN (by decide))
      clear CD CE2 CS CC hWQ hlt hGN hG hZN hZ hX2N hX2 hN1 hDq he hr hD hq0 hs2 hyb hqb hq3 hq2 hq1 hil
      go_upto_region 10 with fail
      clear e0 e1 e2 e3 e4 e5 e6 e7 e8
      have Drp : gr ≠ wr.heap.size := by have := Fr.out.lt; omega
      have Dmp : gm ≠ wr.heap.size := by have := Fm.out.lt; omega
      have Dop : go ≠ wr.heap.size := by have := Fo.out.lt; omega
      generalize hW8 : (wr.alloc (.cells #[.int .u64 (wd q 0), .int .u64 (wd q 1), .int .u64 (wd q 2), .int .u64 (wd q 3), .int .u64 (wd y2 0), .int .u64 (wd y2 1), .int .u64 (wd y2 2), .int .u64 (wd y2 3), .slice a2 l2 cap2] 29)) = W8 at *
      have Np : At W8 (wr.heap.size) _ _ := Jb hW8 (At.at_ _ _ _ _ (by simp))
      have Nr := Jb hW8 (Fr.out.alloc _)
      have Nm := Jb hW8 (Fm.out.alloc _)
      have No := Jb hW8 (Fo.out.alloc _)
      have NB := gr_of hW8 (gr_alloc BW.out _)
      clear hW8 BW Fr Fm Fo
      generalize wr.heap.size = gp at *
      have Fr := Jfg Nr
      have Fm := Jfg Nm
      have Fo := Jfg No
      have Fp := Jfg Np
      have BW := Jfg NB
      clear NB Nr Nm No Np
      have Lm := Fm.out.lt
      have cm0 := Fm.out.c0; have cm1 := Fm.out.c1; have cm2 := Fm.out.c2; have cm3 := Fm.out.c3
      have Lp := Fp.out.lt
      obtain ⟨cp0, cp1, cp2, cp3, cp4, cp5, cp6, cp7, cp8⟩ := Jah Fp.out
      go_wp2_with fail
      clear Lm cm0 cm1 cm2 cm3 Lp cp0 cp1 cp2 cp3 cp4 cp5 cp6 cp7 cp8
      refine (HCD.out _).mono ?_
      rintro e v9 ⟨rfl, z9⟩
      have Nr := Jfg (Fr.out.on z9)
      have Nm := Jfg (Fm.out.on z9)
      have No := Jfg (Fo.out.on z9)
      have Np := Jfg (Fp.out.on z9)
      have NB := Jfg (bel_tr BW.out z9)
      clear BW z9 Fr Fm Fo Fp
      have Fr := Nr
      have Fm := Nm
      have Fo := No
      have Fp := Np
      have BW := NB
      clear NB Nr Nm No Np
      go_upto_region 11 with fail
      have Drd : gr ≠ v9.heap.size := by have := Fr.out.lt; omega
      have Dmd : gm ≠ v9.heap.size := by have := Fm.out.lt; omega
      have Dod : go ≠ v9.heap.size := by have := Fo.out.lt; omega
      have Dru : gr ≠ v9.heap.size + 1 := by have := Fr.out.lt; omega
      have Dmu : gm ≠ v9.heap.size + 1 := by have := Fm.out.lt; omega
      have Dou : go ≠ v9.heap.size + 1 := by have := Fo.out.lt; omega
      generalize hW10 : ((v9.alloc (.cells (ncs D) 24)).alloc (.cells (ncs r) 24)) = W10 at *
      have Nd : At W10 (v9.heap.size) _ _ := Jb hW10 ((At.at_ _ _ _ _ (by simp)).alloc _)
      have Nu : At W10 (v9.heap.size + 1) _ _ := Jb hW10 (At.at_ _ _ _ _ (by simp))
      have Nr := Jb hW10 ((Fr.out.alloc _).alloc _)
      have Nm := Jb hW10 ((Fm.out.alloc _).alloc _)
      have No := Jb hW10 ((Fo.out.alloc _).alloc _)
      have Np := Jb hW10 ((Fp.out.alloc _).alloc _)
      have NB := gr_of hW10 (gr_alloc (gr_alloc BW.out _) _)
      clear hW10 BW Fr Fm Fo Fp
      generalize v9.heap.size + 1 = gu at *
      generalize v9.heap.size = gd at *
      have Fr := Jfg Nr
      have Fm := Jfg Nm
      have Fo := Jfg No
      have Fp := Jfg Np
      have Fd := Jfg Nd
      have Fu := Jfg Nu
      have BW := Jfg NB
      clear NB Nr Nm No Np Nd Nu
      have Lr := Fr.out.lt
      obtain ⟨cr0, cr1, cr2, cr3, cr4, cr5, cr6, cr7, cr8⟩ := Jah Fr.out
      have Ld := Fd.out.lt
      have cd0 := Fd.out.c0; have cd1 := Fd.out.c1; have cd2 := Fd.out.c2; have cd3 := Fd.out.c3
      go_wp2_with fail
      clear Lr cr0 cr1 cr2 cr3 cr4 cr5 cr6 cr7 cr8 Ld cd0 cd1 cd2 cd3
      refine (HCE2.out _).mono ?_
      rintro e v11 ⟨rfl, z11⟩
      have Nr := Jfg (Fr.out.on z11)
      have Nm := Jfg (Fm.out.on z11)
      have No := Jfg (Fo.out.on z11)
      have Np := Jfg (Fp.out.on z11)
      have Nd := Jfg (Fd.out.on z11)
      have Nu := Jfg (Fu.out.on z11)
      have NB := Jfg (bel_tr BW.out z11)
      clear BW z11 Fr Fm Fo Fp Fd Fu
      have Fr := Nr
      have Fm := Nm
      have Fo := No
      have Fp := Np
      have Fd := Nd
      have Fu := Nu
      have BW := NB
      clear NB Nr Nm No Np Nd Nu
      go_upto_region 12 with fail
      have Drx : gr ≠ v11.heap.size := by have := Fr.out.lt; omega
      have Dmx : gm ≠ v11.heap.size := by have := Fm.out.lt; omega
      have Dox : go ≠ v11.heap.size := by have := Fo.out.lt; omega
      generalize hW12 : (v11.alloc (.cells (ncs X2) 24)) = W12 at *
      have Nx : At W12 (v11.heap.size) _ _ := Jb hW12 (At.at_ _ _ _ _ (by simp))
      have Nr := Jb hW12 (Fr.out.alloc _)
      have Nm := Jb hW12 (Fm.out.alloc _)
      have No := Jb hW12 (Fo.out.alloc _)
      have Np := Jb hW12 (Fp.out.alloc _)
      have Nd := Jb hW12 (Fd.out.alloc _)
      have Nu := Jb hW12 (Fu.out.alloc _)
      have NB := gr_of hW12 (gr_alloc BW.out _)
      clear hW12 BW Fr Fm Fo Fp Fd Fu
      generalize v11.heap.size = gx at *
      have Fr := Jfg Nr
      have Fm := Jfg Nm
      have Fo := Jfg No
      have Fp := Jfg Np
      have Fd := Jfg Nd
      have Fu := Jfg Nu
      have Fx := Jfg Nx
      have BW := Jfg NB
      clear NB Nr Nm No Np Nd Nu Nx
      have Lx := Fx.out.lt
      have cx0 := Fx.out.c0; have cx1 := Fx.out.c1; have cx2 := Fx.out.c2; have cx3 := Fx.out.c3
      have Lo := Fo.out.lt
      have co0 := Fo.out.c0; have co1 := Fo.out.c1; have co2 := Fo.out.c2; have co3 := Fo.out.c3
      have Lr := Fr.out.lt
      obtain ⟨cr0, cr1, cr2, cr3, cr4, cr5, cr6, cr7, cr8⟩ := Jah Fr.out
      go_wp2_with fail
      clear Lx cx0 cx1 cx2 cx3 Lo co0 co1 co2 co3 Lr cr0 cr1 cr2 cr3 cr4 cr5 cr6 cr7 cr8
      refine (HCS.out _).mono ?_
      rintro e v13 ⟨rfl, z13⟩
      have Nr := Jfg (Fr.out.on z13)
      have Nm := Jfg (Fm.out.on z13)
      have No := Jfg (Fo.out.on z13)
      have Np := Jfg (Fp.out.on z13)
      have Nd := Jfg (Fd.out.on z13)
      have Nu := Jfg (Fu.out.on z13)
      have Nx := Jfg (Fx.out.on z13)
      have NB := Jfg (bel_tr BW.out z13)
      clear BW z13 Fr Fm Fo Fp Fd Fu Fx
      have Fr := Nr
      have Fm := Nm
      have Fo := No
      have Fp := Np
      have Fd := Nd
      have Fu := Nu
      have Fx := Nx
      have BW := NB
      clear NB Nr Nm No Np Nd Nu Nx
      go_upto_region 13 with fail
      have Drz : gr ≠ v13.heap.size := by have := Fr.out.lt; omega
      have Dmz : gm ≠ v13.heap.size := by have := Fm.out.lt; omega
      have Doz : go ≠ v13.heap.size := by have := Fo.out.lt; omega
      generalize hW14 : (v13.alloc (.cells (ncs Z) 24)) = W14 at *
      have Nz : At W14 (v13.heap.size) _ _ := Jb hW14 (At.at_ _ _ _ _ (by simp))
      have Nr := Jb hW14 (Fr.out.alloc _)
      have Nm := Jb hW14 (Fm.out.alloc _)
      have No := Jb hW14 (Fo.out.alloc _)
      have Np := Jb hW14 (Fp.out.alloc _)
      have Nd := Jb hW14 (Fd.out.alloc _)
      have Nu := Jb hW14 (Fu.out.alloc _)
      have Nx := Jb hW14 (Fx.out.alloc _)
      have NB := gr_of hW14 (gr_alloc BW.out _)
      clear hW14 BW Fr Fm Fo Fp Fd Fu Fx
      generalize v13.heap.size = gz at *
      have Fr := Jfg Nr
      have Fm := Jfg Nm
      have Fo := Jfg No
      have Fp := Jfg Np
      have Fd := Jfg Nd
      have Fu := Jfg Nu
      have Fx := Jfg Nx
      have Fz := Jfg Nz
      have BW := Jfg NB
      clear NB Nr Nm No Np Nd Nu Nx Nz
      by_cases hg : G = 1
      ·have hE := HEG.out
       rw [decide_eq_true hg] at hE
       have HE := Jfg hE; have HGG := Jfg hg
       clear hE hg
       try simp only [List.append_eq, List.cons_append, List.nil_append]
       refine wp_region_noPanic ?_
       refine wp_region_held_drew (S := fun w' => At w' gz 24 (ncs Z) ∧ At w' gr 29 #[.int .u64 (wd N 0), .int .u64 (wd N 1), .int .u64 (wd N 2), .int .u64 (wd N 3), .int .u64 (wd Y 0), .int .u64 (wd Y 1), .int .u64 (wd Y 2), .int .u64 (wd Y 3), .slice (some ⟨gs, os, none⟩) l cap] ∧ At w' go 24 #[.int .u64 (wd 1 0), .int .u64 (wd 1 1), .int .u64 (wd 1 2), .int .u64 (wd 1 3)]) (by kernel_rfl) (⟨Fz.out.drew, Fr.out.drew, Fo.out.drew⟩) (fun _ => ?_)
       refine Jo (fuel := 0) (⟨0, 75, [], Kind.val (num Z), true⟩ :: ⟨1, 76, [0], Kind.val (.pointer (some ⟨gr, 0, none⟩)), true⟩ :: ⟨2, 77, [1], Kind.val (num N), true⟩ :: ⟨4, 79, [2], Kind.val (.agg #[.int .u64 (wd 1 0), .int .u64 (wd 1 1), .int .u64 (wd 1 2), .int .u64 (wd 1 3)]), true⟩ :: ⟨3, 78, [0, 2, 3], Kind.val (num G), false⟩ :: ⟨5, 80, [3, 4], Kind.val (.bool false), true⟩ :: []) _ _ W14 _ ?_ ?_ ?_ ?_ ?_ ?_ ?_ ?_ ?_ ?_ ?_
       ·rfl
       ·kernel_rfl
       ·exact of_decide_eq_true (by kernel_rfl)
       ·(repeat refine all_cons ⟨_, by rfl, by rfl⟩ ?_); exact Je
       ·exact fun _ hb => ⟨Fz.out.on hb, Fr.out.on hb, Fo.out.on hb⟩
       ·exact (Below.refl _ _).drew
       ·kernel_rfl
       ·exact fun _ _ _ _ _ h => h
       ·(repeat (refine all_cons ?_ ?_; rotate_left)); exact Je
        ·exact Jm _ _ _ _ _ _ gz _ _ _ _ (by rfl) (by rfl) (Jc) (ko 15) (fun _ hs => hs.1)
        ·exact Kg _ _ _ _ _ _ _ _ _ (by rfl) (by rfl) (Jc) (ko 2) (fun ρ w hx _ => Wy _ _ _ _ _ _ ρ w gr hx)
        ·exact Kg _ _ _ _ _ _ _ _ _ (by rfl) (by rfl) (Jc) (kc 1 76) (fun ρ w hx hs => Jas _ _ _ _ _ _ ρ w gr _ _ _ _ _ _ _ _ _ hx (hs.2.1))
        ·exact Jm _ _ _ _ _ _ go _ _ _ _ (by rfl) (by rfl) (Jc) (ko 5) (fun _ hs => hs.2.2)
        ·exact Ji _ (by rfl)
        ·exact Jv _ _ _ _ _ _ _ _ _ _ _ _ _ (by rfl) (by rfl) (Jc) (kc 4 78) (kc 3 79) (Jad true _ _ _ _ _ _ _ _ _ _ _ _ _ _ _ HE.out)
       ·(repeat (refine all_cons ?_ ?_; rotate_left)); exact Je
        all_goals try exact sA
        ·exact fun _ => Jh _ 90 _ _ [.tmp 75, .tmp 77] _ _ _ _ _ _ _ (by rfl) Tryz.func90 (by kernel_rfl) (by rfl) (by rfl) (Jc) (.cons (kc 0 75) (.cons (kc 2 77) .nil)) (HCC.out)
       intro vs y15 hc
       obtain ⟨vv0, vv1, vv2, vv3, vv4, vv5, rfl⟩ := Jfa vs hc.lv
       have qq0 := okv hc 0
       have qq1 := okv hc 1
       have qq2 := okv hc 2
       have qq3 := okv hc 3
       have qq4 := okv hc 4
       have qq5 := okv hc 5
       have BZ := hc.bel
       clear hc
       have Nr := Fr.out.on BZ
       have Nm := Fm.out.on BZ
       have No := Fo.out.on BZ
       have Np := Fp.out.on BZ
       have Nd := Fd.out.on BZ
       have Nu := Fu.out.on BZ
       have Nx := Fx.out.on BZ
       have Nz := Fz.out.on BZ
       have NB := bel_tr BW.out BZ
       clear BW BZ Fr Fm Fo Fp Fd Fu Fx Fz
       subst qq0 qq1 qq2 qq3 qq4 qq5
       simp only [List.map_cons, List.map_nil, over, Act.put, List.setIfInBounds_toArray, List.set_cons_zero, List.set_cons_succ]
       refine wpAnyH_done (by kernel_rfl) ?_ _
       refine NoPanic.normal ?_
       have Fr := Jfg Nr
       have Fm := Jfg Nm
       have Fo := Jfg No
       have Fp := Jfg Np
       have Fd := Jfg Nd
       have Fu := Jfg Nu
       have Fx := Jfg Nx
       have Fz := Jfg Nz
       have BW := Jfg NB
       clear NB Nr Nm No Np Nd Nu Nx Nz
       have hiw : (i : Int) + 1 ≤ 9223372036854775807 := by have := HLT.out; have := HLC.out; omega
       go_wp2_with fail
       go_roundw
       case measure => (have := HLT.out; simp [intOf]; omega)
       case rel =>
        have hlt := HLT.out
        refine ⟨i + 1, by omega, by go_num, Fr.out, Fm.out, Fo.out, BW.out, ?_⟩
        intro j hj hji
        rcases Nat.lt_or_ge j i with h | h
        ·exact HJ.out j hj h
        ·obtain rfl : j = i := by omega
         obtain ⟨_, hq1⟩ := HIL.out
         rw [hq1, HWQ.out]; exact decide_eq_true HGG.out
      ·have hE := HEG.out
       rw [decide_eq_false hg] at hE
       have HE := Jfg hE; have HGG := Jfg hg
       clear hE hg
       try simp only [List.append_eq, List.cons_append, List.nil_append]
       refine wp_region_noPanic ?_
       refine wp_region_held_drew (S := fun w' => At w' gz 24 (ncs Z) ∧ At w' gr 29 #[.int .u64 (wd N 0), .int .u64 (wd N 1), .int .u64 (wd N 2), .int .u64 (wd N 3), .int .u64 (wd Y 0), .int .u64 (wd Y 1), .int .u64 (wd Y 2), .int .u64 (wd Y 3), .slice (some ⟨gs, os, none⟩) l cap] ∧ At w' go 24 #[.int .u64 (wd 1 0), .int .u64 (wd 1 1), .int .u64 (wd 1 2), .int .u64 (wd 1 3)]) (by kernel_rfl) (⟨Fz.out.drew, Fr.out.drew, Fo.out.drew⟩) (fun _ => ?_)
       refine Jo (fuel := 0) (⟨0, 75, [], Kind.val (num Z), true⟩ :: ⟨1, 76, [0], Kind.val (.pointer (some ⟨gr, 0, none⟩)), true⟩ :: ⟨2, 77, [1], Kind.val (num N), true⟩ :: ⟨4, 79, [2], Kind.val (.agg #[.int .u64 (wd 1 0), .int .u64 (wd 1 1), .int .u64 (wd 1 2), .int .u64 (wd 1 3)]), true⟩ :: ⟨3, 78, [0, 2, 3], Kind.val (num G), false⟩ :: ⟨5, 80, [3, 4], Kind.val (.bool true), true⟩ :: []) _ _ W14 _ ?_ ?_ ?_ ?_ ?_ ?_ ?_ ?_ ?_ ?_ ?_
       ·rfl
       ·kernel_rfl
       ·exact of_decide_eq_true (by kernel_rfl)
       ·(repeat refine all_cons ⟨_, by rfl, by rfl⟩ ?_); exact Je
       ·exact fun _ hb => ⟨Fz.out.on hb, Fr.out.on hb, Fo.out.on hb⟩
       ·exact (Below.refl _ _).drew
       ·kernel_rfl
       ·exact fun _ _ _ _ _ h => h
       ·(repeat (refine all_cons ?_ ?_; rotate_left)); exact Je
        ·exact Jm _ _ _ _ _ _ gz _ _ _ _ (by rfl) (by rfl) (Jc) (ko 15) (fun _ hs => hs.1)
        ·exact Kg _ _ _ _ _ _ _ _ _ (by rfl) (by rfl) (Jc) (ko 2) (fun ρ w hx _ => Wy _ _ _ _ _ _ ρ w gr hx)
        ·exact Kg _ _ _ _ _ _ _ _ _ (by rfl) (by rfl) (Jc) (kc 1 76) (fun ρ w hx hs => Jas _ _ _ _ _ _ ρ w gr _ _ _ _ _ _ _ _ _ hx (hs.2.1))
        ·exact Jm _ _ _ _ _ _ go _ _ _ _ (by rfl) (by rfl) (Jc) (ko 5) (fun _ hs => hs.2.2)
        ·exact Ji _ (by rfl)
        ·exact Jv _ _ _ _ _ _ _ _ _ _ _ _ _ (by rfl) (by rfl) (Jc) (kc 4 78) (kc 3 79) (Jad false _ _ _ _ _ _ _ _ _ _ _ _ _ _ _ HE.out)
       ·(repeat (refine all_cons ?_ ?_; rotate_left)); exact Je
        all_goals try exact sA
        ·exact fun _ => Jh _ 90 _ _ [.tmp 75, .tmp 77] _ _ _ _ _ _ _ (by rfl) Tryz.func90 (by kernel_rfl) (by rfl) (by rfl) (Jc) (.cons (kc 0 75) (.cons (kc 2 77) .nil)) (HCC.out)
       intro vs y15 hc
       obtain ⟨vv0, vv1, vv2, vv3, vv4, vv5, rfl⟩ := Jfa vs hc.lv
       have qq0 := okv hc 0
       have qq1 := okv hc 1
       have qq2 := okv hc 2
       have qq3 := okv hc 3
       have qq4 := okv hc 4
       have qq5 := okv hc 5
       have BZ := hc.bel
       clear hc
       have Nr := Fr.out.on BZ
       have Nm := Fm.out.on BZ
       have No := Fo.out.on BZ
       have Np := Fp.out.on BZ
       have Nd := Fd.out.on BZ
       have Nu := Fu.out.on BZ
       have Nx := Fx.out.on BZ
       have Nz := Fz.out.on BZ
       have NB := bel_tr BW.out BZ
       clear BW BZ Fr Fm Fo Fp Fd Fu Fx Fz
       subst qq0 qq1 qq2 qq3 qq4 qq5
       simp only [List.map_cons, List.map_nil, over, Act.put, List.setIfInBounds_toArray, List.set_cons_zero, List.set_cons_succ]
       refine wpAnyH_done (by kernel_rfl) ?_ _
       refine NoPanic.normal ?_
       have Fr := Jfg Nr
       have Fm := Jfg Nm
       have Fo := Jfg No
       have Fp := Jfg Np
       have Fd := Jfg Nd
       have Fu := Jfg Nu
       have Fx := Jfg Nx
       have Fz := Jfg Nz
       have BW := Jfg NB
       clear NB Nr Nm No Np Nd Nu Nx Nz
       go_wp2
       go_ret
       exact ⟨by rw [HV.out, witB_no HIL.out (by rw [HWQ.out]; exact decide_eq_false HGG.out)]; rfl, BW.out⟩
     ·have hlt2 : ¬ (i : Int) < (l : Int) := by omega
      have hii : i = l := by omega
      have HII := Jfg hii
      clear hlt hii
      go_wp2
      go_ret
      exact ⟨by rw [HV.out, witB_all HH1.out HH2.out (by rw [← HM.out, ← HX.out]; exact HH3.out) (fun j hj => HJ.out j hj (by rw [HII.out, ← HL.out]; exact hj))]; rfl, BW.out⟩
   ·rw [decide_eq_false h3] at eqx
    have HH3 := Jfg h3
    clear h3
    have Lx := Fx.out.lt
    have cx0 := Fx.out.c0; have cx1 := Fx.out.c1; have cx2 := Fx.out.c2; have cx3 := Fx.out.c3
    have Lo := Fo.out.lt
    have co0 := Fo.out.c0; have co1 := Fo.out.c1; have co2 := Fo.out.c2; have co3 := Fo.out.c3
    go_wp2
    go_ret
    exact ⟨by rw [HV.out]; have h := HH3.out; rw [HX.out, HM.out] at h; simp [Jcl, h], BW.out⟩
  ·have hk2 := Jbu (Nat.le_of_not_lt h2)
   have HKK := Jfg HK2.out
   have HH2 := Jfg h2
   clear h2 HK2
   generalize Uu Y N = k2 at *
   refine (HKK.out _).mono ?_
   rintro e v5 ⟨rfl, z5⟩
   have Nr := Jfg (Fr.out.on z5)
   have Nm := Jfg (Fm.out.on z5)
   have No := Jfg (Fo.out.on z5)
   have NB := Jfg (bel_tr BW.out z5)
   clear BW z5 Fr Fm Fo
   have Fr := Nr
   have Fm := Nm
   have Fo := No
   have BW := NB
   clear NB Nr Nm No
   go_wp2
   go_ret
   exact ⟨by rw [HV.out]; simp [Jcl, HH2.out], BW.out⟩
 ·have hk := Xw (Nat.le_of_not_lt h1)
  have HK := Jfg HK1.out
  have HH1 := Jfg h1
  clear h1 HK1
  generalize Uu Y 1 = k at *
  have Lr := Fr.out.lt
  obtain ⟨cr0, cr1, cr2, cr3, cr4, cr5, cr6, cr7, cr8⟩ := Jah Fr.out
  have Lo := Fo.out.lt
  have co0 := Fo.out.c0; have co1 := Fo.out.c1; have co2 := Fo.out.c2; have co3 := Fo.out.c3
  go_wp2_with fail
  clear Lr cr0 cr1 cr2 cr3 cr4 cr5 cr6 cr7 cr8 Lo co0 co1 co2 co3
  refine (HK.out _).mono ?_
  rintro e v4 ⟨rfl, z4⟩
  have Nr := Jfg (Fr.out.on z4)
  have Nm := Jfg (Fm.out.on z4)
  have No := Jfg (Fo.out.on z4)
  have NB := Jfg (bel_tr BW.out z4)
  clear BW z4 Fr Fm Fo
  have Fr := Nr
  have Fm := Nm
  have Fo := No
  have BW := NB
  clear NB Nr Nm No
  go_wp2
  go_ret
  exact ⟨by rw [HV.out]; simp [Jcl, HH1.out], BW.out⟩
end Go.Proofs.YtodlpmepoakdlaaGreat
