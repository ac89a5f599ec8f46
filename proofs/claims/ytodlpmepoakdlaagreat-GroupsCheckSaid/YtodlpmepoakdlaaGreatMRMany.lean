import Derived.Deep.Cut
import Derived.Test.YtodlpmepoakdlaaGreatMPowIn
import Derived.Test.YtodlpmepoakdlaaGreatMRCmp
import Derived.Test.YtodlpmepoakdlaaGreatMRCore2
import Derived.Test.YtodlpmepoakdlaaGreatMRDiv
import Derived.Test.YtodlpmepoakdlaaGreatMRMul
import Derived.Test.YtodlpmepoakdlaaGreatMSmall
import Derived.Test.YtodlpmepoakdlaaGreatMWitn
namespace Go.Proofs.YtodlpmepoakdlaaGreat
set_option maxRecDepth 100000
set_option maxHeartbeats 8000000
open Go.RowKit
set_option linter.unusedSimpArgs false
set_option linter.unusedVariables false
attribute [local go_sem ↓] Go.wp_at_zero Go.wp_at_succ

def C9 (w : World) (g o n y : Nat) (s : Value) : Prop :=
 w.cell? ⟨g, o, none⟩ = some (.int .u64 (wd n 0)) ∧ w.cell? ⟨g, o + 1, none⟩ = some (.int .u64 (wd n 1)) ∧ w.cell? ⟨g, o + 2, none⟩ = some (.int .u64 (wd n 2)) ∧ w.cell? ⟨g, o + 3, none⟩ = some (.int .u64 (wd n 3)) ∧
 w.cell? ⟨g, o + 4, none⟩ = some (.int .u64 (wd y 0)) ∧ w.cell? ⟨g, o + 5, none⟩ = some (.int .u64 (wd y 1)) ∧ w.cell? ⟨g, o + 6, none⟩ = some (.int .u64 (wd y 2)) ∧ w.cell? ⟨g, o + 7, none⟩ = some (.int .u64 (wd y 3)) ∧ w.cell? ⟨g, o + 8, none⟩ = some s
theorem C9.on {w w' : World} {g o n y : Nat} {s : Value} (h : C9 w g o n y s) (hb : Below w.heap.size w w') : C9 w' g o n y s := by
 obtain ⟨h0, h1, h2, h3, h4, h5, h6, h7, h8⟩ := h
 exact ⟨Vk hb h0, Vk hb h1, Vk hb h2, Vk hb h3, Vk hb h4, Vk hb h5, Vk hb h6, Vk hb h7, Vk hb h8⟩
theorem Sl.c9 {w : World} {a : Option Addr} {cap : Nat} {ps : List Pr.Rsn} (h : Sl w a cap ps) {i : Nat} (hi : i < ps.length) : ∃ g off a' cap' q y l', a = some ⟨g, off, none⟩ ∧ (ps[i]).n = q ∧ (ps[i]).w = y ∧ (ps[i]).ps.length = l' ∧ q < 2 ^ 256 ∧ y < 2 ^ 256 ∧ Sl w a' cap' (ps[i]).ps ∧
  ∀ u, Below w.heap.size w u → C9 u g (off + i * 9) q y (.slice a' l' cap') := by
 obtain ⟨g, off, a', cap', q, y, l', ha, h1, h2, h3, h4, h5, h6, h7⟩ := h.cells hi
 exact ⟨g, off, a', cap', q, y, l', ha, h1, h2, h3, h4, h5, h6, fun u hb => C9.on h7 hb⟩
section
variable (x y : Operand) (dst : Option Tmp) (ty : TypeId) (pos : String) (after : Array Edge) (guard : Option (Nat × Bool)) (ρ : Operand → Value) (w : World) (g o : Nat)
theorem Jes (i l cap : Nat) (hi : i < l) (hx : ρ x = .slice (some ⟨g, o, none⟩) l cap) (hy : ρ y = .int .i64 (i : Nat)) :
  (execOp ρ ⟨dst, .indexAddr 27 x y, ty, pos, after, guard⟩).run Tryz.prog w = .ok (.value (.pointer (some ⟨g, o + i * 9, none⟩))) w := by
 have h1 : (i : Int) < (l : Int) := by omega
 simp [execOp, hx, hy, go_sem, h1]
theorem Jce (hx : ρ x = .pointer (some ⟨g, o, none⟩)) : (execOp ρ ⟨dst, .fieldAddr 29 x 0, ty, pos, after, guard⟩).run Tryz.prog w = .ok (.value (.pointer (some ⟨g, o, none⟩))) w := by
 simp [execOp, hx, go_sem]
theorem Jdh (n v : Nat) (s : Value) (hx : ρ x = .pointer (some ⟨g, o, none⟩)) (h : C9 w g o n v s) :
  (execOp ρ ⟨dst, .load 24 x, ty, pos, after, guard⟩).run Tryz.prog w = .ok (.value (num n)) w := by
 obtain ⟨h0, h1, h2, h3, h4, h5, h6, h7, h8⟩ := h
 simp [execOp, hx, go_sem, h0, h1, h2, h3]
theorem Jeq (n v : Nat) (s : Value) (hx : ρ x = .pointer (some ⟨g, o, none⟩)) (h : C9 w g o n v s) :
  (execOp ρ ⟨dst, .load 29 x, ty, pos, after, guard⟩).run Tryz.prog w = .ok (.value (rv n v s)) w := by
 obtain ⟨h0, h1, h2, h3, h4, h5, h6, h7, h8⟩ := h
 simp [execOp, hx, go_sem, h0, h1, h2, h3, h4, h5, h6, h7, h8]
theorem Jez (a : Option Addr) (l cap : Nat) (hx : ρ x = .slice a l cap) :
  (execOp ρ ⟨dst, .call ⟨.builtin .len, #[x], #[27]⟩, ty, pos, after, guard⟩).run Tryz.prog w = .ok (.value (.int .i64 (l : Nat))) w := by
 simp [execOp, hx, go_sem]
end
section
variable {P : Program} {ops : Array Oper} {Q : Exit → Act → World → Prop} {md : Region.Mode} {S : World → Prop} {a : Act} {W : World} {cores : List Core}
end
theorem rpow_big {M q e : Nat} (h2 : 2 ≤ q) (h0 : 0 < M) (hd : q ^ e ∣ M) (h : M < q ^ e * q) : Pr.gp q M = q ^ e :=
 Pr.gp_of h2 h0 hd fun h3 => by have := Nat.le_of_dvd h0 h3; omega

theorem rpow_any (M q : Nat) (h0 : 0 < M) (hM : M < 2 ^ 256) (h2 : 2 ≤ q) (hq : q < 2 ^ 256) (w : World) : Calls Tryz.prog 71 #[num q, num M] w fun e w' => e = .returned (num (Pr.gp q M)) ∧ Below w.heap.size w w' := by
 have HO := Jfg (fun w => Vt 1 (by decide) w)
 have H0 := Jfg h0; have HMM := Jfg hM; have H2 := Jfg h2; have HQ := Jfg hq
 clear h0 hM h2 hq
 go_enter Tryz.func71, Tryz.ntmps71
 go_wp2_with fail
 have BW := Jfg (Below.refl w.heap.size w)
 have Em : w.heap.size ≤ w.heap.size + 1 := by have := BW.out.size; omega
 have Dqm : w.heap.size ≠ w.heap.size + 1 := by omega
 have Ez : w.heap.size ≤ w.heap.size + 1 + 1 := by have := BW.out.size; omega
 have Dqz : w.heap.size ≠ w.heap.size + 1 + 1 := by omega
 have Dmz : w.heap.size + 1 ≠ w.heap.size + 1 + 1 := by omega
 generalize hW1 : (((w.alloc (.cells (ncs q) 24)).alloc (.cells (ncs M) 24)).alloc (.cells #[.int .u64 0, .int .u64 0, .int .u64 0, .int .u64 0] 24)) = W1 at *
 have Nq : At W1 (w.heap.size) _ _ := Jb hW1 (((At.at_ _ _ _ _ (by simp)).alloc _).alloc _)
 have Nm : At W1 (w.heap.size + 1) _ _ := Jb hW1 ((At.at_ _ _ _ _ (by simp)).alloc _)
 have Nz : At W1 (w.heap.size + 1 + 1) _ _ := Jb hW1 (At.at_ _ _ _ _ (by simp))
 have NB := gr_of hW1 (gr_alloc (gr_alloc (gr_alloc BW.out _) _) _)
 clear hW1 BW 
 generalize w.heap.size + 1 + 1 = gz at *
 generalize w.heap.size + 1 = gm at *
 obtain ⟨gq, hg0⟩ : ∃ g, g = w.heap.size := ⟨_, rfl⟩
 rw [← hg0] at Nq ⊢
 rw [← hg0] at Dqm Dqz
 have Eq : w.heap.size ≤ gq := by omega
 clear hg0
 have Fq := Jfg Nq
 have Fm := Jfg Nm
 have Fz := Jfg Nz
 have BW := Jfg NB
 clear NB Nq Nm Nz
 refine (HO.out _).mono ?_
 rintro e v2 ⟨rfl, z2⟩
 have Nq := Jfg (Fq.out.on z2)
 have Nm := Jfg (Fm.out.on z2)
 have Nz := Jfg (Fz.out.on z2)
 have NB := Jfg (bel_tr BW.out z2)
 clear BW z2 Fq Fm Fz
 have Fq := Nq
 have Fm := Nm
 have Fz := Nz
 have BW := NB
 clear NB Nq Nm Nz
 go_wp2_with fail
 have Ep : w.heap.size ≤ v2.heap.size := by have := BW.out.size; omega
 have Dqp : gq ≠ v2.heap.size := by have := Fq.out.lt; omega
 have Dmp : gm ≠ v2.heap.size := by have := Fm.out.lt; omega
 have Dzp : gz ≠ v2.heap.size := by have := Fz.out.lt; omega
 generalize hW3 : (v2.alloc (.cells #[.int .u64 (wd 1 0), .int .u64 (wd 1 1), .int .u64 (wd 1 2), .int .u64 (wd 1 3)] 24)) = W3 at *
 have Np : At W3 (v2.heap.size) _ _ := Jb hW3 (At.at_ _ _ _ _ (by simp))
 have Nq := Jb hW3 (Fq.out.alloc _)
 have Nm := Jb hW3 (Fm.out.alloc _)
 have Nz := Jb hW3 (Fz.out.alloc _)
 have NB := gr_of hW3 (gr_alloc BW.out _)
 clear hW3 BW Fq Fm Fz
 generalize v2.heap.size = gp at *
 have Fq := Jfg Nq
 have Fm := Jfg Nm
 have Fz := Jfg Nz
 have Fp := Jfg Np
 have BW := Jfg NB
 clear NB Nq Nm Nz Np
 go_loopw [] (fun wr => ∃ e P : Nat, Hid (At wr gq 24 (ncs q) ∧ At wr gm 24 (ncs M) ∧ At wr gz 24 #[.int .u64 0, .int .u64 0, .int .u64 0, .int .u64 0] ∧ At wr gp 24 (ncs P) ∧ Below w.heap.size w wr ∧ (P = q ^ e) ∧ (q ^ e ∣ M))) (fun wr => M - Jaa wr gp)
 case atStart => exact ⟨0, 1, Fq.out, Fm.out, Fz.out, Fp.out, BW.out, by simp, by simp⟩
 case round =>
  obtain ⟨e, P, hM⟩ := hrel
  clear BW Fq Fm Fz Fp
  have Fq := Jfg hM.out.1
  have Fm := Jfg hM.out.2.1
  have Fz := Jfg hM.out.2.2.1
  have Fp := Jfg hM.out.2.2.2.1
  have BW := Jfg hM.out.2.2.2.2.1
  have HP := Jfg hM.out.2.2.2.2.2.1
  have HD := Jfg hM.out.2.2.2.2.2.2
  clear hM
  have hPM : P ≤ M := by rw [HP.out]; exact Nat.le_of_dvd H0.out HD.out
  have hPb : P < 2 ^ 256 := Nat.lt_of_le_of_lt hPM HMM.out
  have HMS := Jfg (Fp.out.val hPb)
  obtain ⟨Lo, Hi, hLo, hHi, hm, _⟩ := Xc P q hPb HQ.out
  have CM := Jbl P q Lo Hi hPb HQ.out hLo hHi hm
  have HCM := Jfg CM; have HPM := Jfg hPM; have HLO := Jfg hLo; have HMU := Jfg hm; have EQH := Jfg (eqZ Hi hHi)
  have HP0 := Jfg (show 0 < P by rw [HP.out]; exact Nat.pow_pos (by have := H2.out; omega))
  clear CM hPM hPb hLo hHi hm
  have Lp := Fp.out.lt
  have cp0 := Fp.out.c0; have cp1 := Fp.out.c1; have cp2 := Fp.out.c2; have cp3 := Fp.out.c3
  have Lq := Fq.out.lt
  have cq0 := Fq.out.c0; have cq1 := Fq.out.c1; have cq2 := Fq.out.c2; have cq3 := Fq.out.c3
  go_wp2_with fail
  clear Lp cp0 cp1 cp2 cp3 Lq cq0 cq1 cq2 cq3
  refine (HCM.out _).mono ?_
  rintro e v4 ⟨rfl, z4⟩
  have Nq := Jfg (Fq.out.on z4)
  have Nm := Jfg (Fm.out.on z4)
  have Nz := Jfg (Fz.out.on z4)
  have Np := Jfg (Fp.out.on z4)
  have NB := Jfg (bel_tr BW.out z4)
  clear BW z4 Fq Fm Fz Fp
  have Fq := Nq
  have Fm := Nm
  have Fz := Nz
  have Fp := Np
  have BW := NB
  clear NB Nq Nm Nz Np
  go_upto_region 3 with fail
  have Dqx : gq ≠ v4.heap.size := by have := Fq.out.lt; omega
  have Dmx : gm ≠ v4.heap.size := by have := Fm.out.lt; omega
  have Dzx : gz ≠ v4.heap.size := by have := Fz.out.lt; omega
  have Dpx : gp ≠ v4.heap.size := by have := Fp.out.lt; omega
  have Dqh : gq ≠ v4.heap.size + 1 := by have := Fq.out.lt; omega
  have Dmh : gm ≠ v4.heap.size + 1 := by have := Fm.out.lt; omega
  have Dzh : gz ≠ v4.heap.size + 1 := by have := Fz.out.lt; omega
  have Dph : gp ≠ v4.heap.size + 1 := by have := Fp.out.lt; omega
  generalize hW5 : ((v4.alloc (.cells (ncs Lo) 24)).alloc (.cells (ncs Hi) 24)) = W5 at *
  have Nx : At W5 (v4.heap.size) _ _ := Jb hW5 ((At.at_ _ _ _ _ (by simp)).alloc _)
  have Nh : At W5 (v4.heap.size + 1) _ _ := Jb hW5 (At.at_ _ _ _ _ (by simp))
  have Nq := Jb hW5 ((Fq.out.alloc _).alloc _)
  have Nm := Jb hW5 ((Fm.out.alloc _).alloc _)
  have Nz := Jb hW5 ((Fz.out.alloc _).alloc _)
  have Np := Jb hW5 ((Fp.out.alloc _).alloc _)
  have NB := gr_of hW5 (gr_alloc (gr_alloc BW.out _) _)
  clear hW5 BW Fq Fm Fz Fp
  generalize v4.heap.size + 1 = gh at *
  generalize v4.heap.size = gx at *
  have Fq := Jfg Nq
  have Fm := Jfg Nm
  have Fz := Jfg Nz
  have Fp := Jfg Np
  have Fx := Jfg Nx
  have Fh := Jfg Nh
  have BW := Jfg NB
  clear NB Nq Nm Nz Np Nx Nh
  have eqz := EQH.out
  by_cases hh : Hi = 0
  ·rw [decide_eq_true hh] at eqz
   have hLq : Lo = q ^ e * q := by rw [← HP.out, HMU.out, hh]; omega
   have hL0 : Lo ≠ 0 := by have h1 := HMU.out; rw [hh] at h1; have h2 : 0 < P * q := Nat.mul_pos HP0.out (by have := H2.out; omega); omega
   have CD := fun w => Jal M Lo HMM.out HLO.out hL0 w
   obtain ⟨D, hD⟩ : ∃ D, D = M / Lo := ⟨_, rfl⟩
   obtain ⟨r, hr⟩ : ∃ r, r = M % Lo := ⟨_, rfl⟩
   rw [← hD, ← hr] at CD
   have HCD := Jfg CD; have HLQ := Jfg hLq; have HR := Jfg hr; have HL0 := Jfg hL0
   have EQR := Jfg (eqZ r (by rw [hr]; exact Nat.lt_trans (Nat.mod_lt _ (by omega)) HLO.out))
   clear hh hLq hL0 CD hD hr
   have Lh := Fh.out.lt
   have ch0 := Fh.out.c0; have ch1 := Fh.out.c1; have ch2 := Fh.out.c2; have ch3 := Fh.out.c3
   go_upto_region 5 with fail
   clear Lh ch0 ch1 ch2 ch3
   clear eqz
   have Lm := Fm.out.lt
   have cm0 := Fm.out.c0; have cm1 := Fm.out.c1; have cm2 := Fm.out.c2; have cm3 := Fm.out.c3
   have Lx := Fx.out.lt
   have cx0 := Fx.out.c0; have cx1 := Fx.out.c1; have cx2 := Fx.out.c2; have cx3 := Fx.out.c3
   go_wp2_with fail
   clear Lm cm0 cm1 cm2 cm3 Lx cx0 cx1 cx2 cx3
   refine (HCD.out _).mono ?_
   rintro e v6 ⟨rfl, z6⟩
   have Nq := Jfg (Fq.out.on z6)
   have Nm := Jfg (Fm.out.on z6)
   have Nz := Jfg (Fz.out.on z6)
   have Np := Jfg (Fp.out.on z6)
   have Nx := Jfg (Fx.out.on z6)
   have Nh := Jfg (Fh.out.on z6)
   have NB := Jfg (bel_tr BW.out z6)
   clear BW z6 Fq Fm Fz Fp Fx Fh
   have Fq := Nq
   have Fm := Nm
   have Fz := Nz
   have Fp := Np
   have Fx := Nx
   have Fh := Nh
   have BW := NB
   clear NB Nq Nm Nz Np Nx Nh
   go_upto_region 6 with fail
   have Dqd : gq ≠ v6.heap.size := by have := Fq.out.lt; omega
   have Dmd : gm ≠ v6.heap.size := by have := Fm.out.lt; omega
   have Dzd : gz ≠ v6.heap.size := by have := Fz.out.lt; omega
   have Dpd : gp ≠ v6.heap.size := by have := Fp.out.lt; omega
   have Dql : gq ≠ v6.heap.size + 1 := by have := Fq.out.lt; omega
   have Dml : gm ≠ v6.heap.size + 1 := by have := Fm.out.lt; omega
   have Dzl : gz ≠ v6.heap.size + 1 := by have := Fz.out.lt; omega
   have Dpl : gp ≠ v6.heap.size + 1 := by have := Fp.out.lt; omega
   generalize hW7 : ((v6.alloc (.cells (ncs D) 24)).alloc (.cells (ncs r) 24)) = W7 at *
   have Nd : At W7 (v6.heap.size) _ _ := Jb hW7 ((At.at_ _ _ _ _ (by simp)).alloc _)
   have Nl : At W7 (v6.heap.size + 1) _ _ := Jb hW7 (At.at_ _ _ _ _ (by simp))
   have Nq := Jb hW7 ((Fq.out.alloc _).alloc _)
   have Nm := Jb hW7 ((Fm.out.alloc _).alloc _)
   have Nz := Jb hW7 ((Fz.out.alloc _).alloc _)
   have Np := Jb hW7 ((Fp.out.alloc _).alloc _)
   have Nx := Jb hW7 ((Fx.out.alloc _).alloc _)
   have Nh := Jb hW7 ((Fh.out.alloc _).alloc _)
   have NB := gr_of hW7 (gr_alloc (gr_alloc BW.out _) _)
   clear hW7 BW Fq Fm Fz Fp Fx Fh
   generalize v6.heap.size + 1 = gl at *
   generalize v6.heap.size = gd at *
   have Fq := Jfg Nq
   have Fm := Jfg Nm
   have Fz := Jfg Nz
   have Fp := Jfg Np
   have Fx := Jfg Nx
   have Fh := Jfg Nh
   have Fd := Jfg Nd
   have Fl := Jfg Nl
   have BW := Jfg NB
   clear NB Nq Nm Nz Np Nx Nh Nd Nl
   have eqr := EQR.out
   by_cases hz : r = 0
   ·rw [decide_eq_true hz] at eqr
    have hdv : Lo ∣ M := Nat.dvd_of_mod_eq_zero (by rw [← HR.out]; exact hz)
    have hle := Nat.le_of_dvd H0.out hdv
    have hk := Xw hle
    have hk2 : ¬ 0 < Uu Lo M := by omega
    have HK := Jfg (fun w => Kz Lo M HLO.out HMM.out w)
    have HDV := Jfg hdv; have HLE := Jfg hle
    clear hz hdv hle hk
    generalize Uu Lo M = k at *
    have Ll := Fl.out.lt
    have cl0 := Fl.out.c0; have cl1 := Fl.out.c1; have cl2 := Fl.out.c2; have cl3 := Fl.out.c3
    have Lx := Fx.out.lt
    have cx0 := Fx.out.c0; have cx1 := Fx.out.c1; have cx2 := Fx.out.c2; have cx3 := Fx.out.c3
    have Lm := Fm.out.lt
    have cm0 := Fm.out.c0; have cm1 := Fm.out.c1; have cm2 := Fm.out.c2; have cm3 := Fm.out.c3
    go_wp2_with fail
    clear Ll cl0 cl1 cl2 cl3 Lx cx0 cx1 cx2 cx3 Lm cm0 cm1 cm2 cm3
    refine (HK.out _).mono ?_
    rintro e v8 ⟨rfl, z8⟩
    have Nq := Jfg (Fq.out.on z8)
    have Nm := Jfg (Fm.out.on z8)
    have Nz := Jfg (Fz.out.on z8)
    have Np := Jfg (Fp.out.on z8)
    have Nx := Jfg (Fx.out.on z8)
    have Nh := Jfg (Fh.out.on z8)
    have Nd := Jfg (Fd.out.on z8)
    have Nl := Jfg (Fl.out.on z8)
    have NB := Jfg (bel_tr BW.out z8)
    clear BW z8 Fq Fm Fz Fp Fx Fh Fd Fl
    have Fq := Nq
    have Fm := Nm
    have Fz := Nz
    have Fp := Np
    have Fx := Nx
    have Fh := Nh
    have Fd := Nd
    have Fl := Nl
    have BW := NB
    clear NB Nq Nm Nz Np Nx Nh Nd Nl
    have Lx := Fx.out.lt
    have cx0 := Fx.out.c0; have cx1 := Fx.out.c1; have cx2 := Fx.out.c2; have cx3 := Fx.out.c3
    have Lp := Fp.out.lt
    have cp0 := Fp.out.c0; have cp1 := Fp.out.c1; have cp2 := Fp.out.c2; have cp3 := Fp.out.c3
    obtain ⟨fp0, fp1, fp2, fp3⟩ := Vb Fp.out
    go_wp2_with fail
    clear Lx cx0 cx1 cx2 cx3 Lp cp0 cp1 cp2 cp3 fp0 fp1 fp2 fp3
    generalize hW9 : ((((v8.setCell ⟨gp, 0, none⟩ (.int .u64 (wd Lo 0))).setCell ⟨gp, 1, none⟩ (.int .u64 (wd Lo 1))).setCell ⟨gp, 2, none⟩ (.int .u64 (wd Lo 2))).setCell ⟨gp, 3, none⟩ (.int .u64 (wd Lo 3))) = W9 at *
    have Nq := Jb hW9 ((Fq.out).far4 Dqp _ _ _ _)
    have Nm := Jb hW9 ((Fm.out).far4 Dmp _ _ _ _)
    have Nz := Jb hW9 ((Fz.out).far4 Dzp _ _ _ _)
    have Np := Jb hW9 ((Fp.out).put4 _ _ _ _)
    have Nx := Jb hW9 ((Fx.out).far4 Dpx.symm _ _ _ _)
    have Nh := Jb hW9 ((Fh.out).far4 Dph.symm _ _ _ _)
    have Nd := Jb hW9 ((Fd.out).far4 Dpd.symm _ _ _ _)
    have Nl := Jb hW9 ((Fl.out).far4 Dpl.symm _ _ _ _)
    have NB := gr_of hW9 (((((BW.out).setCell Ep _).setCell Ep _).setCell Ep _).setCell Ep _)
    clear hW9 BW Fq Fm Fz Fp Fx Fh Fd Fl
    have Fq := Jfg Nq
    have Fm := Jfg Nm
    have Fz := Jfg Nz
    have Fp := Jfg Np
    have Fx := Jfg Nx
    have Fh := Jfg Nh
    have Fd := Jfg Nd
    have Fl := Jfg Nl
    have BW := Jfg NB
    clear NB Nq Nm Nz Np Nx Nh Nd Nl
    go_roundw
    case rel =>
     have hA : Lo = q ^ (e + 1) := by rw [Nat.pow_succ]; exact HLQ.out
     have hB : q ^ (e + 1) ∣ M := by rw [← hA]; exact HDV.out
     first
      | exact ⟨e + 1, Lo, Fq.out, Fm.out, Fz.out, Fp.out, BW.out, hA, hB⟩
      | ((repeat apply Exists.intro); exact ⟨⟨e + 1, Lo, Fq.out, Fm.out, Fz.out, Fp.out, BW.out, hA, hB⟩, rfl⟩)
    case measure =>
     rw [HMS.out, Fp.out.val HLO.out]
     have h1 : P < Lo := by
      rw [HLQ.out, ← HP.out]
      have h2 := H2.out; have h3 := HP0.out
      have : P * 2 ≤ P * q := Nat.mul_le_mul_left _ h2
      omega
     have h2 := HLE.out
     omega
   ·rw [decide_eq_false hz] at eqr
    have HV := Jfg (show Pr.gp q M = q ^ e from Pr.gp_of H2.out H0.out HD.out fun h3 => hz (by rw [HR.out, HLQ.out]; exact Nat.mod_eq_zero_of_dvd h3))
    clear hz
    have Ll := Fl.out.lt
    have cl0 := Fl.out.c0; have cl1 := Fl.out.c1; have cl2 := Fl.out.c2; have cl3 := Fl.out.c3
    have Lp := Fp.out.lt
    have cp0 := Fp.out.c0; have cp1 := Fp.out.c1; have cp2 := Fp.out.c2; have cp3 := Fp.out.c3
    have Lz := Fz.out.lt
    have cz0 := Fz.out.c0; have cz1 := Fz.out.c1; have cz2 := Fz.out.c2; have cz3 := Fz.out.c3
    obtain ⟨fz0, fz1, fz2, fz3⟩ := Vb Fz.out
    go_wp2_with fail
    clear Ll cl0 cl1 cl2 cl3 Lp cp0 cp1 cp2 cp3 Lz cz0 cz1 cz2 cz3 fz0 fz1 fz2 fz3
    generalize hW8 : ((((W7.setCell ⟨gz, 0, none⟩ (.int .u64 (wd P 0))).setCell ⟨gz, 1, none⟩ (.int .u64 (wd P 1))).setCell ⟨gz, 2, none⟩ (.int .u64 (wd P 2))).setCell ⟨gz, 3, none⟩ (.int .u64 (wd P 3))) = W8 at *
    have Nq := Jb hW8 ((Fq.out).far4 Dqz _ _ _ _)
    have Nm := Jb hW8 ((Fm.out).far4 Dmz _ _ _ _)
    have Nz := Jb hW8 ((Fz.out).put4 _ _ _ _)
    have Np := Jb hW8 ((Fp.out).far4 Dzp.symm _ _ _ _)
    have Nx := Jb hW8 ((Fx.out).far4 Dzx.symm _ _ _ _)
    have Nh := Jb hW8 ((Fh.out).far4 Dzh.symm _ _ _ _)
    have Nd := Jb hW8 ((Fd.out).far4 Dzd.symm _ _ _ _)
    have Nl := Jb hW8 ((Fl.out).far4 Dzl.symm _ _ _ _)
    have NB := gr_of hW8 (((((BW.out).setCell Ez _).setCell Ez _).setCell Ez _).setCell Ez _)
    clear hW8 BW Fq Fm Fz Fp Fx Fh Fd Fl
    have Fq := Jfg Nq
    have Fm := Jfg Nm
    have Fz := Jfg Nz
    have Fp := Jfg Np
    have Fx := Jfg Nx
    have Fh := Jfg Nh
    have Fd := Jfg Nd
    have Fl := Jfg Nl
    have BW := Jfg NB
    clear NB Nq Nm Nz Np Nx Nh Nd Nl
    have Lz := Fz.out.lt
    have cz0 := Fz.out.c0; have cz1 := Fz.out.c1; have cz2 := Fz.out.c2; have cz3 := Fz.out.c3
    exact bodyPost_ret (v := num P) (by simp [results, Tryz.results71, go_sem, *]) rfl ⟨by rw [HV.out, HP.out], BW.out⟩
  ·rw [decide_eq_false hh] at eqz
   have hbig : M < q ^ e * q := by rw [← HP.out, HMU.out]; have := HMM.out; omega
   have HV := Jfg (rpow_big H2.out H0.out HD.out hbig)
   clear hh hbig
   have Lh := Fh.out.lt
   have ch0 := Fh.out.c0; have ch1 := Fh.out.c1; have ch2 := Fh.out.c2; have ch3 := Fh.out.c3
   have Lp := Fp.out.lt
   have cp0 := Fp.out.c0; have cp1 := Fp.out.c1; have cp2 := Fp.out.c2; have cp3 := Fp.out.c3
   have Lz := Fz.out.lt
   have cz0 := Fz.out.c0; have cz1 := Fz.out.c1; have cz2 := Fz.out.c2; have cz3 := Fz.out.c3
   obtain ⟨fz0, fz1, fz2, fz3⟩ := Vb Fz.out
   go_wp2_with fail
   clear Lh ch0 ch1 ch2 ch3 Lp cp0 cp1 cp2 cp3 Lz cz0 cz1 cz2 cz3 fz0 fz1 fz2 fz3
   generalize hW6 : ((((W5.setCell ⟨gz, 0, none⟩ (.int .u64 (wd P 0))).setCell ⟨gz, 1, none⟩ (.int .u64 (wd P 1))).setCell ⟨gz, 2, none⟩ (.int .u64 (wd P 2))).setCell ⟨gz, 3, none⟩ (.int .u64 (wd P 3))) = W6 at *
   have Nq := Jb hW6 ((Fq.out).far4 Dqz _ _ _ _)
   have Nm := Jb hW6 ((Fm.out).far4 Dmz _ _ _ _)
   have Nz := Jb hW6 ((Fz.out).put4 _ _ _ _)
   have Np := Jb hW6 ((Fp.out).far4 Dzp.symm _ _ _ _)
   have Nx := Jb hW6 ((Fx.out).far4 Dzx.symm _ _ _ _)
   have Nh := Jb hW6 ((Fh.out).far4 Dzh.symm _ _ _ _)
   have NB := gr_of hW6 (((((BW.out).setCell Ez _).setCell Ez _).setCell Ez _).setCell Ez _)
   clear hW6 BW Fq Fm Fz Fp Fx Fh
   have Fq := Jfg Nq
   have Fm := Jfg Nm
   have Fz := Jfg Nz
   have Fp := Jfg Np
   have Fx := Jfg Nx
   have Fh := Jfg Nh
   have BW := Jfg NB
   clear NB Nq Nm Nz Np Nx Nh
   have Lz := Fz.out.lt
   have cz0 := Fz.out.c0; have cz1 := Fz.out.c1; have cz2 := Fz.out.c2; have cz3 := Fz.out.c3
   exact bodyPost_ret (v := num P) (by simp [results, Tryz.results71, go_sem, *]) rfl ⟨by rw [HV.out, HP.out], BW.out⟩
open Pr (Rsn)
theorem cnts_one (ps : List Rsn) (i : Nat) (h : i < ps.length) : Pr.cnts (ps.take (i + 1)) = Pr.cnts (ps.take i) + (ps[i]).cnt := by
 induction ps generalizing i with
 | nil => simp at h
 | cons p ps ih =>
   cases i with
   | zero => simp [Pr.cnts]
   | succ i =>
     have := ih i (by simpa using h)
     simp only [List.take_succ_cons, Pr.cnts, this, List.getElem_cons_succ]
     omega
theorem cnts_ge (ps : List Rsn) (i : Nat) : Pr.cnts (ps.take i) ≤ Pr.cnts ps := by
 induction ps generalizing i with
 | nil => simp [Pr.cnts]
 | cons p ps ih =>
   cases i with
   | zero => simp [Pr.cnts]
   | succ i => have := ih i; simp only [List.take_succ_cons, Pr.cnts]; omega
theorem Jen (r : Rsn) : r.cnt = Pr.cnts r.ps + 1 := by cases r; rfl
def Jfe (w : World) (ps : List Rsn) : Prop := ∀ (a : Option Addr) (cap so : Nat) (u : World), so ≤ 33 → Sl w a cap ps → Below w.heap.size w u →
 Calls Tryz.prog 53 #[.slice a ps.length cap, .int .i64 (so : Nat)] u fun e u' => e = .returned (.int .i64 ((min 33 (so + Pr.cnts ps) : Nat) : Int)) ∧ Below u.heap.size u u'
theorem many_step (w : World) (ps : List Rsn) (ih : ∀ p ∈ ps, Jfe w p.ps) : Jfe w ps := by
 intro a cap so u hso hs hb
 obtain ⟨l, hl⟩ : ∃ l, ps.length = l := ⟨_, rfl⟩
 obtain ⟨V, hV⟩ : ∃ V, V = min 33 (so + Pr.cnts ps) := ⟨_, rfl⟩
 have hlc : l ≤ 9223372036854775807 := by rw [← hl]; exact Nat.le_trans hs.1 hs.2.1
 rw [hl, ← hV]
 have HIH := Jfg ih; have HS := Jfg hs; have HL := Jfg hl; have HLC := Jfg hlc; have HB := Jfg hb; have HV := Jfg hV; have HSO := Jfg hso
 clear ih hs hl hlc hb hV hso
 go_enter Tryz.func53, Tryz.ntmps53
 have BW := Jfg (Below.refl u.heap.size u)
 go_wp2_with fail
 go_loopw [1, 5] (fun s1 s5 wr => ∃ (i v : Nat), i ≤ l ∧ s1 = .int .i64 (v : Nat) ∧ s5 = .int .i64 (i : Nat) ∧ Hid (Below u.heap.size u wr ∧ v = min 33 (so + Pr.cnts (ps.take i)))) (fun _ s _ => l - (intOf s).toNat)
 case atStart => exact ⟨0, so, by omega, rfl, rfl, BW.out, by have := HSO.out; simp [Pr.cnts]; omega⟩
 case round =>
  obtain ⟨i, v, hi, rfl, rfl, hM⟩ := hrel
  clear BW
  have BW := Jfg hM.out.1; have HG := Jfg hM.out.2
  clear hM
  by_cases hlt : i < l
  ·have hlt2 : (i : Int) < (l : Int) := by omega
   have hil : i < ps.length := by rw [HL.out]; exact hlt
   by_cases hv : v ≤ 32
   ·have hv2 : (v : Int) ≤ 32 := by omega
    obtain ⟨gs, os, a2, cap2, q, y2, l2, ha, hq1, hq2, hq3, hqb, hyb, hs2, e0, e1, e2, e3, e4, e5, e6, e7, e8⟩ := (HS.out.on (bel_tr HB.out BW.out)).cells hil
    obtain ⟨gs2, os2, a3, cap3, q3, y3, l3, ha3, hq13, hq23, hq33, hqb3, hyb3, hs3, f0, f1, f2, f3, f4, f5, f6, f7, f8⟩ := HS.out.cells hil
    obtain ⟨rfl, rfl⟩ : gs2 = gs ∧ os2 = os := by rw [ha] at ha3; cases ha3; exact ⟨rfl, rfl⟩
    obtain ⟨rfl, rfl, rfl⟩ : a3 = a2 ∧ l3 = l2 ∧ cap3 = cap2 := by
     have h := (Vk (bel_tr HB.out BW.out) f8).symm.trans e8
     cases h; exact ⟨rfl, rfl, rfl⟩
    clear f0 f1 f2 f3 f4 f5 f6 f7 f8 hs2 ha3 hqb3 hyb3 hq13 hq23 hq33 e0 e1 e2 e3 e4 e5 e6 e7
    subst ha
    obtain ⟨pt, hpt⟩ : ∃ pt, ps[i] = pt := ⟨_, rfl⟩
    have hmem : pt ∈ ps := by rw [← hpt]; exact List.getElem_mem hil
    have hg := HG.out
    have hc := cnts_one ps i hil
    rw [hpt] at hq1 hq2 hq3 hs3 hc
    have CI := fun (u2 : World) (hb : Below w.heap.size w u2) => HIH.out pt hmem a3 cap3 (v + 1) u2 (by omega) hs3 hb
    have hres : min 33 (v + 1 + Pr.cnts pt.ps) = min 33 (so + Pr.cnts (ps.take (i + 1))) := by
     have := Jen pt
     omega
    rw [hq3, hres] at CI
    obtain ⟨z, hz⟩ : ∃ z, z = min 33 (so + Pr.cnts (ps.take (i + 1))) := ⟨_, rfl⟩
    rw [← hz] at CI
    have hvi : (v : Int) + 1 = ((v + 1 : Nat) : Int) := by omega
    obtain ⟨v1, hv1⟩ : ∃ v1, v1 = v + 1 := ⟨_, rfl⟩
    rw [← hv1] at CI hvi
    have hvb : (v1 : Int) ≤ 33 := by omega
    have HCI := Jfg CI; have HZ := Jfg hz; have HLT := Jfg hlt
    have hiw : (i : Int) + 1 ≤ 9223372036854775807 := by have := HLC.out; omega
    clear CI hmem hs3 hyb hqb hq3 hq2 hq1 hlt hpt hil hres hz hg hc hv hv1
    go_wp2_with fail
    clear e8
    refine (HCI.out _ (bel_tr HB.out BW.out)).mono ?_
    rintro e v9 ⟨rfl, z1⟩
    have BW2 := Jfg (bel_tr BW.out z1)
    clear BW z1
    go_wp2_with fail
    go_roundw
    case measure => (have := HLT.out; simp [intOf]; omega)
    case rel =>
     have hlt := HLT.out
     first
      | exact ⟨i + 1, z, by omega, rfl, by go_num, BW2.out, HZ.out⟩
      | ((repeat apply Exists.intro); exact ⟨⟨i + 1, z, by omega, rfl, by go_num, BW2.out, HZ.out⟩, rfl⟩)
   ·have hv2 : ¬ (v : Int) ≤ 32 := by omega
    have HVV := Jfg (show v = V by have h1 := HG.out; have h2 := cnts_ge ps i; have h3 := HV.out; omega)
    clear hil hlt hv
    go_wp2
    go_ret
    exact ⟨by rw [← HVV.out]; rfl, BW.out⟩
  ·have hlt2 : ¬ (i : Int) < (l : Int) := by omega
   have HVV := Jfg (show v = V by have h1 := HG.out; rw [List.take_of_length_le (by rw [HL.out]; omega)] at h1; rw [h1, HV.out])
   clear hlt
   go_wp2
   go_ret
   exact ⟨by rw [← HVV.out]; rfl, BW.out⟩

theorem many_any (w : World) : ∀ (k : Nat) (ps : List Rsn), Pr.cnts ps ≤ k → Jfe w ps
 | 0, ps, h => many_step w ps fun p hp => by have h1 := Pr.cnts_mem hp; have h2 := Pr.cnt_pos p; omega
 | k + 1, ps, h => many_step w ps fun p hp => many_any w k p.ps (by have h1 := Pr.cnts_mem hp; have h2 := Jen p; omega)
end Go.Proofs.YtodlpmepoakdlaaGreat
