import Derived.Deep.Cut
import Derived.Test.YtodlpmepoakdlaaGreatMSmall
import Derived.Test.YtodlpmepoakdlaaGreatMWitn
namespace Go.Proofs.YtodlpmepoakdlaaGreat
set_option maxRecDepth 100000
set_option maxHeartbeats 8000000
open Go.RowKit
set_option linter.unusedSimpArgs false
set_option linter.unusedVariables false
attribute [local go_sem ↓] Go.wp_at_zero Go.wp_at_succ

theorem at_zero {w : World} {g : Nat} {t : TypeId} (h : At w g t #[.int .u64 0, .int .u64 0, .int .u64 0, .int .u64 0]) : At w g t #[.int .u64 (wd 0 0), .int .u64 (wd 0 1), .int .u64 (wd 0 2), .int .u64 (wd 0 3)] := by simpa [wd] using h
def Vh (N : Nat) (qs : List Nat) : Bool := Pr.rises qs && (qs.all fun q => (N - 1) % q == 0) && decide (N < Pr.fprod (N - 1) qs * Pr.fprod (N - 1) qs)
theorem Jbt {l : List Nat} {j : Nat} (h : j < l.length) : l.getD j 0 = l[j] := by simp [h]
theorem fprod_snoc (m q : Nat) (l : List Nat) : Pr.fprod m (l ++ [q]) = Pr.fprod m l * Pr.gp q m := by
 simp [Pr.fprod, Pr.pr_append, Pr.pr_cons, Pr.pr_nil]
theorem Jco (l : List Nat) (i : Nat) (h : i < l.length) : l.take (i + 1) = l.take i ++ [l.getD i 0] := by
 rw [List.take_add_one, List.getElem?_eq_getElem h]
 simp [h]
theorem Jcd (l : List Nat) (i k : Nat) (h : k < i) : (l.take i).getD k 0 = l.getD k 0 := by
 simp [List.getD, List.getElem?_take, h]
def Up (qs : List Nat) (i : Nat) : Prop := ∀ k, k + 1 < i → qs.getD k 0 < qs.getD (k + 1) 0
theorem Up.take {qs : List Nat} {i : Nat} (h : Up qs i) : Pr.rises (qs.take i) = true := Pr.rises_of fun k hk => by
 have : k + 1 < i := by have := List.length_take_le i qs; omega
 rw [Jcd _ _ _ (by omega), Jcd _ _ _ this]
 exact h k this
theorem Up.all {qs : List Nat} (h : Up qs qs.length) : Pr.rises qs = true := by
 have := h.take
 rwa [List.take_length] at this
theorem fp_dvd {M i : Nat} {qs : List Nat} (hp : ∀ q ∈ qs, Pr.Pri q) (h : Up qs i) : Pr.fprod M (qs.take i) ∣ M :=
 Pr.fprod_dvd (Pr.rises_nodup h.take) fun q hq => hp q (List.mem_of_mem_take hq)
def Jau (qs : List Nat) (i : Nat) : Nat := if i = 0 then 0 else qs.getD (i - 1) 0
theorem Up.more {qs : List Nat} {i q : Nat} (h : Up qs i) (hq : qs.getD i 0 = q) (hl : Jau qs i < q) : Up qs (i + 1) := fun k hk => by
 rcases Nat.lt_or_ge (k + 1) i with h1 | h1
 ·exact h k h1
 ·have hk1 : k + 1 = i := by omega
  have : Jau qs i = qs.getD k 0 := by unfold Jau; rw [if_neg (by omega), ← hk1]; rfl
  rw [hk1, hq, ← this]; exact hl
theorem reach_norise {N i q : Nat} {qs : List Nat} (hi : i < qs.length) (hq : qs.getD i 0 = q) (h0 : 0 < q) (hl : q ≤ Jau qs i) : Vh N qs = false := by
 unfold Jau at hl
 rcases Nat.eq_zero_or_pos i with h | h
 ·rw [if_pos h] at hl; omega
 ·rw [if_neg (by omega)] at hl
  obtain ⟨k, rfl⟩ : ∃ k, i = k + 1 := ⟨i - 1, by omega⟩
  simp only [Vh, Pr.rises_no hi rfl hq hl, Bool.false_and]
theorem reach_nodiv {N i q : Nat} {qs : List Nat} (hi : i < qs.length) (hq : qs.getD i 0 = q) (h : ¬ q ∣ N - 1) : Vh N qs = false := by
 rcases hb : Vh N qs with _ | _
 ·rfl
 ·simp only [Vh, Bool.and_eq_true, List.all_eq_true, beq_iff_eq] at hb
  have hm : q ∈ qs := by
   rw [Jbt hi] at hq
   exact hq ▸ List.getElem_mem hi
  exact absurd (Nat.dvd_of_mod_eq_zero (hb.1.2 q hm)) h
theorem reach_yes {N : Nat} {qs : List Nat} (hu : Up qs qs.length) (hd : ∀ j, j < qs.length → qs.getD j 0 ∣ N - 1) : Vh N qs = decide (N < Pr.fprod (N - 1) qs * Pr.fprod (N - 1) qs) := by
 have ha : (qs.all fun q => (N - 1) % q == 0) = true := by
  rw [List.all_eq_true]
  intro q hq
  obtain ⟨j, hj, rfl⟩ := List.getElem_of_mem hq
  have := hd j hj
  rw [Jbt hj] at this
  rw [beq_iff_eq]
  exact Nat.mod_eq_zero_of_dvd this
 simp only [Vh, hu.all, ha, Bool.true_and]
theorem gp_one {q m : Nat} (h2 : 2 ≤ q) (h0 : 0 < m) : Pr.gp q m = 1 ↔ ¬ q ∣ m := by
 constructor
 ·intro h hd
  have := Pr.gp_max h2 h0
  rw [h, Nat.one_mul] at this
  exact this hd
 ·intro h
  have := Pr.gp_of (e := 0) h2 h0 (by simp) (by simpa using h)
  simpa using this

theorem reaches_any (N Y M : Nat) (a : Option Addr) (cap : Nat) (ps : List Pr.Rsn) (hN : N < 2 ^ 256) (hN1 : 1 < N) (hM : M = N - 1) (hp : ∀ p ∈ ps, Pr.Pri p.n)
  (w : World) (hs : Sl w a cap ps) : Calls Tryz.prog 68 #[rv N Y (.slice a ps.length cap), num M] w fun e w' => e = .returned (.bool (Vh N (ps.map Pr.Rsn.n))) ∧ Below w.heap.size w w' := by
 obtain ⟨qs, hqs⟩ : ∃ qs, qs = ps.map Pr.Rsn.n := ⟨_, rfl⟩
 have hqp : ∀ q ∈ qs, Pr.Pri q := fun q hq => by
  rw [hqs] at hq
  obtain ⟨p, h1, rfl⟩ := List.mem_map.mp hq
  exact hp p h1
 have hql : qs.length = ps.length := by rw [hqs]; simp
 have hqg : ∀ i (h : i < ps.length), qs.getD i 0 = (ps[i]).n := fun i h => by rw [hqs]; simp [h]
 obtain ⟨l, hl⟩ : ∃ l, ps.length = l := ⟨_, rfl⟩
 obtain ⟨V, hV⟩ : ∃ V, V = Vh N qs := ⟨_, rfl⟩
 rw [← hqs, ← hV, hl]
 have hlc : l ≤ 9223372036854775807 := by rw [← hl]; exact Nat.le_trans hs.1 hs.2.1
 have HO := Jfg (fun w => Vc 1 (by decide) w)
 have HN := Jfg hN; have HN1 := Jfg hN1; have HM := Jfg hM; have HQP := Jfg hqp; have HS := Jfg hs; have HL := Jfg hl; have HV := Jfg hV; have HLC := Jfg hlc; have HQG := Jfg hqg
 rw [hl] at hql
 have HQL := Jfg hql
 have HM0 := Jfg (show 0 < M by omega)
 have HMB := Jfg (show M < 2 ^ 256 by omega)
 clear hN hN1 hM hp hs hl hV hlc hqp hqs hqg hql
 go_enter Tryz.func68, Tryz.ntmps68
 go_wp2_with fail
 have BW := Jfg (Below.refl w.heap.size w)
 have Em : w.heap.size ≤ w.heap.size + 1 := by have := BW.out.size; omega
 have Drm : w.heap.size ≠ w.heap.size + 1 := by omega
 generalize hW1 : ((w.alloc (.cells #[.int .u64 (wd N 0), .int .u64 (wd N 1), .int .u64 (wd N 2), .int .u64 (wd N 3), .int .u64 (wd Y 0), .int .u64 (wd Y 1), .int .u64 (wd Y 2), .int .u64 (wd Y 3), .slice a l cap] 29)).alloc (.cells (ncs M) 24)) = W1 at *
 have Nr : At W1 (w.heap.size) _ _ := Jb hW1 ((At.at_ _ _ _ _ (by simp)).alloc _)
 have Nm : At W1 (w.heap.size + 1) _ _ := Jb hW1 (At.at_ _ _ _ _ (by simp))
 have NB := gr_of hW1 (gr_alloc (gr_alloc BW.out _) _)
 clear hW1 BW 
 generalize w.heap.size + 1 = gm at *
 obtain ⟨gr, hg0⟩ : ∃ g, g = w.heap.size := ⟨_, rfl⟩
 rw [← hg0] at Nr ⊢
 rw [← hg0] at Drm
 have Er : w.heap.size ≤ gr := by omega
 clear hg0
 have Fr := Jfg Nr
 have Fm := Jfg Nm
 have BW := Jfg NB
 clear NB Nr Nm
 refine (HO.out _).mono ?_
 rintro e v2 ⟨rfl, z2⟩
 have Nr := Jfg (Fr.out.on z2)
 have Nm := Jfg (Fm.out.on z2)
 have NB := Jfg (bel_tr BW.out z2)
 clear BW z2 Fr Fm
 have Fr := Nr
 have Fm := Nm
 have BW := NB
 clear NB Nr Nm
 go_upto_region 3 with fail
 have Ef : w.heap.size ≤ v2.heap.size := by have := BW.out.size; omega
 have Drf : gr ≠ v2.heap.size := by have := Fr.out.lt; omega
 have Dmf : gm ≠ v2.heap.size := by have := Fm.out.lt; omega
 have Ez : w.heap.size ≤ v2.heap.size + 1 := by have := BW.out.size; omega
 have Drz : gr ≠ v2.heap.size + 1 := by have := Fr.out.lt; omega
 have Dmz : gm ≠ v2.heap.size + 1 := by have := Fm.out.lt; omega
 have Dfz : v2.heap.size ≠ v2.heap.size + 1 := by omega
 generalize hW3 : ((v2.alloc (.cells #[.int .u64 (wd 1 0), .int .u64 (wd 1 1), .int .u64 (wd 1 2), .int .u64 (wd 1 3)] 24)).alloc (.cells #[.int .u64 0, .int .u64 0, .int .u64 0, .int .u64 0] 24)) = W3 at *
 have Nf : At W3 (v2.heap.size) _ _ := Jb hW3 ((At.at_ _ _ _ _ (by simp)).alloc _)
 have Nz : At W3 (v2.heap.size + 1) _ _ := Jb hW3 (At.at_ _ _ _ _ (by simp))
 have Nr := Jb hW3 ((Fr.out.alloc _).alloc _)
 have Nm := Jb hW3 ((Fm.out.alloc _).alloc _)
 have NB := gr_of hW3 (gr_alloc (gr_alloc BW.out _) _)
 clear hW3 BW Fr Fm
 generalize v2.heap.size + 1 = gz at *
 generalize v2.heap.size = gf at *
 have Fr := Jfg Nr
 have Fm := Jfg Nm
 have Ff := Jfg Nf
 have Fz := Jfg Nz
 have BW := Jfg NB
 clear NB Nr Nm Nf Nz
 have Lr := Fr.out.lt
 obtain ⟨cr0, cr1, cr2, cr3, cr4, cr5, cr6, cr7, cr8⟩ := Jah Fr.out
 go_wp2_with fail
 clear Lr cr0 cr1 cr2 cr3 cr4 cr5 cr6 cr7 cr8
 go_loopw [16] (fun s wr => ∃ i X Q : Nat, i ≤ l ∧ s = .int .i64 (i : Nat) ∧ Hid (At wr gr 29 #[.int .u64 (wd N 0), .int .u64 (wd N 1), .int .u64 (wd N 2), .int .u64 (wd N 3), .int .u64 (wd Y 0), .int .u64 (wd Y 1), .int .u64 (wd Y 2), .int .u64 (wd Y 3), .slice a l cap] ∧ At wr gm 24 (ncs M) ∧ At wr gf 24 (ncs X) ∧ At wr gz 24 (ncs Q) ∧ Below w.heap.size w wr ∧ (X = Pr.fprod M (qs.take i)) ∧ (Q = Jau qs i) ∧ (Up qs i) ∧ (∀ j, j < i → qs.getD j 0 ∣ M))) (fun s _ => l - (intOf s).toNat)
 case atStart => exact ⟨0, 1, 0, by omega, rfl, Fr.out, Fm.out, Ff.out, at_zero Fz.out, BW.out, rfl, rfl, fun k h => by omega, fun j h => absurd h (Nat.not_lt_zero _)⟩
 case round =>
  obtain ⟨i, X, Q, hi, rfl, hM⟩ := hrel
  clear BW Fr Fm Ff Fz
  have Fr := Jfg hM.out.1
  have Fm := Jfg hM.out.2.1
  have Ff := Jfg hM.out.2.2.1
  have Fz := Jfg hM.out.2.2.2.1
  have BW := Jfg hM.out.2.2.2.2.1
  have HX := Jfg hM.out.2.2.2.2.2.1
  have HLQ := Jfg hM.out.2.2.2.2.2.2.1
  have HU := Jfg hM.out.2.2.2.2.2.2.2.1
  have HD := Jfg hM.out.2.2.2.2.2.2.2.2
  clear hM
  have hxd : X ∣ M := by rw [HX.out]; exact fp_dvd HQP.out HU.out
  have hxm : X ≤ M := Nat.le_of_dvd HM0.out hxd
  have HXD := Jfg hxd; have HXM := Jfg hxm
  clear hxd hxm
  by_cases hlt : i < l
  ·have hlt2 : (i : Int) < (l : Int) := by omega
   have hil : i < ps.length := by rw [HL.out]; exact hlt
   obtain ⟨gs, os, a2, cap2, q, y2, l2, ha, hq1, hq2, hq3, hqb, hyb, hs2, e0, e1, e2, e3, e4, e5, e6, e7, e8⟩ := (HS.out.on BW.out).cells hil
   subst ha
   have hqq : qs.getD i 0 = q := by rw [HQG.out i hil, hq1]
   have hiq : i < qs.length := by rw [HQL.out]; exact hlt
   have hpq : Pr.Pri q := HQP.out q (by rw [Jbt hiq] at hqq; exact hqq ▸ List.getElem_mem hiq)
   have CP := powin_any M q HM0.out HMB.out hpq.1 hqb
   obtain ⟨G, hG⟩ : ∃ G, G = Pr.gp q M := ⟨_, rfl⟩
   rw [← hG] at CP
   have hGM : G ≤ M := by rw [hG]; exact Nat.le_of_dvd HM0.out (Pr.gp_dvd q M)
   have hQ : Q < 2 ^ 256 := by
    rw [HLQ.out]; unfold Jau
    split
    ·decide
    ·have h1 := HD.out (i - 1) (by omega)
     exact Nat.lt_of_le_of_lt (Nat.le_of_dvd HM0.out h1) HMB.out
   have HCP := Jfg CP; have HG := Jfg hG; have HGM := Jfg hGM; have HQQ := Jfg hqq; have HIQ := Jfg hiq; have HPQ := Jfg hpq; have HQB := Jfg hqb; have HLT := Jfg hlt
   have HK := Jfg (fun w => Uo q Q hqb hQ w); have HEG := Jfg (eqN G 1 (Nat.lt_of_le_of_lt hGM HMB.out) (by decide))
   clear CP hG hGM hqq hiq hpq hqb hlt hyb hs2 hq3 hq2 hq1 hil hQ
   go_upto_region 6 with fail
   clear e0 e1 e2 e3 e4 e5 e6 e7 e8
   have Drp : gr ≠ wr.heap.size := by have := Fr.out.lt; omega
   have Dmp : gm ≠ wr.heap.size := by have := Fm.out.lt; omega
   have Dfp : gf ≠ wr.heap.size := by have := Ff.out.lt; omega
   have Dzp : gz ≠ wr.heap.size := by have := Fz.out.lt; omega
   generalize hW4 : (wr.alloc (.cells #[.int .u64 (wd q 0), .int .u64 (wd q 1), .int .u64 (wd q 2), .int .u64 (wd q 3), .int .u64 (wd y2 0), .int .u64 (wd y2 1), .int .u64 (wd y2 2), .int .u64 (wd y2 3), .slice a2 l2 cap2] 29)) = W4 at *
   have Np : At W4 (wr.heap.size) _ _ := Jb hW4 (At.at_ _ _ _ _ (by simp))
   have Nr := Jb hW4 (Fr.out.alloc _)
   have Nm := Jb hW4 (Fm.out.alloc _)
   have Nf := Jb hW4 (Ff.out.alloc _)
   have Nz := Jb hW4 (Fz.out.alloc _)
   have NB := gr_of hW4 (gr_alloc BW.out _)
   clear hW4 BW Fr Fm Ff Fz
   generalize wr.heap.size = gp at *
   have Fr := Jfg Nr
   have Fm := Jfg Nm
   have Ff := Jfg Nf
   have Fz := Jfg Nz
   have Fp := Jfg Np
   have BW := Jfg NB
   clear NB Nr Nm Nf Nz Np
   have Lm := Fm.out.lt
   have cm0 := Fm.out.c0; have cm1 := Fm.out.c1; have cm2 := Fm.out.c2; have cm3 := Fm.out.c3
   have Lp := Fp.out.lt
   obtain ⟨cp0, cp1, cp2, cp3, cp4, cp5, cp6, cp7, cp8⟩ := Jah Fp.out
   go_wp2_with fail
   clear Lm cm0 cm1 cm2 cm3 Lp cp0 cp1 cp2 cp3 cp4 cp5 cp6 cp7 cp8
   refine (HCP.out _).mono ?_
   rintro e v5 ⟨rfl, z5⟩
   have Nr := Jfg (Fr.out.on z5)
   have Nm := Jfg (Fm.out.on z5)
   have Nf := Jfg (Ff.out.on z5)
   have Nz := Jfg (Fz.out.on z5)
   have Np := Jfg (Fp.out.on z5)
   have NB := Jfg (bel_tr BW.out z5)
   clear BW z5 Fr Fm Ff Fz Fp
   have Fr := Nr
   have Fm := Nm
   have Ff := Nf
   have Fz := Nz
   have Fp := Np
   have BW := NB
   clear NB Nr Nm Nf Nz Np
   go_upto_region 7 with fail
   have Dre : gr ≠ v5.heap.size := by have := Fr.out.lt; omega
   have Dme : gm ≠ v5.heap.size := by have := Fm.out.lt; omega
   have Dfe : gf ≠ v5.heap.size := by have := Ff.out.lt; omega
   have Dze : gz ≠ v5.heap.size := by have := Fz.out.lt; omega
   generalize hW6 : (v5.alloc (.cells (ncs G) 24)) = W6 at *
   have Ne : At W6 (v5.heap.size) _ _ := Jb hW6 (At.at_ _ _ _ _ (by simp))
   have Nr := Jb hW6 (Fr.out.alloc _)
   have Nm := Jb hW6 (Fm.out.alloc _)
   have Nf := Jb hW6 (Ff.out.alloc _)
   have Nz := Jb hW6 (Fz.out.alloc _)
   have Np := Jb hW6 (Fp.out.alloc _)
   have NB := gr_of hW6 (gr_alloc BW.out _)
   clear hW6 BW Fr Fm Ff Fz Fp
   generalize v5.heap.size = ge at *
   have Fr := Jfg Nr
   have Fm := Jfg Nm
   have Ff := Jfg Nf
   have Fz := Jfg Nz
   have Fp := Jfg Np
   have Fe := Jfg Ne
   have BW := Jfg NB
   clear NB Nr Nm Nf Nz Np Ne
   by_cases hk : Q < q
   ·have hk2 := Xn hk
    have HQL2 := Jfg hk; have HK2 := Jfg (show ¬ Uu q Q ≤ 0 from hk2)
    clear hk hk2
    generalize Uu q Q = k at *
    by_cases hg : G = 1
    ·have hE := HEG.out
     rw [decide_eq_true hg] at hE
     have hv3 : V = false := by rw [HV.out]; exact reach_nodiv HIQ.out HQQ.out (by rw [← HM.out]; exact (gp_one HPQ.out.1 HM0.out).mp (by rw [← HG.out]; exact hg))
     have HV3 := Jfg hv3; have HE := Jfg hE
     clear hg hv3 hE
     try simp only [List.append_eq, List.cons_append, List.nil_append]
     refine wp_region_noPanic ?_
     refine wp_region_held_drew (S := fun w' => At w' gp 29 #[.int .u64 (wd q 0), .int .u64 (wd q 1), .int .u64 (wd q 2), .int .u64 (wd q 3), .int .u64 (wd y2 0), .int .u64 (wd y2 1), .int .u64 (wd y2 2), .int .u64 (wd y2 3), .slice a2 l2 cap2] ∧ At w' gz 24 (ncs Q) ∧ At w' ge 24 (ncs G)) (by kernel_rfl) (⟨Fp.out.drew, Fz.out.drew, Fe.out.drew⟩) (fun _ => ?_)
     refine Jo (fuel := 0) (⟨0, 24, [], Kind.val (.pointer (some ⟨gp, 0, none⟩)), true⟩ :: ⟨1, 25, [0], Kind.val (num q), true⟩ :: ⟨2, 26, [1], Kind.val (num Q), true⟩ :: ⟨3, 27, [1, 2], Kind.val (.int .i64 k), false⟩ :: ⟨4, 28, [3], Kind.val (.bool false), true⟩ :: ⟨5, 29, [4], Kind.val (.bool false), true⟩ :: ⟨6, 30, [5], Kind.val (num G), true⟩ :: ⟨7, 31, [5, 6], Kind.val (.agg #[.int .u64 (wd 1 0), .int .u64 (wd 1 1), .int .u64 (wd 1 2), .int .u64 (wd 1 3)]), false⟩ :: ⟨8, 32, [5, 6, 7], Kind.val (.bool true), true⟩ :: ⟨9, 33, [5, 8], Kind.val (.bool true), true⟩ :: []) _ _ W6 _ ?_ ?_ ?_ ?_ ?_ ?_ ?_ ?_ ?_ ?_ ?_
     ·rfl
     ·kernel_rfl
     ·exact of_decide_eq_true (by kernel_rfl)
     ·(repeat refine all_cons ⟨_, by rfl, by rfl⟩ ?_); exact Je
     ·exact fun _ hb => ⟨Fp.out.on hb, Fz.out.on hb, Fe.out.on hb⟩
     ·exact (Below.refl _ _).drew
     ·kernel_rfl
     ·exact fun _ _ _ _ _ h => h
     ·(repeat (refine all_cons ?_ ?_; rotate_left)); exact Je
      ·exact Kg _ _ _ _ _ _ _ _ _ (by rfl) (by rfl) (Jc) (ko 8) (fun ρ w hx _ => Wy _ _ _ _ _ _ ρ w gp hx)
      ·exact Kg _ _ _ _ _ _ _ _ _ (by rfl) (by rfl) (Jc) (kc 0 24) (fun ρ w hx hs => Jas _ _ _ _ _ _ ρ w gp _ _ _ _ _ _ _ _ _ hx (hs.1))
      ·exact Jm _ _ _ _ _ _ gz _ _ _ _ (by rfl) (by rfl) (Jc) (ko 6) (fun _ hs => hs.2.1)
      ·exact Ji _ (by rfl)
      ·exact Jv _ _ _ _ _ _ _ _ _ _ _ _ _ (by rfl) (by rfl) (Jc) (kc 3 27) (Jd _) ((fun ρ w hx hy => by simp only [execOp, hx, hy]; simp [go_sem, HK2.out]))
      ·exact Kc _ _ _ _ _ _ _ (by rfl) (by rfl) (Jc) (kc 4 28)
      ·exact Jm _ _ _ _ _ _ ge _ _ _ _ (by rfl) (by rfl) (wc 5 29 5 (kc 5 29)) (ko 9) (fun _ hs => hs.2.2)
      ·exact Ji _ (by rfl)
      ·exact Jv _ _ _ _ _ _ _ _ _ _ _ _ _ (by rfl) (by rfl) (wc 5 29 5 (kc 5 29)) (kc 6 30) (kc 7 31) (Xm true _ _ _ _ _ _ _ _ _ _ _ _ _ _ _ (HE.out))
      ·exact Ke _ _ _ _ _ _ _ _ _ _ _ _ (by rfl) (by rfl) (Jc) (kc 5 29) (Jd _) (kc 8 32) (by rfl)
     ·(repeat (refine all_cons ?_ ?_; rotate_left)); exact Je
      all_goals try exact sA
      ·exact fun _ => Jh _ 13 _ _ [.tmp 25, .tmp 26] _ _ _ _ _ _ _ (by rfl) Tryz.func13 (by kernel_rfl) (by rfl) (by rfl) (Jc) (.cons (kc 1 25) (.cons (kc 2 26) .nil)) (HK.out)
      ·exact fun _ => Jh _ 12 _ _ [.const (.int .u64 1)] _ _ _ _ _ _ _ (by rfl) Tryz.func12 (by kernel_rfl) (by rfl) (by rfl) (wc 5 29 5 (kc 5 29)) (.cons (Jd _) .nil) (HO.out)
     intro vs y7 hc
     obtain ⟨vv0, vv1, vv2, vv3, vv4, vv5, vv6, vv7, vv8, vv9, rfl⟩ := Jel vs hc.lv
     have qq0 := okv hc 0
     have qq1 := okv hc 1
     have qq2 := okv hc 2
     have qq3 := okv hc 3
     have qq4 := okv hc 4
     have qq5 := okv hc 5
     have qq6 := okv hc 6
     have qq7 := okv hc 7
     have qq8 := okv hc 8
     have qq9 := okv hc 9
     have BZ := hc.bel
     clear hc
     have Nr := Fr.out.on BZ
     have Nm := Fm.out.on BZ
     have Nf := Ff.out.on BZ
     have Nz := Fz.out.on BZ
     have Np := Fp.out.on BZ
     have Ne := Fe.out.on BZ
     have NB := bel_tr BW.out BZ
     clear BW BZ Fr Fm Ff Fz Fp Fe
     subst qq0 qq1 qq2 qq3 qq4 qq5 qq6 qq7 qq8 qq9
     simp only [List.map_cons, List.map_nil, over, Act.put, List.setIfInBounds_toArray, List.set_cons_zero, List.set_cons_succ]
     refine wpAnyH_done (by kernel_rfl) ?_ _
     refine NoPanic.normal ?_
     have Fr := Jfg Nr
     have Fm := Jfg Nm
     have Ff := Jfg Nf
     have Fz := Jfg Nz
     have Fp := Jfg Np
     have Fe := Jfg Ne
     have BW := Jfg NB
     clear NB Nr Nm Nf Nz Np Ne
     go_wp2
     go_ret
     exact ⟨by rw [HV3.out]; rfl, BW.out⟩
    ·have hE := HEG.out
     rw [decide_eq_false hg] at hE
     have hqd : q ∣ M := Classical.byContradiction fun hc => hg (by rw [HG.out]; exact (gp_one HPQ.out.1 HM0.out).mpr hc)
     have hup : Up qs (i + 1) := HU.out.more HQQ.out (by rw [← HLQ.out]; exact HQL2.out)
     have hfx : X * G = Pr.fprod M (qs.take (i + 1)) := by rw [Jco _ _ HIQ.out, fprod_snoc, HQQ.out, ← HG.out, ← HX.out]
     have hle : X * G ≤ M := by rw [hfx]; exact Nat.le_of_dvd HM0.out (fp_dvd HQP.out hup)
     have hmb := HMB.out
     obtain ⟨Lo, Hi, hLo, hHi, hm, CM⟩ := Xc X G (Nat.lt_of_le_of_lt HXM.out hmb) (Nat.lt_of_le_of_lt HGM.out hmb)
     have hH0 : Hi = 0 := by omega
     subst hH0
     have hLo2 : Lo = Pr.fprod M (qs.take (i + 1)) := by rw [← hfx]; omega
     have HE := Jfg hE; have HQD := Jfg hqd; have HUP := Jfg hup; have HLO := Jfg hLo2; have HCM := Jfg CM
     clear hg hE hqd hup hfx hle hmb hm hHi hLo CM hLo2
     try simp only [List.append_eq, List.cons_append, List.nil_append]
     refine wp_region_noPanic ?_
     refine wp_region_held_drew (S := fun w' => At w' gp 29 #[.int .u64 (wd q 0), .int .u64 (wd q 1), .int .u64 (wd q 2), .int .u64 (wd q 3), .int .u64 (wd y2 0), .int .u64 (wd y2 1), .int .u64 (wd y2 2), .int .u64 (wd y2 3), .slice a2 l2 cap2] ∧ At w' gz 24 (ncs Q) ∧ At w' ge 24 (ncs G)) (by kernel_rfl) (⟨Fp.out.drew, Fz.out.drew, Fe.out.drew⟩) (fun _ => ?_)
     refine Jo (fuel := 0) (⟨0, 24, [], Kind.val (.pointer (some ⟨gp, 0, none⟩)), true⟩ :: ⟨1, 25, [0], Kind.val (num q), true⟩ :: ⟨2, 26, [1], Kind.val (num Q), true⟩ :: ⟨3, 27, [1, 2], Kind.val (.int .i64 k), false⟩ :: ⟨4, 28, [3], Kind.val (.bool false), true⟩ :: ⟨5, 29, [4], Kind.val (.bool false), true⟩ :: ⟨6, 30, [5], Kind.val (num G), true⟩ :: ⟨7, 31, [5, 6], Kind.val (.agg #[.int .u64 (wd 1 0), .int .u64 (wd 1 1), .int .u64 (wd 1 2), .int .u64 (wd 1 3)]), false⟩ :: ⟨8, 32, [5, 6, 7], Kind.val (.bool false), true⟩ :: ⟨9, 33, [5, 8], Kind.val (.bool false), true⟩ :: []) _ _ W6 _ ?_ ?_ ?_ ?_ ?_ ?_ ?_ ?_ ?_ ?_ ?_
     ·rfl
     ·kernel_rfl
     ·exact of_decide_eq_true (by kernel_rfl)
     ·(repeat refine all_cons ⟨_, by rfl, by rfl⟩ ?_); exact Je
     ·exact fun _ hb => ⟨Fp.out.on hb, Fz.out.on hb, Fe.out.on hb⟩
     ·exact (Below.refl _ _).drew
     ·kernel_rfl
     ·exact fun _ _ _ _ _ h => h
     ·(repeat (refine all_cons ?_ ?_; rotate_left)); exact Je
      ·exact Kg _ _ _ _ _ _ _ _ _ (by rfl) (by rfl) (Jc) (ko 8) (fun ρ w hx _ => Wy _ _ _ _ _ _ ρ w gp hx)
      ·exact Kg _ _ _ _ _ _ _ _ _ (by rfl) (by rfl) (Jc) (kc 0 24) (fun ρ w hx hs => Jas _ _ _ _ _ _ ρ w gp _ _ _ _ _ _ _ _ _ hx (hs.1))
      ·exact Jm _ _ _ _ _ _ gz _ _ _ _ (by rfl) (by rfl) (Jc) (ko 6) (fun _ hs => hs.2.1)
      ·exact Ji _ (by rfl)
      ·exact Jv _ _ _ _ _ _ _ _ _ _ _ _ _ (by rfl) (by rfl) (Jc) (kc 3 27) (Jd _) ((fun ρ w hx hy => by simp only [execOp, hx, hy]; simp [go_sem, HK2.out]))
      ·exact Kc _ _ _ _ _ _ _ (by rfl) (by rfl) (Jc) (kc 4 28)
      ·exact Jm _ _ _ _ _ _ ge _ _ _ _ (by rfl) (by rfl) (wc 5 29 5 (kc 5 29)) (ko 9) (fun _ hs => hs.2.2)
      ·exact Ji _ (by rfl)
      ·exact Jv _ _ _ _ _ _ _ _ _ _ _ _ _ (by rfl) (by rfl) (wc 5 29 5 (kc 5 29)) (kc 6 30) (kc 7 31) (Xm false _ _ _ _ _ _ _ _ _ _ _ _ _ _ _ (HE.out))
      ·exact Ke _ _ _ _ _ _ _ _ _ _ _ _ (by rfl) (by rfl) (Jc) (kc 5 29) (Jd _) (kc 8 32) (by rfl)
     ·(repeat (refine all_cons ?_ ?_; rotate_left)); exact Je
      all_goals try exact sA
      ·exact fun _ => Jh _ 13 _ _ [.tmp 25, .tmp 26] _ _ _ _ _ _ _ (by rfl) Tryz.func13 (by kernel_rfl) (by rfl) (by rfl) (Jc) (.cons (kc 1 25) (.cons (kc 2 26) .nil)) (HK.out)
      ·exact fun _ => Jh _ 12 _ _ [.const (.int .u64 1)] _ _ _ _ _ _ _ (by rfl) Tryz.func12 (by kernel_rfl) (by rfl) (by rfl) (wc 5 29 5 (kc 5 29)) (.cons (Jd _) .nil) (HO.out)
     intro vs y7 hc
     obtain ⟨vv0, vv1, vv2, vv3, vv4, vv5, vv6, vv7, vv8, vv9, rfl⟩ := Jel vs hc.lv
     have qq0 := okv hc 0
     have qq1 := okv hc 1
     have qq2 := okv hc 2
     have qq3 := okv hc 3
     have qq4 := okv hc 4
     have qq5 := okv hc 5
     have qq6 := okv hc 6
     have qq7 := okv hc 7
     have qq8 := okv hc 8
     have qq9 := okv hc 9
     have BZ := hc.bel
     clear hc
     have Nr := Fr.out.on BZ
     have Nm := Fm.out.on BZ
     have Nf := Ff.out.on BZ
     have Nz := Fz.out.on BZ
     have Np := Fp.out.on BZ
     have Ne := Fe.out.on BZ
     have NB := bel_tr BW.out BZ
     clear BW BZ Fr Fm Ff Fz Fp Fe
     subst qq0 qq1 qq2 qq3 qq4 qq5 qq6 qq7 qq8 qq9
     simp only [List.map_cons, List.map_nil, over, Act.put, List.setIfInBounds_toArray, List.set_cons_zero, List.set_cons_succ]
     refine wpAnyH_done (by kernel_rfl) ?_ _
     refine NoPanic.normal ?_
     have Fr := Jfg Nr
     have Fm := Jfg Nm
     have Ff := Jfg Nf
     have Fz := Jfg Nz
     have Fp := Jfg Np
     have Fe := Jfg Ne
     have BW := Jfg NB
     clear NB Nr Nm Nf Nz Np Ne
     have Lf := Ff.out.lt
     have cf0 := Ff.out.c0; have cf1 := Ff.out.c1; have cf2 := Ff.out.c2; have cf3 := Ff.out.c3
     have Le := Fe.out.lt
     have ce0 := Fe.out.c0; have ce1 := Fe.out.c1; have ce2 := Fe.out.c2; have ce3 := Fe.out.c3
     go_wp2_with fail
     clear Lf cf0 cf1 cf2 cf3 Le ce0 ce1 ce2 ce3
     refine (HCM.out _).mono ?_
     rintro e v8 ⟨rfl, z8⟩
     have Nr := Jfg (Fr.out.on z8)
     have Nm := Jfg (Fm.out.on z8)
     have Nf := Jfg (Ff.out.on z8)
     have Nz := Jfg (Fz.out.on z8)
     have Np := Jfg (Fp.out.on z8)
     have Ne := Jfg (Fe.out.on z8)
     have NB := Jfg (bel_tr BW.out z8)
     clear BW z8 Fr Fm Ff Fz Fp Fe
     have Fr := Nr
     have Fm := Nm
     have Ff := Nf
     have Fz := Nz
     have Fp := Np
     have Fe := Ne
     have BW := NB
     clear NB Nr Nm Nf Nz Np Ne
     have Lf := Ff.out.lt
     have cf0 := Ff.out.c0; have cf1 := Ff.out.c1; have cf2 := Ff.out.c2; have cf3 := Ff.out.c3
     obtain ⟨ff0, ff1, ff2, ff3⟩ := Vb Ff.out
     have Lp := Fp.out.lt
     obtain ⟨cp0, cp1, cp2, cp3, cp4, cp5, cp6, cp7, cp8⟩ := Jah Fp.out
     have Lz := Fz.out.lt
     have cz0 := Fz.out.c0; have cz1 := Fz.out.c1; have cz2 := Fz.out.c2; have cz3 := Fz.out.c3
     obtain ⟨fz0, fz1, fz2, fz3⟩ := Vb Fz.out
     have hiw : (i : Int) + 1 ≤ 9223372036854775807 := by have := HLT.out; have := HLC.out; omega
     go_wp2_with fail
     clear Lf cf0 cf1 cf2 cf3 ff0 ff1 ff2 ff3 Lp cp0 cp1 cp2 cp3 cp4 cp5 cp6 cp7 cp8 Lz cz0 cz1 cz2 cz3 fz0 fz1 fz2 fz3
     generalize hW9 : ((((((((v8.setCell ⟨gf, 0, none⟩ (.int .u64 (wd Lo 0))).setCell ⟨gf, 1, none⟩ (.int .u64 (wd Lo 1))).setCell ⟨gf, 2, none⟩ (.int .u64 (wd Lo 2))).setCell ⟨gf, 3, none⟩ (.int .u64 (wd Lo 3))).setCell ⟨gz, 0, none⟩ (.int .u64 (wd q 0))).setCell ⟨gz, 1, none⟩ (.int .u64 (wd q 1))).setCell ⟨gz, 2, none⟩ (.int .u64 (wd q 2))).setCell ⟨gz, 3, none⟩ (.int .u64 (wd q 3))) = W9 at *
     have Nr := Jb hW9 (((Fr.out).far4 Drf _ _ _ _).far4 Drz _ _ _ _)
     have Nm := Jb hW9 (((Fm.out).far4 Dmf _ _ _ _).far4 Dmz _ _ _ _)
     have Nf := Jb hW9 (((Ff.out).put4 _ _ _ _).far4 Dfz _ _ _ _)
     have Nz := Jb hW9 (((Fz.out).far4 Dfz.symm _ _ _ _).put4 _ _ _ _)
     have Np := Jb hW9 (((Fp.out).far4 Dfp.symm _ _ _ _).far4 Dzp.symm _ _ _ _)
     have Ne := Jb hW9 (((Fe.out).far4 Dfe.symm _ _ _ _).far4 Dze.symm _ _ _ _)
     have NB := gr_of hW9 (((((((((BW.out).setCell Ef _).setCell Ef _).setCell Ef _).setCell Ef _).setCell Ez _).setCell Ez _).setCell Ez _).setCell Ez _)
     clear hW9 BW Fr Fm Ff Fz Fp Fe
     have Fr := Jfg Nr
     have Fm := Jfg Nm
     have Ff := Jfg Nf
     have Fz := Jfg Nz
     have Fp := Jfg Np
     have Fe := Jfg Ne
     have BW := Jfg NB
     clear NB Nr Nm Nf Nz Np Ne
     go_roundw
     case measure => (have := HLT.out; simp [intOf]; omega)
     case rel =>
      have hlt := HLT.out
      refine ⟨i + 1, Lo, q, by omega, by go_num, Fr.out, Fm.out, Ff.out, Fz.out, BW.out, HLO.out, by unfold Jau; rw [if_neg (by omega)]; exact HQQ.out.symm, HUP.out, ?_⟩
      intro j hj
      rcases Nat.lt_or_ge j i with h | h
      ·exact HD.out j h
      ·obtain rfl : j = i := by omega
       rw [HQQ.out]; exact HQD.out
   ·have hk2 := Xw (Nat.le_of_not_lt hk)
    have hv3 : V = false := by rw [HV.out]; exact reach_norise HIQ.out HQQ.out (by have := HPQ.out.1; omega) (by rw [← HLQ.out]; omega)
    have HV3 := Jfg hv3; have HK2 := Jfg hk2
    clear hk hv3 hk2
    generalize Uu q Q = k at *
    try simp only [List.append_eq, List.cons_append, List.nil_append]
    refine wp_region_noPanic ?_
    refine wp_region_held_drew (S := fun w' => At w' gp 29 #[.int .u64 (wd q 0), .int .u64 (wd q 1), .int .u64 (wd q 2), .int .u64 (wd q 3), .int .u64 (wd y2 0), .int .u64 (wd y2 1), .int .u64 (wd y2 2), .int .u64 (wd y2 3), .slice a2 l2 cap2] ∧ At w' gz 24 (ncs Q) ∧ At w' ge 24 (ncs G)) (by kernel_rfl) (⟨Fp.out.drew, Fz.out.drew, Fe.out.drew⟩) (fun _ => ?_)
    refine Jo (fuel := 0) (⟨0, 24, [], Kind.val (.pointer (some ⟨gp, 0, none⟩)), true⟩ :: ⟨1, 25, [0], Kind.val (num q), true⟩ :: ⟨2, 26, [1], Kind.val (num Q), true⟩ :: ⟨3, 27, [1, 2], Kind.val (.int .i64 k), false⟩ :: ⟨4, 28, [3], Kind.val (.bool true), true⟩ :: ⟨5, 29, [4], Kind.val (.bool true), true⟩ :: ⟨6, 30, [5], Kind.val (undef), true⟩ :: ⟨7, 31, [5, 6], Kind.val (undef), true⟩ :: ⟨8, 32, [5, 6, 7], Kind.val (undef), true⟩ :: ⟨9, 33, [5, 8], Kind.val (.bool true), true⟩ :: []) _ _ W6 _ ?_ ?_ ?_ ?_ ?_ ?_ ?_ ?_ ?_ ?_ ?_
    ·rfl
    ·kernel_rfl
    ·exact of_decide_eq_true (by kernel_rfl)
    ·(repeat refine all_cons ⟨_, by rfl, by rfl⟩ ?_); exact Je
    ·exact fun _ hb => ⟨Fp.out.on hb, Fz.out.on hb, Fe.out.on hb⟩
    ·exact (Below.refl _ _).drew
    ·kernel_rfl
    ·exact fun _ _ _ _ _ h => h
    ·(repeat (refine all_cons ?_ ?_; rotate_left)); exact Je
     ·exact Kg _ _ _ _ _ _ _ _ _ (by rfl) (by rfl) (Jc) (ko 8) (fun ρ w hx _ => Wy _ _ _ _ _ _ ρ w gp hx)
     ·exact Kg _ _ _ _ _ _ _ _ _ (by rfl) (by rfl) (Jc) (kc 0 24) (fun ρ w hx hs => Jas _ _ _ _ _ _ ρ w gp _ _ _ _ _ _ _ _ _ hx (hs.1))
     ·exact Jm _ _ _ _ _ _ gz _ _ _ _ (by rfl) (by rfl) (Jc) (ko 6) (fun _ hs => hs.2.1)
     ·exact Ji _ (by rfl)
     ·exact Jv _ _ _ _ _ _ _ _ _ _ _ _ _ (by rfl) (by rfl) (Jc) (kc 3 27) (Jd _) ((fun ρ w hx hy => by simp only [execOp, hx, hy]; simp [go_sem, HK2.out]))
     ·exact Kc _ _ _ _ _ _ _ (by rfl) (by rfl) (Jc) (kc 4 28)
     ·exact Jf _ _ _ _ _ _ (by rfl) (by rfl) (wc 5 29 5 (kc 5 29))
     ·exact Jf _ _ _ _ _ _ (by rfl) (by rfl) (wc 5 29 5 (kc 5 29))
     ·exact Jf _ _ _ _ _ _ (by rfl) (by rfl) (wc 5 29 5 (kc 5 29))
     ·exact Ke _ _ _ _ _ _ _ _ _ _ _ _ (by rfl) (by rfl) (Jc) (kc 5 29) (Jd _) (kc 8 32) (by rfl)
    ·(repeat (refine all_cons ?_ ?_; rotate_left)); exact Je
     all_goals try exact sA
     ·exact fun _ => Jh _ 13 _ _ [.tmp 25, .tmp 26] _ _ _ _ _ _ _ (by rfl) Tryz.func13 (by kernel_rfl) (by rfl) (by rfl) (Jc) (.cons (kc 1 25) (.cons (kc 2 26) .nil)) (HK.out)
    intro vs y7 hc
    obtain ⟨vv0, vv1, vv2, vv3, vv4, vv5, vv6, vv7, vv8, vv9, rfl⟩ := Jel vs hc.lv
    have qq0 := okv hc 0
    have qq1 := okv hc 1
    have qq2 := okv hc 2
    have qq3 := okv hc 3
    have qq4 := okv hc 4
    have qq5 := okv hc 5
    have qq6 := okv hc 6
    have qq7 := okv hc 7
    have qq8 := okv hc 8
    have qq9 := okv hc 9
    have BZ := hc.bel
    clear hc
    have Nr := Fr.out.on BZ
    have Nm := Fm.out.on BZ
    have Nf := Ff.out.on BZ
    have Nz := Fz.out.on BZ
    have Np := Fp.out.on BZ
    have Ne := Fe.out.on BZ
    have NB := bel_tr BW.out BZ
    clear BW BZ Fr Fm Ff Fz Fp Fe
    subst qq0 qq1 qq2 qq3 qq4 qq5 qq6 qq7 qq8 qq9
    simp only [List.map_cons, List.map_nil, over, Act.put, List.setIfInBounds_toArray, List.set_cons_zero, List.set_cons_succ]
    refine wpAnyH_done (by kernel_rfl) ?_ _
    refine NoPanic.normal ?_
    have Fr := Jfg Nr
    have Fm := Jfg Nm
    have Ff := Jfg Nf
    have Fz := Jfg Nz
    have Fp := Jfg Np
    have Fe := Jfg Ne
    have BW := Jfg NB
    clear NB Nr Nm Nf Nz Np Ne
    go_wp2
    go_ret
    exact ⟨by rw [HV3.out]; rfl, BW.out⟩
  ·have hlt2 : ¬ (i : Int) < (l : Int) := by omega
   have hii : l = i := by omega
   subst hii
   have hfx : X = Pr.fprod (N - 1) qs := by rw [HX.out, ← HQL.out, List.take_length, HM.out]
   have hvv : V = decide (N < X * X) := by rw [HV.out, reach_yes (by rw [HQL.out]; exact HU.out) (by rw [HQL.out, ← HM.out]; exact HD.out), ← hfx]
   have hX : X < 2 ^ 256 := Nat.lt_of_le_of_lt HXM.out HMB.out
   obtain ⟨Lo, Hi, hLo, hHi, hm, CM⟩ := Xc X X hX hX
   have HCM := Jfg CM; have HVV := Jfg hvv; have HMM := Jfg hm; have HLO := Jfg hLo; have HHI := Jfg hHi
   have eqz := eqZ Hi hHi
   have EQZ := Jfg eqz
   clear CM hvv hm hX hfx hlt hi hLo hHi eqz
   have Lf := Ff.out.lt
   have cf0 := Ff.out.c0; have cf1 := Ff.out.c1; have cf2 := Ff.out.c2; have cf3 := Ff.out.c3
   go_wp2_with fail
   clear Lf cf0 cf1 cf2 cf3
   refine (HCM.out _).mono ?_
   rintro e v4 ⟨rfl, z4⟩
   have Nr := Jfg (Fr.out.on z4)
   have Nm := Jfg (Fm.out.on z4)
   have Nf := Jfg (Ff.out.on z4)
   have Nz := Jfg (Fz.out.on z4)
   have NB := Jfg (bel_tr BW.out z4)
   clear BW z4 Fr Fm Ff Fz
   have Fr := Nr
   have Fm := Nm
   have Ff := Nf
   have Fz := Nz
   have BW := NB
   clear NB Nr Nm Nf Nz
   go_upto_region 13 with fail
   have Dro : gr ≠ v4.heap.size := by have := Fr.out.lt; omega
   have Dmo : gm ≠ v4.heap.size := by have := Fm.out.lt; omega
   have Dfo : gf ≠ v4.heap.size := by have := Ff.out.lt; omega
   have Dzo : gz ≠ v4.heap.size := by have := Fz.out.lt; omega
   have Drh : gr ≠ v4.heap.size + 1 := by have := Fr.out.lt; omega
   have Dmh : gm ≠ v4.heap.size + 1 := by have := Fm.out.lt; omega
   have Dfh : gf ≠ v4.heap.size + 1 := by have := Ff.out.lt; omega
   have Dzh : gz ≠ v4.heap.size + 1 := by have := Fz.out.lt; omega
   generalize hW5 : ((v4.alloc (.cells (ncs Lo) 24)).alloc (.cells (ncs Hi) 24)) = W5 at *
   have No : At W5 (v4.heap.size) _ _ := Jb hW5 ((At.at_ _ _ _ _ (by simp)).alloc _)
   have Nh : At W5 (v4.heap.size + 1) _ _ := Jb hW5 (At.at_ _ _ _ _ (by simp))
   have Nr := Jb hW5 ((Fr.out.alloc _).alloc _)
   have Nm := Jb hW5 ((Fm.out.alloc _).alloc _)
   have Nf := Jb hW5 ((Ff.out.alloc _).alloc _)
   have Nz := Jb hW5 ((Fz.out.alloc _).alloc _)
   have NB := gr_of hW5 (gr_alloc (gr_alloc BW.out _) _)
   clear hW5 BW Fr Fm Ff Fz
   generalize v4.heap.size + 1 = gh at *
   generalize v4.heap.size = go at *
   have Fr := Jfg Nr
   have Fm := Jfg Nm
   have Ff := Jfg Nf
   have Fz := Jfg Nz
   have Fo := Jfg No
   have Fh := Jfg Nh
   have BW := Jfg NB
   clear NB Nr Nm Nf Nz No Nh
   have eqz := EQZ.out
   by_cases hz : Hi = 0
   ·rw [decide_eq_true hz] at eqz
    have HK := Jfg (fun w => Uo Lo N HLO.out HN.out w)
    have hv2 : V = decide (¬ Uu Lo N ≤ 0) := by
     have hm := HMM.out
     have hn := HN.out
     subst hz
     rw [HVV.out, hm, decide_eq_decide]
     constructor
     ·intro h; exact Xn (by omega)
     ·intro h; apply Decidable.byContradiction; intro hc; exact h (Xw (by omega))
    have HV2 := Jfg hv2
    clear hz hv2
    generalize Uu Lo N = k at *
    have Lh := Fh.out.lt
    have ch0 := Fh.out.c0; have ch1 := Fh.out.c1; have ch2 := Fh.out.c2; have ch3 := Fh.out.c3
    have Lo := Fo.out.lt
    have co0 := Fo.out.c0; have co1 := Fo.out.c1; have co2 := Fo.out.c2; have co3 := Fo.out.c3
    have Lr := Fr.out.lt
    obtain ⟨cr0, cr1, cr2, cr3, cr4, cr5, cr6, cr7, cr8⟩ := Jah Fr.out
    go_wp2_with fail
    clear Lh ch0 ch1 ch2 ch3 Lo co0 co1 co2 co3 Lr cr0 cr1 cr2 cr3 cr4 cr5 cr6 cr7 cr8
    refine (HK.out _).mono ?_
    rintro e v6 ⟨rfl, z6⟩
    have Nr := Jfg (Fr.out.on z6)
    have Nm := Jfg (Fm.out.on z6)
    have Nf := Jfg (Ff.out.on z6)
    have Nz := Jfg (Fz.out.on z6)
    have No := Jfg (Fo.out.on z6)
    have Nh := Jfg (Fh.out.on z6)
    have NB := Jfg (bel_tr BW.out z6)
    clear BW z6 Fr Fm Ff Fz Fo Fh
    have Fr := Nr
    have Fm := Nm
    have Ff := Nf
    have Fz := Nz
    have Fo := No
    have Fh := Nh
    have BW := NB
    clear NB Nr Nm Nf Nz No Nh
    by_cases hk : k ≤ 0
    ·have hk2 : ¬ (0 < k) := by omega
     have hv3 : V = false := by rw [HV2.out]; simp [hk]
     clear hk
     go_wp2
     go_ret
     exact ⟨by rw [hv3]; simp [hk2], BW.out⟩
    ·have hk2 : 0 < k := by omega
     have hv3 : V = true := by rw [HV2.out]; simp [hk2]
     clear hk
     go_wp2
     go_ret
     exact ⟨by rw [hv3]; simp [hk2], BW.out⟩
   ·rw [decide_eq_false hz] at eqz
    have hv3 : V = true := by
     have hm := HMM.out
     have hn := HN.out
     rw [HVV.out, hm]; exact decide_eq_true (by omega)
    have HV3 := Jfg hv3
    clear hz hv3
    have Lh := Fh.out.lt
    have ch0 := Fh.out.c0; have ch1 := Fh.out.c1; have ch2 := Fh.out.c2; have ch3 := Fh.out.c3
    go_wp2
    go_ret
    exact ⟨by rw [HV3.out]; rfl, BW.out⟩
end Go.Proofs.YtodlpmepoakdlaaGreat
