/-
  primes.reaches: whether parts rise, divide, and reach.
-/
import Derived.Deep.Cut
import Derived.Test.YtodlpmepoakdlaaVSmall
import Derived.Test.YtodlpmepoakdlaaVWitn
namespace Go.Proofs.Ytodlpmepoakdlaa
set_option maxRecDepth 100000
open Go.RowKit
set_option linter.unusedSimpArgs false
set_option linter.unusedVariables false
attribute [local go_sem ↓] Go.wp_at_zero Go.wp_at_succ

theorem at_zero {w : World} {g : Nat} {t : TypeId} (h : At w g t #[.int .u64 0, .int .u64 0, .int .u64 0, .int .u64 0]) : At w g t #[.int .u64 (wd 0 0 : Nat), .int .u64 (wd 0 1 : Nat), .int .u64 (wd 0 2 : Nat), .int .u64 (wd 0 3 : Nat)] := by simpa [wd] using h
/-- what reaches tells -/
def reachB (N : Nat) (qs : List Nat) : Bool := Pr.rises qs && (qs.all fun q => (N - 1) % q == 0) && decide (N < Pr.fprod (N - 1) qs * Pr.fprod (N - 1) qs)
theorem getD_get {l : List Nat} {j : Nat} (h : j < l.length) : l.getD j 0 = l[j] := by simp [h]
theorem fprod_snoc (m q : Nat) (l : List Nat) : Pr.fprod m (l ++ [q]) = Pr.fprod m l * Pr.gp q m := by
  simp [Pr.fprod, Pr.pr_append, Pr.pr_cons, Pr.pr_nil]
theorem take_one (l : List Nat) (i : Nat) (h : i < l.length) : l.take (i + 1) = l.take i ++ [l.getD i 0] := by
  rw [List.take_add_one, List.getElem?_eq_getElem h]
  simp [h]
theorem getD_take (l : List Nat) (i k : Nat) (h : k < i) : (l.take i).getD k 0 = l.getD k 0 := by
  simp [List.getD, List.getElem?_take, h]
/-- the first ones rise -/
def Up (qs : List Nat) (i : Nat) : Prop := ∀ k, k + 1 < i → qs.getD k 0 < qs.getD (k + 1) 0
theorem Up.take {qs : List Nat} {i : Nat} (h : Up qs i) : Pr.rises (qs.take i) = true := Pr.rises_of fun k hk => by
  have : k + 1 < i := by have := List.length_take_le i qs; omega
  rw [getD_take _ _ _ (by omega), getD_take _ _ _ this]
  exact h k this
theorem Up.all {qs : List Nat} (h : Up qs qs.length) : Pr.rises qs = true := by
  have := h.take
  rwa [List.take_length] at this
theorem fp_dvd {M i : Nat} {qs : List Nat} (hp : ∀ q ∈ qs, Pr.Pri q) (h : Up qs i) : Pr.fprod M (qs.take i) ∣ M :=
  Pr.fprod_dvd (Pr.rises_nodup h.take) fun q hq => hp q (List.mem_of_mem_take hq)
/-- the last one of the first -/
def lastQ (qs : List Nat) (i : Nat) : Nat := if i = 0 then 0 else qs.getD (i - 1) 0
theorem Up.more {qs : List Nat} {i q : Nat} (h : Up qs i) (hq : qs.getD i 0 = q) (hl : lastQ qs i < q) : Up qs (i + 1) := fun k hk => by
  rcases Nat.lt_or_ge (k + 1) i with h1 | h1
  · exact h k h1
  · have hk1 : k + 1 = i := by omega
    have : lastQ qs i = qs.getD k 0 := by unfold lastQ; rw [if_neg (by omega), ← hk1]; rfl
    rw [hk1, hq, ← this]; exact hl
theorem reach_norise {N i q : Nat} {qs : List Nat} (hi : i < qs.length) (hq : qs.getD i 0 = q) (h0 : 0 < q) (hl : q ≤ lastQ qs i) : reachB N qs = false := by
  unfold lastQ at hl
  rcases Nat.eq_zero_or_pos i with h | h
  · rw [if_pos h] at hl; omega
  · rw [if_neg (by omega)] at hl
    obtain ⟨k, rfl⟩ : ∃ k, i = k + 1 := ⟨i - 1, by omega⟩
    simp only [reachB, Pr.rises_no hi rfl hq hl, Bool.false_and]
theorem reach_nodiv {N i q : Nat} {qs : List Nat} (hi : i < qs.length) (hq : qs.getD i 0 = q) (h : ¬ q ∣ N - 1) : reachB N qs = false := by
  rcases hb : reachB N qs with _ | _
  · rfl
  · simp only [reachB, Bool.and_eq_true, List.all_eq_true, beq_iff_eq] at hb
    have hm : q ∈ qs := by
      rw [getD_get hi] at hq
      exact hq ▸ List.getElem_mem hi
    exact absurd (Nat.dvd_of_mod_eq_zero (hb.1.2 q hm)) h
theorem reach_yes {N : Nat} {qs : List Nat} (hu : Up qs qs.length) (hd : ∀ j, j < qs.length → qs.getD j 0 ∣ N - 1) : reachB N qs = decide (N < Pr.fprod (N - 1) qs * Pr.fprod (N - 1) qs) := by
  have ha : (qs.all fun q => (N - 1) % q == 0) = true := by
    rw [List.all_eq_true]
    intro q hq
    obtain ⟨j, hj, rfl⟩ := List.getElem_of_mem hq
    have := hd j hj
    rw [getD_get hj] at this
    rw [beq_iff_eq]
    exact Nat.mod_eq_zero_of_dvd this
  simp only [reachB, hu.all, ha, Bool.true_and]
theorem gp_one {q m : Nat} (h2 : 2 ≤ q) (h0 : 0 < m) : Pr.gp q m = 1 ↔ ¬ q ∣ m := by
  constructor
  · intro h hd
    have := Pr.gp_max h2 h0
    rw [h, Nat.one_mul] at this
    exact this hd
  · intro h
    have := Pr.gp_of (e := 0) h2 h0 (by simp) (by simpa using h)
    simpa using this

set_option maxRecDepth 100000 in
set_option maxHeartbeats 8000000 in
theorem reaches_any (N Y M : Nat) (a : Option Addr) (cap : Nat) (ps : List Pr.Rsn) (hN : N < 2 ^ 256) (hN1 : 1 < N) (hM : M = N - 1) (hp : ∀ p ∈ ps, Pr.Pri p.n)
    (w : World) (hs : Sl w a cap ps) : Calls Try.prog 51 #[rv N Y (.slice a ps.length cap), num M] w fun e w' => e = .returned (.bool (reachB N (ps.map Pr.Rsn.n))) ∧ Below w.heap.size w w' := by
  obtain ⟨qs, hqs⟩ : ∃ qs, qs = ps.map Pr.Rsn.n := ⟨_, rfl⟩
  have hqp : ∀ q ∈ qs, Pr.Pri q := fun q hq => by
    rw [hqs] at hq
    obtain ⟨p, h1, rfl⟩ := List.mem_map.mp hq
    exact hp p h1
  have hql : qs.length = ps.length := by rw [hqs]; simp
  have hqg : ∀ i (h : i < ps.length), qs.getD i 0 = (ps[i]).n := fun i h => by rw [hqs]; simp [h]
  obtain ⟨l, hl⟩ : ∃ l, ps.length = l := ⟨_, rfl⟩
  obtain ⟨V, hV⟩ : ∃ V, V = reachB N qs := ⟨_, rfl⟩
  rw [← hqs, ← hV, hl]
  have hlc : l ≤ 9223372036854775807 := by rw [← hl]; exact Nat.le_trans hs.1 hs.2.1
  have HO := Lib.hid (fun w => of_any 1 (by decide) w)
  have HN := Lib.hid hN; have HN1 := Lib.hid hN1; have HM := Lib.hid hM; have HQP := Lib.hid hqp; have HS := Lib.hid hs; have HL := Lib.hid hl; have HV := Lib.hid hV; have HLC := Lib.hid hlc; have HQG := Lib.hid hqg
  rw [hl] at hql
  have HQL := Lib.hid hql
  have HM0 := Lib.hid (show 0 < M by omega)
  have HMB := Lib.hid (show M < 2 ^ 256 by omega)
  clear hN hN1 hM hp hs hl hV hlc hqp hqs hqg hql
  go_enter Try.func51, Try.ntmps51
  go_wp2_with fail
  have BW := Lib.hid (Below.refl w.heap.size w)
  have Em : w.heap.size ≤ w.heap.size + 1 := by have := BW.out.size; omega
  have Drm : w.heap.size ≠ w.heap.size + 1 := by omega
  generalize hW1 : ((w.alloc (.cells #[.int .u64 (wd N 0 : Nat), .int .u64 (wd N 1 : Nat), .int .u64 (wd N 2 : Nat), .int .u64 (wd N 3 : Nat), .int .u64 (wd Y 0 : Nat), .int .u64 (wd Y 1 : Nat), .int .u64 (wd Y 2 : Nat), .int .u64 (wd Y 3 : Nat), .slice a l cap] 27)).alloc (.cells #[.int .u64 (wd M 0 : Nat), .int .u64 (wd M 1 : Nat), .int .u64 (wd M 2 : Nat), .int .u64 (wd M 3 : Nat)] 24)) = W1 at *
  have Nr : At W1 (w.heap.size) _ _ := at_of hW1 ((At.at_ _ _ _ _ (by simp)).alloc _)
  have Nm : At W1 (w.heap.size + 1) _ _ := at_of hW1 (At.at_ _ _ _ _ (by simp))
  have NB := gr_of hW1 (gr_alloc (gr_alloc BW.out _) _)
  clear hW1 BW 
  generalize w.heap.size + 1 = gm at *
  obtain ⟨gr, hg0⟩ : ∃ g, g = w.heap.size := ⟨_, rfl⟩
  rw [← hg0] at Nr ⊢
  rw [← hg0] at Drm
  have Er : w.heap.size ≤ gr := by omega
  clear hg0
  have Fr := Lib.hid Nr
  have Fm := Lib.hid Nm
  have BW := Lib.hid NB
  clear NB Nr Nm
  refine (HO.out _).mono ?_
  rintro e v2 ⟨rfl, z2⟩
  have Nr := Lib.hid (Fr.out.on z2)
  have Nm := Lib.hid (Fm.out.on z2)
  have NB := Lib.hid (bel_tr BW.out z2)
  clear BW z2 Fr Fm
  have Fr := Nr
  have Fm := Nm
  have BW := NB
  clear NB Nr Nm
  go_upto_region 3 with fail
  have Ef : w.heap.size ≤ v2.heap.size := by have := BW.out.size; omega
  have Drf : gr ≠ v2.heap.size := by have := Fr.out.lt; omega
  have Dmf : gm ≠ v2.heap.size := by have := Fm.out.lt; omega
  have Ez : w.heap.size ≤ v2.heap.size + 1 := by have := BW.out.size; omega
  have Drz : gr ≠ v2.heap.size + 1 := by have := Fr.out.lt; omega
  have Dmz : gm ≠ v2.heap.size + 1 := by have := Fm.out.lt; omega
  have Dfz : v2.heap.size ≠ v2.heap.size + 1 := by omega
  generalize hW3 : ((v2.alloc (.cells #[.int .u64 (wd 1 0 : Nat), .int .u64 (wd 1 1 : Nat), .int .u64 (wd 1 2 : Nat), .int .u64 (wd 1 3 : Nat)] 24)).alloc (.cells #[.int .u64 0, .int .u64 0, .int .u64 0, .int .u64 0] 24)) = W3 at *
  have Nf : At W3 (v2.heap.size) _ _ := at_of hW3 ((At.at_ _ _ _ _ (by simp)).alloc _)
  have Nz : At W3 (v2.heap.size + 1) _ _ := at_of hW3 (At.at_ _ _ _ _ (by simp))
  have Nr := at_of hW3 ((Fr.out.alloc _).alloc _)
  have Nm := at_of hW3 ((Fm.out.alloc _).alloc _)
  have NB := gr_of hW3 (gr_alloc (gr_alloc BW.out _) _)
  clear hW3 BW Fr Fm
  generalize v2.heap.size + 1 = gz at *
  generalize v2.heap.size = gf at *
  have Fr := Lib.hid Nr
  have Fm := Lib.hid Nm
  have Ff := Lib.hid Nf
  have Fz := Lib.hid Nz
  have BW := Lib.hid NB
  clear NB Nr Nm Nf Nz
  have Lr := Fr.out.lt
  have cr0 : W3.cell? ⟨gr, 0, none⟩ = some (.int .u64 (wd N 0 : Nat)) := Fr.out.cell 0
  have cr1 : W3.cell? ⟨gr, 1, none⟩ = some (.int .u64 (wd N 1 : Nat)) := Fr.out.cell 1
  have cr2 : W3.cell? ⟨gr, 2, none⟩ = some (.int .u64 (wd N 2 : Nat)) := Fr.out.cell 2
  have cr3 : W3.cell? ⟨gr, 3, none⟩ = some (.int .u64 (wd N 3 : Nat)) := Fr.out.cell 3
  have cr4 : W3.cell? ⟨gr, 4, none⟩ = some (.int .u64 (wd Y 0 : Nat)) := Fr.out.cell 4
  have cr5 : W3.cell? ⟨gr, 5, none⟩ = some (.int .u64 (wd Y 1 : Nat)) := Fr.out.cell 5
  have cr6 : W3.cell? ⟨gr, 6, none⟩ = some (.int .u64 (wd Y 2 : Nat)) := Fr.out.cell 6
  have cr7 : W3.cell? ⟨gr, 7, none⟩ = some (.int .u64 (wd Y 3 : Nat)) := Fr.out.cell 7
  have cr8 : W3.cell? ⟨gr, 8, none⟩ = some (.slice a l cap) := Fr.out.cell 8
  go_wp2_with fail
  clear Lr cr0 cr1 cr2 cr3 cr4 cr5 cr6 cr7 cr8
  go_loopw [16] (fun s wr => ∃ i X Q : Nat, i ≤ l ∧ s = .int .i64 (i : Nat) ∧ Hid (At wr gr 27 #[.int .u64 (wd N 0 : Nat), .int .u64 (wd N 1 : Nat), .int .u64 (wd N 2 : Nat), .int .u64 (wd N 3 : Nat), .int .u64 (wd Y 0 : Nat), .int .u64 (wd Y 1 : Nat), .int .u64 (wd Y 2 : Nat), .int .u64 (wd Y 3 : Nat), .slice a l cap] ∧ At wr gm 24 #[.int .u64 (wd M 0 : Nat), .int .u64 (wd M 1 : Nat), .int .u64 (wd M 2 : Nat), .int .u64 (wd M 3 : Nat)] ∧ At wr gf 24 #[.int .u64 (wd X 0 : Nat), .int .u64 (wd X 1 : Nat), .int .u64 (wd X 2 : Nat), .int .u64 (wd X 3 : Nat)] ∧ At wr gz 24 #[.int .u64 (wd Q 0 : Nat), .int .u64 (wd Q 1 : Nat), .int .u64 (wd Q 2 : Nat), .int .u64 (wd Q 3 : Nat)] ∧ Below w.heap.size w wr ∧ (X = Pr.fprod M (qs.take i)) ∧ (Q = lastQ qs i) ∧ (Up qs i) ∧ (∀ j, j < i → qs.getD j 0 ∣ M))) (fun s _ => l - (intOf s).toNat)
  case atStart => exact ⟨0, 1, 0, by omega, rfl, Fr.out, Fm.out, Ff.out, at_zero Fz.out, BW.out, rfl, rfl, fun k h => by omega, fun j h => absurd h (Nat.not_lt_zero _)⟩
  case round =>
    obtain ⟨i, X, Q, hi, rfl, hM⟩ := hrel
    clear BW Fr Fm Ff Fz
    have Fr := Lib.hid hM.out.1
    have Fm := Lib.hid hM.out.2.1
    have Ff := Lib.hid hM.out.2.2.1
    have Fz := Lib.hid hM.out.2.2.2.1
    have BW := Lib.hid hM.out.2.2.2.2.1
    have HX := Lib.hid hM.out.2.2.2.2.2.1
    have HLQ := Lib.hid hM.out.2.2.2.2.2.2.1
    have HU := Lib.hid hM.out.2.2.2.2.2.2.2.1
    have HD := Lib.hid hM.out.2.2.2.2.2.2.2.2
    clear hM
    have hxd : X ∣ M := by rw [HX.out]; exact fp_dvd HQP.out HU.out
    have hxm : X ≤ M := Nat.le_of_dvd HM0.out hxd
    have HXD := Lib.hid hxd; have HXM := Lib.hid hxm
    clear hxd hxm
    by_cases hlt : i < l
    · have hlt2 : (i : Int) < (l : Int) := by omega
      have hil : i < ps.length := by rw [HL.out]; exact hlt
      obtain ⟨gs, os, a2, cap2, q, y2, l2, ha, hq1, hq2, hq3, hqb, hyb, hs2, e0, e1, e2, e3, e4, e5, e6, e7, e8⟩ := (HS.out.on BW.out).cells hil
      subst ha
      have hqq : qs.getD i 0 = q := by rw [HQG.out i hil, hq1]
      have hiq : i < qs.length := by rw [HQL.out]; exact hlt
      have hpq : Pr.Pri q := HQP.out q (by rw [getD_get hiq] at hqq; exact hqq ▸ List.getElem_mem hiq)
      have CP := powin_any M q HM0.out HMB.out hpq.1 hqb
      obtain ⟨G, hG⟩ : ∃ G, G = Pr.gp q M := ⟨_, rfl⟩
      rw [← hG] at CP
      have hGM : G ≤ M := by rw [hG]; exact Nat.le_of_dvd HM0.out (Pr.gp_dvd q M)
      have hQ : Q < 2 ^ 256 := by
        rw [HLQ.out]; unfold lastQ
        split
        · decide
        · have h1 := HD.out (i - 1) (by omega)
          exact Nat.lt_of_le_of_lt (Nat.le_of_dvd HM0.out h1) HMB.out
      have HCP := Lib.hid CP; have HG := Lib.hid hG; have HGM := Lib.hid hGM; have HQQ := Lib.hid hqq; have HIQ := Lib.hid hiq; have HPQ := Lib.hid hpq; have HQB := Lib.hid hqb; have HLT := Lib.hid hlt
      have HK := Lib.hid (fun w => cmp_any q Q hqb hQ w); have HEG := Lib.hid (eqN G 1 (Nat.lt_of_le_of_lt hGM HMB.out) (by decide))
      clear CP hG hGM hqq hiq hpq hqb hlt hyb hs2 hq3 hq2 hq1 hil hQ
      go_upto_region 6 with fail
      clear e0 e1 e2 e3 e4 e5 e6 e7 e8
      have Drp : gr ≠ wr.heap.size := by have := Fr.out.lt; omega
      have Dmp : gm ≠ wr.heap.size := by have := Fm.out.lt; omega
      have Dfp : gf ≠ wr.heap.size := by have := Ff.out.lt; omega
      have Dzp : gz ≠ wr.heap.size := by have := Fz.out.lt; omega
      generalize hW4 : (wr.alloc (.cells #[.int .u64 (wd q 0 : Nat), .int .u64 (wd q 1 : Nat), .int .u64 (wd q 2 : Nat), .int .u64 (wd q 3 : Nat), .int .u64 (wd y2 0 : Nat), .int .u64 (wd y2 1 : Nat), .int .u64 (wd y2 2 : Nat), .int .u64 (wd y2 3 : Nat), .slice a2 l2 cap2] 27)) = W4 at *
      have Np : At W4 (wr.heap.size) _ _ := at_of hW4 (At.at_ _ _ _ _ (by simp))
      have Nr := at_of hW4 (Fr.out.alloc _)
      have Nm := at_of hW4 (Fm.out.alloc _)
      have Nf := at_of hW4 (Ff.out.alloc _)
      have Nz := at_of hW4 (Fz.out.alloc _)
      have NB := gr_of hW4 (gr_alloc BW.out _)
      clear hW4 BW Fr Fm Ff Fz
      generalize wr.heap.size = gp at *
      have Fr := Lib.hid Nr
      have Fm := Lib.hid Nm
      have Ff := Lib.hid Nf
      have Fz := Lib.hid Nz
      have Fp := Lib.hid Np
      have BW := Lib.hid NB
      clear NB Nr Nm Nf Nz Np
      have Lm := Fm.out.lt
      have cm0 := Fm.out.c0
      have cm1 := Fm.out.c1
      have cm2 := Fm.out.c2
      have cm3 := Fm.out.c3
      have Lp := Fp.out.lt
      have cp0 : W4.cell? ⟨gp, 0, none⟩ = some (.int .u64 (wd q 0 : Nat)) := Fp.out.cell 0
      have cp1 : W4.cell? ⟨gp, 1, none⟩ = some (.int .u64 (wd q 1 : Nat)) := Fp.out.cell 1
      have cp2 : W4.cell? ⟨gp, 2, none⟩ = some (.int .u64 (wd q 2 : Nat)) := Fp.out.cell 2
      have cp3 : W4.cell? ⟨gp, 3, none⟩ = some (.int .u64 (wd q 3 : Nat)) := Fp.out.cell 3
      have cp4 : W4.cell? ⟨gp, 4, none⟩ = some (.int .u64 (wd y2 0 : Nat)) := Fp.out.cell 4
      have cp5 : W4.cell? ⟨gp, 5, none⟩ = some (.int .u64 (wd y2 1 : Nat)) := Fp.out.cell 5
      have cp6 : W4.cell? ⟨gp, 6, none⟩ = some (.int .u64 (wd y2 2 : Nat)) := Fp.out.cell 6
      have cp7 : W4.cell? ⟨gp, 7, none⟩ = some (.int .u64 (wd y2 3 : Nat)) := Fp.out.cell 7
      have cp8 : W4.cell? ⟨gp, 8, none⟩ = some (.slice a2 l2 cap2) := Fp.out.cell 8
      go_wp2_with fail
      clear Lm cm0 cm1 cm2 cm3 Lp cp0 cp1 cp2 cp3 cp4 cp5 cp6 cp7 cp8
      refine (HCP.out _).mono ?_
      rintro e v5 ⟨rfl, z5⟩
      have Nr := Lib.hid (Fr.out.on z5)
      have Nm := Lib.hid (Fm.out.on z5)
      have Nf := Lib.hid (Ff.out.on z5)
      have Nz := Lib.hid (Fz.out.on z5)
      have Np := Lib.hid (Fp.out.on z5)
      have NB := Lib.hid (bel_tr BW.out z5)
      clear BW z5 Fr Fm Ff Fz Fp
      have Fr := Nr
      have Fm := Nm
      have Ff := Nf
      have Fz := Nz
      have Fp := Np
      have BW := NB
      clear NB Nr Nm Nf Nz Np
      go_upto_region 7 with fail
      have Dre : gr ≠ v5.heap.size := by have := Fr.out.lt; omega
      have Dme : gm ≠ v5.heap.size := by have := Fm.out.lt; omega
      have Dfe : gf ≠ v5.heap.size := by have := Ff.out.lt; omega
      have Dze : gz ≠ v5.heap.size := by have := Fz.out.lt; omega
      generalize hW6 : (v5.alloc (.cells #[.int .u64 (wd G 0 : Nat), .int .u64 (wd G 1 : Nat), .int .u64 (wd G 2 : Nat), .int .u64 (wd G 3 : Nat)] 24)) = W6 at *
      have Ne : At W6 (v5.heap.size) _ _ := at_of hW6 (At.at_ _ _ _ _ (by simp))
      have Nr := at_of hW6 (Fr.out.alloc _)
      have Nm := at_of hW6 (Fm.out.alloc _)
      have Nf := at_of hW6 (Ff.out.alloc _)
      have Nz := at_of hW6 (Fz.out.alloc _)
      have Np := at_of hW6 (Fp.out.alloc _)
      have NB := gr_of hW6 (gr_alloc BW.out _)
      clear hW6 BW Fr Fm Ff Fz Fp
      generalize v5.heap.size = ge at *
      have Fr := Lib.hid Nr
      have Fm := Lib.hid Nm
      have Ff := Lib.hid Nf
      have Fz := Lib.hid Nz
      have Fp := Lib.hid Np
      have Fe := Lib.hid Ne
      have BW := Lib.hid NB
      clear NB Nr Nm Nf Nz Np Ne
      by_cases hk : Q < q
      · have hk2 := cmpN_pos0 hk
        have HQL2 := Lib.hid hk; have HK2 := Lib.hid (show ¬ cmpN q Q ≤ 0 from hk2)
        clear hk hk2
        generalize cmpN q Q = k at *
        by_cases hg : G = 1
        · have hE := HEG.out
          rw [decide_eq_true hg] at hE
          have hv3 : V = false := by rw [HV.out]; exact reach_nodiv HIQ.out HQQ.out (by rw [← HM.out]; exact (gp_one HPQ.out.1 HM0.out).mp (by rw [← HG.out]; exact hg))
          have HV3 := Lib.hid hv3; have HE := Lib.hid hE
          clear hg hv3 hE
          try simp only [List.append_eq, List.cons_append, List.nil_append]
          refine wp_region_noPanic ?_
          refine wp_region_held_drew (S := fun w' => At w' gp 27 #[.int .u64 (wd q 0 : Nat), .int .u64 (wd q 1 : Nat), .int .u64 (wd q 2 : Nat), .int .u64 (wd q 3 : Nat), .int .u64 (wd y2 0 : Nat), .int .u64 (wd y2 1 : Nat), .int .u64 (wd y2 2 : Nat), .int .u64 (wd y2 3 : Nat), .slice a2 l2 cap2] ∧ At w' gz 24 #[.int .u64 (wd Q 0 : Nat), .int .u64 (wd Q 1 : Nat), .int .u64 (wd Q 2 : Nat), .int .u64 (wd Q 3 : Nat)] ∧ At w' ge 24 #[.int .u64 (wd G 0 : Nat), .int .u64 (wd G 1 : Nat), .int .u64 (wd G 2 : Nat), .int .u64 (wd G 3 : Nat)]) (by kernel_rfl) (⟨Fp.out.drew, Fz.out.drew, Fe.out.drew⟩) (fun _ => ?_)
          refine wpAnyH_cores (fuel := 0) (⟨0, 24, [], Kind.val (.pointer (some ⟨gp, 0, none⟩)), true⟩ :: ⟨1, 25, [0], Kind.val (.agg #[.int .u64 (wd q 0 : Nat), .int .u64 (wd q 1 : Nat), .int .u64 (wd q 2 : Nat), .int .u64 (wd q 3 : Nat)]), true⟩ :: ⟨2, 26, [1], Kind.val (.agg #[.int .u64 (wd Q 0 : Nat), .int .u64 (wd Q 1 : Nat), .int .u64 (wd Q 2 : Nat), .int .u64 (wd Q 3 : Nat)]), true⟩ :: ⟨3, 27, [1, 2], Kind.val (.int .i64 k), false⟩ :: ⟨4, 28, [3], Kind.val (.bool false), true⟩ :: ⟨5, 29, [4], Kind.val (.bool false), true⟩ :: ⟨6, 30, [5], Kind.val (.agg #[.int .u64 (wd G 0 : Nat), .int .u64 (wd G 1 : Nat), .int .u64 (wd G 2 : Nat), .int .u64 (wd G 3 : Nat)]), true⟩ :: ⟨7, 31, [5, 6], Kind.val (.agg #[.int .u64 (wd 1 0 : Nat), .int .u64 (wd 1 1 : Nat), .int .u64 (wd 1 2 : Nat), .int .u64 (wd 1 3 : Nat)]), false⟩ :: ⟨8, 32, [5, 6, 7], Kind.val (.bool true), true⟩ :: ⟨9, 33, [5, 8], Kind.val (.bool true), true⟩ :: []) _ _ W6 _ ?_ ?_ ?_ ?_ ?_ ?_ ?_ ?_ ?_ ?_ ?_
          · rfl
          · kernel_rfl
          · exact of_decide_eq_true (by kernel_rfl)
          · exact all_cons ⟨_, by rfl, by rfl⟩ (all_cons ⟨_, by rfl, by rfl⟩ (all_cons ⟨_, by rfl, by rfl⟩ (all_cons ⟨_, by rfl, by rfl⟩ (all_cons ⟨_, by rfl, by rfl⟩ (all_cons ⟨_, by rfl, by rfl⟩ (all_cons ⟨_, by rfl, by rfl⟩ (all_cons ⟨_, by rfl, by rfl⟩ (all_cons ⟨_, by rfl, by rfl⟩ (all_cons ⟨_, by rfl, by rfl⟩ (all_nil))))))))))
          · exact fun _ hb => ⟨Fp.out.on hb, Fz.out.on hb, Fe.out.on hb⟩
          · exact (Below.refl _ _).drew
          · kernel_rfl
          · exact fun _ _ _ _ _ h => h
          · refine all_cons ?_ (all_cons ?_ (all_cons ?_ (all_cons ?_ (all_cons ?_ (all_cons ?_ (all_cons ?_ (all_cons ?_ (all_cons ?_ (all_cons ?_ (all_nil))))))))))
            · exact coreG_held _ _ _ _ _ _ _ _ _ (by rfl) (by rfl) (wants_none) (known_old 8 _ (of_decide_eq_true (by rfl)) (by rfl)) (fun ρ w hx _ => fieldR0 _ _ _ _ _ _ ρ w gp hx)
            · exact coreG_held _ _ _ _ _ _ _ _ _ (by rfl) (by rfl) (wants_none) (known_core 0 24 _ _ (of_decide_eq_true (by rfl)) (by rfl) (by rfl) (by rfl)) (fun ρ w hx hs => loadR0 _ _ _ _ _ _ ρ w gp _ _ _ _ _ _ _ _ _ hx (hs.1))
            · exact coreG_loadP _ _ _ _ _ _ gz _ _ _ _ (by rfl) (by rfl) (wants_none) (known_old 6 _ (of_decide_eq_true (by rfl)) (by rfl)) (fun _ hs => hs.2.1)
            · exact core_pureAs _ (by rfl)
            · exact coreG_bin _ _ _ _ _ _ _ _ _ _ _ _ _ (by rfl) (by rfl) (wants_none) (known_core 3 27 _ _ (of_decide_eq_true (by rfl)) (by rfl) (by rfl) (by rfl)) (known_const _) ((fun ρ w hx hy => by simp only [execOp, hx, hy]; simp [go_sem, HK2.out]))
            · exact coreG_move _ _ _ _ _ _ _ (by rfl) (by rfl) (wants_none) (known_core 4 28 _ _ (of_decide_eq_true (by rfl)) (by rfl) (by rfl) (by rfl))
            · exact coreG_loadP _ _ _ _ _ _ ge _ _ _ _ (by rfl) (by rfl) (wants_core 5 29 5 _ _ _ (by rfl) (by rfl) (by rfl) (known_core 5 29 _ _ (of_decide_eq_true (by rfl)) (by rfl) (by rfl) (by rfl)) _ (by rfl)) (known_old 9 _ (of_decide_eq_true (by rfl)) (by rfl)) (fun _ hs => hs.2.2)
            · exact core_pureAs _ (by rfl)
            · exact coreG_bin _ _ _ _ _ _ _ _ _ _ _ _ _ (by rfl) (by rfl) (wants_core 5 29 5 _ _ _ (by rfl) (by rfl) (by rfl) (known_core 5 29 _ _ (of_decide_eq_true (by rfl)) (by rfl) (by rfl) (by rfl)) _ (by rfl)) (known_core 6 30 _ _ (of_decide_eq_true (by rfl)) (by rfl) (by rfl) (by rfl)) (known_core 7 31 _ _ (of_decide_eq_true (by rfl)) (by rfl) (by rfl) (by rfl)) (eql_run true _ _ _ _ _ _ _ _ _ _ _ _ _ _ _ (HE.out))
            · exact coreG_pick _ _ _ _ _ _ _ _ _ _ _ _ (by rfl) (by rfl) (wants_none) (known_core 5 29 _ _ (of_decide_eq_true (by rfl)) (by rfl) (by rfl) (by rfl)) (known_const _) (known_core 8 32 _ _ (of_decide_eq_true (by rfl)) (by rfl) (by rfl) (by rfl)) (by rfl)
          · refine all_cons ?_ (all_cons ?_ (all_cons ?_ (all_cons ?_ (all_cons ?_ (all_cons ?_ (all_cons ?_ (all_cons ?_ (all_cons ?_ (all_cons ?_ (all_nil))))))))))
            · exact core_stepAs _ (by rfl)
            · exact core_stepAs _ (by rfl)
            · exact core_stepAs _ (by rfl)
            · exact fun _ => coreG_call _ 24 _ _ [.tmp 25, .tmp 26] _ _ _ _ _ _ _ (by rfl) Try.func24 (by kernel_rfl) (by rfl) (by rfl) (wants_none) (.cons (known_core 1 25 _ _ (of_decide_eq_true (by rfl)) (by rfl) (by rfl) (by rfl)) (.cons (known_core 2 26 _ _ (of_decide_eq_true (by rfl)) (by rfl) (by rfl) (by rfl)) .nil)) (HK.out)
            · exact core_stepAs _ (by rfl)
            · exact core_stepAs _ (by rfl)
            · exact core_stepAs _ (by rfl)
            · exact fun _ => coreG_call _ 32 _ _ [.const (.int .u64 1)] _ _ _ _ _ _ _ (by rfl) Try.func32 (by kernel_rfl) (by rfl) (by rfl) (wants_core 5 29 5 _ _ _ (by rfl) (by rfl) (by rfl) (known_core 5 29 _ _ (of_decide_eq_true (by rfl)) (by rfl) (by rfl) (by rfl)) _ (by rfl)) (.cons (known_const _) .nil) (HO.out)
            · exact core_stepAs _ (by rfl)
            · exact core_stepAs _ (by rfl)
          intro vs y7 hc
          obtain ⟨vv0, vv1, vv2, vv3, vv4, vv5, vv6, vv7, vv8, vv9, rfl⟩ := len10 vs hc.lv
          have qq0 : vv0 = .pointer (some ⟨gp, 0, none⟩) := by obtain ⟨xx, hx, hy⟩ := hc.ok 0 _ rfl rfl; exact (Option.some.inj (show some vv0 = some xx from hx)).trans hy
          have qq1 : vv1 = .agg #[.int .u64 (wd q 0 : Nat), .int .u64 (wd q 1 : Nat), .int .u64 (wd q 2 : Nat), .int .u64 (wd q 3 : Nat)] := by obtain ⟨xx, hx, hy⟩ := hc.ok 1 _ rfl rfl; exact (Option.some.inj (show some vv1 = some xx from hx)).trans hy
          have qq2 : vv2 = .agg #[.int .u64 (wd Q 0 : Nat), .int .u64 (wd Q 1 : Nat), .int .u64 (wd Q 2 : Nat), .int .u64 (wd Q 3 : Nat)] := by obtain ⟨xx, hx, hy⟩ := hc.ok 2 _ rfl rfl; exact (Option.some.inj (show some vv2 = some xx from hx)).trans hy
          have qq3 : vv3 = .int .i64 k := by obtain ⟨xx, hx, hy⟩ := hc.ok 3 _ rfl rfl; exact (Option.some.inj (show some vv3 = some xx from hx)).trans hy
          have qq4 : vv4 = .bool false := by obtain ⟨xx, hx, hy⟩ := hc.ok 4 _ rfl rfl; exact (Option.some.inj (show some vv4 = some xx from hx)).trans hy
          have qq5 : vv5 = .bool false := by obtain ⟨xx, hx, hy⟩ := hc.ok 5 _ rfl rfl; exact (Option.some.inj (show some vv5 = some xx from hx)).trans hy
          have qq6 : vv6 = .agg #[.int .u64 (wd G 0 : Nat), .int .u64 (wd G 1 : Nat), .int .u64 (wd G 2 : Nat), .int .u64 (wd G 3 : Nat)] := by obtain ⟨xx, hx, hy⟩ := hc.ok 6 _ rfl rfl; exact (Option.some.inj (show some vv6 = some xx from hx)).trans hy
          have qq7 : vv7 = .agg #[.int .u64 (wd 1 0 : Nat), .int .u64 (wd 1 1 : Nat), .int .u64 (wd 1 2 : Nat), .int .u64 (wd 1 3 : Nat)] := by obtain ⟨xx, hx, hy⟩ := hc.ok 7 _ rfl rfl; exact (Option.some.inj (show some vv7 = some xx from hx)).trans hy
          have qq8 : vv8 = .bool true := by obtain ⟨xx, hx, hy⟩ := hc.ok 8 _ rfl rfl; exact (Option.some.inj (show some vv8 = some xx from hx)).trans hy
          have qq9 : vv9 = .bool true := by obtain ⟨xx, hx, hy⟩ := hc.ok 9 _ rfl rfl; exact (Option.some.inj (show some vv9 = some xx from hx)).trans hy
          have BZ := hc.bel
          clear hc
          have Nr := Fr.out.on BZ
          have Nm := Fm.out.on BZ
          have Nf := Ff.out.on BZ
          have Nz := Fz.out.on BZ
          have Np := Fp.out.on BZ
          have Ne := Fe.out.on BZ
          have NB := bel_tr BW.out BZ
          clear BW BZ Fr Fm Ff Fz Fp Fe
          subst qq0 qq1 qq2 qq3 qq4 qq5 qq6 qq7 qq8 qq9
          simp only [List.map_cons, List.map_nil, over, Act.put, List.setIfInBounds_toArray, List.set_cons_zero, List.set_cons_succ]
          refine wpAnyH_done (by kernel_rfl) ?_ _
          refine NoPanic.normal ?_
          have Fr := Lib.hid Nr
          have Fm := Lib.hid Nm
          have Ff := Lib.hid Nf
          have Fz := Lib.hid Nz
          have Fp := Lib.hid Np
          have Fe := Lib.hid Ne
          have BW := Lib.hid NB
          clear NB Nr Nm Nf Nz Np Ne
          go_wp2
          go_ret
          exact ⟨by rw [HV3.out]; rfl, BW.out⟩
        · have hE := HEG.out
          rw [decide_eq_false hg] at hE
          have hqd : q ∣ M := Classical.byContradiction fun hc => hg (by rw [HG.out]; exact (gp_one HPQ.out.1 HM0.out).mpr hc)
          have hup : Up qs (i + 1) := HU.out.more HQQ.out (by rw [← HLQ.out]; exact HQL2.out)
          have hfx : X * G = Pr.fprod M (qs.take (i + 1)) := by rw [take_one _ _ HIQ.out, fprod_snoc, HQQ.out, ← HG.out, ← HX.out]
          have hle : X * G ≤ M := by rw [hfx]; exact Nat.le_of_dvd HM0.out (fp_dvd HQP.out hup)
          have hmb := HMB.out
          obtain ⟨Lo, Hi, hLo, hHi, hm, CM⟩ := mul_ex X G (Nat.lt_of_le_of_lt HXM.out hmb) (Nat.lt_of_le_of_lt HGM.out hmb)
          have hH0 : Hi = 0 := by omega
          subst hH0
          have hLo2 : Lo = Pr.fprod M (qs.take (i + 1)) := by rw [← hfx]; omega
          have HE := Lib.hid hE; have HQD := Lib.hid hqd; have HUP := Lib.hid hup; have HLO := Lib.hid hLo2; have HCM := Lib.hid CM
          clear hg hE hqd hup hfx hle hmb hm hHi hLo CM hLo2
          try simp only [List.append_eq, List.cons_append, List.nil_append]
          refine wp_region_noPanic ?_
          refine wp_region_held_drew (S := fun w' => At w' gp 27 #[.int .u64 (wd q 0 : Nat), .int .u64 (wd q 1 : Nat), .int .u64 (wd q 2 : Nat), .int .u64 (wd q 3 : Nat), .int .u64 (wd y2 0 : Nat), .int .u64 (wd y2 1 : Nat), .int .u64 (wd y2 2 : Nat), .int .u64 (wd y2 3 : Nat), .slice a2 l2 cap2] ∧ At w' gz 24 #[.int .u64 (wd Q 0 : Nat), .int .u64 (wd Q 1 : Nat), .int .u64 (wd Q 2 : Nat), .int .u64 (wd Q 3 : Nat)] ∧ At w' ge 24 #[.int .u64 (wd G 0 : Nat), .int .u64 (wd G 1 : Nat), .int .u64 (wd G 2 : Nat), .int .u64 (wd G 3 : Nat)]) (by kernel_rfl) (⟨Fp.out.drew, Fz.out.drew, Fe.out.drew⟩) (fun _ => ?_)
          refine wpAnyH_cores (fuel := 0) (⟨0, 24, [], Kind.val (.pointer (some ⟨gp, 0, none⟩)), true⟩ :: ⟨1, 25, [0], Kind.val (.agg #[.int .u64 (wd q 0 : Nat), .int .u64 (wd q 1 : Nat), .int .u64 (wd q 2 : Nat), .int .u64 (wd q 3 : Nat)]), true⟩ :: ⟨2, 26, [1], Kind.val (.agg #[.int .u64 (wd Q 0 : Nat), .int .u64 (wd Q 1 : Nat), .int .u64 (wd Q 2 : Nat), .int .u64 (wd Q 3 : Nat)]), true⟩ :: ⟨3, 27, [1, 2], Kind.val (.int .i64 k), false⟩ :: ⟨4, 28, [3], Kind.val (.bool false), true⟩ :: ⟨5, 29, [4], Kind.val (.bool false), true⟩ :: ⟨6, 30, [5], Kind.val (.agg #[.int .u64 (wd G 0 : Nat), .int .u64 (wd G 1 : Nat), .int .u64 (wd G 2 : Nat), .int .u64 (wd G 3 : Nat)]), true⟩ :: ⟨7, 31, [5, 6], Kind.val (.agg #[.int .u64 (wd 1 0 : Nat), .int .u64 (wd 1 1 : Nat), .int .u64 (wd 1 2 : Nat), .int .u64 (wd 1 3 : Nat)]), false⟩ :: ⟨8, 32, [5, 6, 7], Kind.val (.bool false), true⟩ :: ⟨9, 33, [5, 8], Kind.val (.bool false), true⟩ :: []) _ _ W6 _ ?_ ?_ ?_ ?_ ?_ ?_ ?_ ?_ ?_ ?_ ?_
          · rfl
          · kernel_rfl
          · exact of_decide_eq_true (by kernel_rfl)
          · exact all_cons ⟨_, by rfl, by rfl⟩ (all_cons ⟨_, by rfl, by rfl⟩ (all_cons ⟨_, by rfl, by rfl⟩ (all_cons ⟨_, by rfl, by rfl⟩ (all_cons ⟨_, by rfl, by rfl⟩ (all_cons ⟨_, by rfl, by rfl⟩ (all_cons ⟨_, by rfl, by rfl⟩ (all_cons ⟨_, by rfl, by rfl⟩ (all_cons ⟨_, by rfl, by rfl⟩ (all_cons ⟨_, by rfl, by rfl⟩ (all_nil))))))))))
          · exact fun _ hb => ⟨Fp.out.on hb, Fz.out.on hb, Fe.out.on hb⟩
          · exact (Below.refl _ _).drew
          · kernel_rfl
          · exact fun _ _ _ _ _ h => h
          · refine all_cons ?_ (all_cons ?_ (all_cons ?_ (all_cons ?_ (all_cons ?_ (all_cons ?_ (all_cons ?_ (all_cons ?_ (all_cons ?_ (all_cons ?_ (all_nil))))))))))
            · exact coreG_held _ _ _ _ _ _ _ _ _ (by rfl) (by rfl) (wants_none) (known_old 8 _ (of_decide_eq_true (by rfl)) (by rfl)) (fun ρ w hx _ => fieldR0 _ _ _ _ _ _ ρ w gp hx)
            · exact coreG_held _ _ _ _ _ _ _ _ _ (by rfl) (by rfl) (wants_none) (known_core 0 24 _ _ (of_decide_eq_true (by rfl)) (by rfl) (by rfl) (by rfl)) (fun ρ w hx hs => loadR0 _ _ _ _ _ _ ρ w gp _ _ _ _ _ _ _ _ _ hx (hs.1))
            · exact coreG_loadP _ _ _ _ _ _ gz _ _ _ _ (by rfl) (by rfl) (wants_none) (known_old 6 _ (of_decide_eq_true (by rfl)) (by rfl)) (fun _ hs => hs.2.1)
            · exact core_pureAs _ (by rfl)
            · exact coreG_bin _ _ _ _ _ _ _ _ _ _ _ _ _ (by rfl) (by rfl) (wants_none) (known_core 3 27 _ _ (of_decide_eq_true (by rfl)) (by rfl) (by rfl) (by rfl)) (known_const _) ((fun ρ w hx hy => by simp only [execOp, hx, hy]; simp [go_sem, HK2.out]))
            · exact coreG_move _ _ _ _ _ _ _ (by rfl) (by rfl) (wants_none) (known_core 4 28 _ _ (of_decide_eq_true (by rfl)) (by rfl) (by rfl) (by rfl))
            · exact coreG_loadP _ _ _ _ _ _ ge _ _ _ _ (by rfl) (by rfl) (wants_core 5 29 5 _ _ _ (by rfl) (by rfl) (by rfl) (known_core 5 29 _ _ (of_decide_eq_true (by rfl)) (by rfl) (by rfl) (by rfl)) _ (by rfl)) (known_old 9 _ (of_decide_eq_true (by rfl)) (by rfl)) (fun _ hs => hs.2.2)
            · exact core_pureAs _ (by rfl)
            · exact coreG_bin _ _ _ _ _ _ _ _ _ _ _ _ _ (by rfl) (by rfl) (wants_core 5 29 5 _ _ _ (by rfl) (by rfl) (by rfl) (known_core 5 29 _ _ (of_decide_eq_true (by rfl)) (by rfl) (by rfl) (by rfl)) _ (by rfl)) (known_core 6 30 _ _ (of_decide_eq_true (by rfl)) (by rfl) (by rfl) (by rfl)) (known_core 7 31 _ _ (of_decide_eq_true (by rfl)) (by rfl) (by rfl) (by rfl)) (eql_run false _ _ _ _ _ _ _ _ _ _ _ _ _ _ _ (HE.out))
            · exact coreG_pick _ _ _ _ _ _ _ _ _ _ _ _ (by rfl) (by rfl) (wants_none) (known_core 5 29 _ _ (of_decide_eq_true (by rfl)) (by rfl) (by rfl) (by rfl)) (known_const _) (known_core 8 32 _ _ (of_decide_eq_true (by rfl)) (by rfl) (by rfl) (by rfl)) (by rfl)
          · refine all_cons ?_ (all_cons ?_ (all_cons ?_ (all_cons ?_ (all_cons ?_ (all_cons ?_ (all_cons ?_ (all_cons ?_ (all_cons ?_ (all_cons ?_ (all_nil))))))))))
            · exact core_stepAs _ (by rfl)
            · exact core_stepAs _ (by rfl)
            · exact core_stepAs _ (by rfl)
            · exact fun _ => coreG_call _ 24 _ _ [.tmp 25, .tmp 26] _ _ _ _ _ _ _ (by rfl) Try.func24 (by kernel_rfl) (by rfl) (by rfl) (wants_none) (.cons (known_core 1 25 _ _ (of_decide_eq_true (by rfl)) (by rfl) (by rfl) (by rfl)) (.cons (known_core 2 26 _ _ (of_decide_eq_true (by rfl)) (by rfl) (by rfl) (by rfl)) .nil)) (HK.out)
            · exact core_stepAs _ (by rfl)
            · exact core_stepAs _ (by rfl)
            · exact core_stepAs _ (by rfl)
            · exact fun _ => coreG_call _ 32 _ _ [.const (.int .u64 1)] _ _ _ _ _ _ _ (by rfl) Try.func32 (by kernel_rfl) (by rfl) (by rfl) (wants_core 5 29 5 _ _ _ (by rfl) (by rfl) (by rfl) (known_core 5 29 _ _ (of_decide_eq_true (by rfl)) (by rfl) (by rfl) (by rfl)) _ (by rfl)) (.cons (known_const _) .nil) (HO.out)
            · exact core_stepAs _ (by rfl)
            · exact core_stepAs _ (by rfl)
          intro vs y7 hc
          obtain ⟨vv0, vv1, vv2, vv3, vv4, vv5, vv6, vv7, vv8, vv9, rfl⟩ := len10 vs hc.lv
          have qq0 : vv0 = .pointer (some ⟨gp, 0, none⟩) := by obtain ⟨xx, hx, hy⟩ := hc.ok 0 _ rfl rfl; exact (Option.some.inj (show some vv0 = some xx from hx)).trans hy
          have qq1 : vv1 = .agg #[.int .u64 (wd q 0 : Nat), .int .u64 (wd q 1 : Nat), .int .u64 (wd q 2 : Nat), .int .u64 (wd q 3 : Nat)] := by obtain ⟨xx, hx, hy⟩ := hc.ok 1 _ rfl rfl; exact (Option.some.inj (show some vv1 = some xx from hx)).trans hy
          have qq2 : vv2 = .agg #[.int .u64 (wd Q 0 : Nat), .int .u64 (wd Q 1 : Nat), .int .u64 (wd Q 2 : Nat), .int .u64 (wd Q 3 : Nat)] := by obtain ⟨xx, hx, hy⟩ := hc.ok 2 _ rfl rfl; exact (Option.some.inj (show some vv2 = some xx from hx)).trans hy
          have qq3 : vv3 = .int .i64 k := by obtain ⟨xx, hx, hy⟩ := hc.ok 3 _ rfl rfl; exact (Option.some.inj (show some vv3 = some xx from hx)).trans hy
          have qq4 : vv4 = .bool false := by obtain ⟨xx, hx, hy⟩ := hc.ok 4 _ rfl rfl; exact (Option.some.inj (show some vv4 = some xx from hx)).trans hy
          have qq5 : vv5 = .bool false := by obtain ⟨xx, hx, hy⟩ := hc.ok 5 _ rfl rfl; exact (Option.some.inj (show some vv5 = some xx from hx)).trans hy
          have qq6 : vv6 = .agg #[.int .u64 (wd G 0 : Nat), .int .u64 (wd G 1 : Nat), .int .u64 (wd G 2 : Nat), .int .u64 (wd G 3 : Nat)] := by obtain ⟨xx, hx, hy⟩ := hc.ok 6 _ rfl rfl; exact (Option.some.inj (show some vv6 = some xx from hx)).trans hy
          have qq7 : vv7 = .agg #[.int .u64 (wd 1 0 : Nat), .int .u64 (wd 1 1 : Nat), .int .u64 (wd 1 2 : Nat), .int .u64 (wd 1 3 : Nat)] := by obtain ⟨xx, hx, hy⟩ := hc.ok 7 _ rfl rfl; exact (Option.some.inj (show some vv7 = some xx from hx)).trans hy
          have qq8 : vv8 = .bool false := by obtain ⟨xx, hx, hy⟩ := hc.ok 8 _ rfl rfl; exact (Option.some.inj (show some vv8 = some xx from hx)).trans hy
          have qq9 : vv9 = .bool false := by obtain ⟨xx, hx, hy⟩ := hc.ok 9 _ rfl rfl; exact (Option.some.inj (show some vv9 = some xx from hx)).trans hy
          have BZ := hc.bel
          clear hc
          have Nr := Fr.out.on BZ
          have Nm := Fm.out.on BZ
          have Nf := Ff.out.on BZ
          have Nz := Fz.out.on BZ
          have Np := Fp.out.on BZ
          have Ne := Fe.out.on BZ
          have NB := bel_tr BW.out BZ
          clear BW BZ Fr Fm Ff Fz Fp Fe
          subst qq0 qq1 qq2 qq3 qq4 qq5 qq6 qq7 qq8 qq9
          simp only [List.map_cons, List.map_nil, over, Act.put, List.setIfInBounds_toArray, List.set_cons_zero, List.set_cons_succ]
          refine wpAnyH_done (by kernel_rfl) ?_ _
          refine NoPanic.normal ?_
          have Fr := Lib.hid Nr
          have Fm := Lib.hid Nm
          have Ff := Lib.hid Nf
          have Fz := Lib.hid Nz
          have Fp := Lib.hid Np
          have Fe := Lib.hid Ne
          have BW := Lib.hid NB
          clear NB Nr Nm Nf Nz Np Ne
          have Lf := Ff.out.lt
          have cf0 := Ff.out.c0
          have cf1 := Ff.out.c1
          have cf2 := Ff.out.c2
          have cf3 := Ff.out.c3
          have Le := Fe.out.lt
          have ce0 := Fe.out.c0
          have ce1 := Fe.out.c1
          have ce2 := Fe.out.c2
          have ce3 := Fe.out.c3
          go_wp2_with fail
          clear Lf cf0 cf1 cf2 cf3 Le ce0 ce1 ce2 ce3
          refine (HCM.out _).mono ?_
          rintro e v8 ⟨rfl, z8⟩
          have Nr := Lib.hid (Fr.out.on z8)
          have Nm := Lib.hid (Fm.out.on z8)
          have Nf := Lib.hid (Ff.out.on z8)
          have Nz := Lib.hid (Fz.out.on z8)
          have Np := Lib.hid (Fp.out.on z8)
          have Ne := Lib.hid (Fe.out.on z8)
          have NB := Lib.hid (bel_tr BW.out z8)
          clear BW z8 Fr Fm Ff Fz Fp Fe
          have Fr := Nr
          have Fm := Nm
          have Ff := Nf
          have Fz := Nz
          have Fp := Np
          have Fe := Ne
          have BW := NB
          clear NB Nr Nm Nf Nz Np Ne
          have Lf := Ff.out.lt
          have cf0 := Ff.out.c0
          have cf1 := Ff.out.c1
          have cf2 := Ff.out.c2
          have cf3 := Ff.out.c3
          have ff0 : v8.frozen? ⟨gf, 0, none⟩ = false := Ff.out.frozen 0
          have ff1 : v8.frozen? ⟨gf, 1, none⟩ = false := Ff.out.frozen 1
          have ff2 : v8.frozen? ⟨gf, 2, none⟩ = false := Ff.out.frozen 2
          have ff3 : v8.frozen? ⟨gf, 3, none⟩ = false := Ff.out.frozen 3
          have Lp := Fp.out.lt
          have cp0 : v8.cell? ⟨gp, 0, none⟩ = some (.int .u64 (wd q 0 : Nat)) := Fp.out.cell 0
          have cp1 : v8.cell? ⟨gp, 1, none⟩ = some (.int .u64 (wd q 1 : Nat)) := Fp.out.cell 1
          have cp2 : v8.cell? ⟨gp, 2, none⟩ = some (.int .u64 (wd q 2 : Nat)) := Fp.out.cell 2
          have cp3 : v8.cell? ⟨gp, 3, none⟩ = some (.int .u64 (wd q 3 : Nat)) := Fp.out.cell 3
          have cp4 : v8.cell? ⟨gp, 4, none⟩ = some (.int .u64 (wd y2 0 : Nat)) := Fp.out.cell 4
          have cp5 : v8.cell? ⟨gp, 5, none⟩ = some (.int .u64 (wd y2 1 : Nat)) := Fp.out.cell 5
          have cp6 : v8.cell? ⟨gp, 6, none⟩ = some (.int .u64 (wd y2 2 : Nat)) := Fp.out.cell 6
          have cp7 : v8.cell? ⟨gp, 7, none⟩ = some (.int .u64 (wd y2 3 : Nat)) := Fp.out.cell 7
          have cp8 : v8.cell? ⟨gp, 8, none⟩ = some (.slice a2 l2 cap2) := Fp.out.cell 8
          have Lz := Fz.out.lt
          have cz0 := Fz.out.c0
          have cz1 := Fz.out.c1
          have cz2 := Fz.out.c2
          have cz3 := Fz.out.c3
          have fz0 : v8.frozen? ⟨gz, 0, none⟩ = false := Fz.out.frozen 0
          have fz1 : v8.frozen? ⟨gz, 1, none⟩ = false := Fz.out.frozen 1
          have fz2 : v8.frozen? ⟨gz, 2, none⟩ = false := Fz.out.frozen 2
          have fz3 : v8.frozen? ⟨gz, 3, none⟩ = false := Fz.out.frozen 3
          have hiw : (i : Int) + 1 ≤ 9223372036854775807 := by have := HLT.out; have := HLC.out; omega
          go_wp2_with fail
          clear Lf cf0 cf1 cf2 cf3 ff0 ff1 ff2 ff3 Lp cp0 cp1 cp2 cp3 cp4 cp5 cp6 cp7 cp8 Lz cz0 cz1 cz2 cz3 fz0 fz1 fz2 fz3
          generalize hW9 : ((((((((v8.setCell ⟨gf, 0, none⟩ (.int .u64 (wd Lo 0 : Nat))).setCell ⟨gf, 1, none⟩ (.int .u64 (wd Lo 1 : Nat))).setCell ⟨gf, 2, none⟩ (.int .u64 (wd Lo 2 : Nat))).setCell ⟨gf, 3, none⟩ (.int .u64 (wd Lo 3 : Nat))).setCell ⟨gz, 0, none⟩ (.int .u64 (wd q 0 : Nat))).setCell ⟨gz, 1, none⟩ (.int .u64 (wd q 1 : Nat))).setCell ⟨gz, 2, none⟩ (.int .u64 (wd q 2 : Nat))).setCell ⟨gz, 3, none⟩ (.int .u64 (wd q 3 : Nat))) = W9 at *
          have Nr := at_of hW9 (((Fr.out).far4 Drf _ _ _ _).far4 Drz _ _ _ _)
          have Nm := at_of hW9 (((Fm.out).far4 Dmf _ _ _ _).far4 Dmz _ _ _ _)
          have Nf := at_of hW9 (((Ff.out).put4 _ _ _ _).far4 Dfz _ _ _ _)
          have Nz := at_of hW9 (((Fz.out).far4 Dfz.symm _ _ _ _).put4 _ _ _ _)
          have Np := at_of hW9 (((Fp.out).far4 Dfp.symm _ _ _ _).far4 Dzp.symm _ _ _ _)
          have Ne := at_of hW9 (((Fe.out).far4 Dfe.symm _ _ _ _).far4 Dze.symm _ _ _ _)
          have NB := gr_of hW9 (((((((((BW.out).setCell Ef _).setCell Ef _).setCell Ef _).setCell Ef _).setCell Ez _).setCell Ez _).setCell Ez _).setCell Ez _)
          clear hW9 BW Fr Fm Ff Fz Fp Fe
          have Fr := Lib.hid Nr
          have Fm := Lib.hid Nm
          have Ff := Lib.hid Nf
          have Fz := Lib.hid Nz
          have Fp := Lib.hid Np
          have Fe := Lib.hid Ne
          have BW := Lib.hid NB
          clear NB Nr Nm Nf Nz Np Ne
          go_roundw
          case measure => (have := HLT.out; simp [intOf]; omega)
          case rel =>
            have hlt := HLT.out
            refine ⟨i + 1, Lo, q, by omega, by go_num, Fr.out, Fm.out, Ff.out, Fz.out, BW.out, HLO.out, by unfold lastQ; rw [if_neg (by omega)]; exact HQQ.out.symm, HUP.out, ?_⟩
            intro j hj
            rcases Nat.lt_or_ge j i with h | h
            · exact HD.out j h
            · obtain rfl : j = i := by omega
              rw [HQQ.out]; exact HQD.out
      · have hk2 := cmpN_le0 (Nat.le_of_not_lt hk)
        have hv3 : V = false := by rw [HV.out]; exact reach_norise HIQ.out HQQ.out (by have := HPQ.out.1; omega) (by rw [← HLQ.out]; omega)
        have HV3 := Lib.hid hv3; have HK2 := Lib.hid hk2
        clear hk hv3 hk2
        generalize cmpN q Q = k at *
        try simp only [List.append_eq, List.cons_append, List.nil_append]
        refine wp_region_noPanic ?_
        refine wp_region_held_drew (S := fun w' => At w' gp 27 #[.int .u64 (wd q 0 : Nat), .int .u64 (wd q 1 : Nat), .int .u64 (wd q 2 : Nat), .int .u64 (wd q 3 : Nat), .int .u64 (wd y2 0 : Nat), .int .u64 (wd y2 1 : Nat), .int .u64 (wd y2 2 : Nat), .int .u64 (wd y2 3 : Nat), .slice a2 l2 cap2] ∧ At w' gz 24 #[.int .u64 (wd Q 0 : Nat), .int .u64 (wd Q 1 : Nat), .int .u64 (wd Q 2 : Nat), .int .u64 (wd Q 3 : Nat)] ∧ At w' ge 24 #[.int .u64 (wd G 0 : Nat), .int .u64 (wd G 1 : Nat), .int .u64 (wd G 2 : Nat), .int .u64 (wd G 3 : Nat)]) (by kernel_rfl) (⟨Fp.out.drew, Fz.out.drew, Fe.out.drew⟩) (fun _ => ?_)
        refine wpAnyH_cores (fuel := 0) (⟨0, 24, [], Kind.val (.pointer (some ⟨gp, 0, none⟩)), true⟩ :: ⟨1, 25, [0], Kind.val (.agg #[.int .u64 (wd q 0 : Nat), .int .u64 (wd q 1 : Nat), .int .u64 (wd q 2 : Nat), .int .u64 (wd q 3 : Nat)]), true⟩ :: ⟨2, 26, [1], Kind.val (.agg #[.int .u64 (wd Q 0 : Nat), .int .u64 (wd Q 1 : Nat), .int .u64 (wd Q 2 : Nat), .int .u64 (wd Q 3 : Nat)]), true⟩ :: ⟨3, 27, [1, 2], Kind.val (.int .i64 k), false⟩ :: ⟨4, 28, [3], Kind.val (.bool true), true⟩ :: ⟨5, 29, [4], Kind.val (.bool true), true⟩ :: ⟨6, 30, [5], Kind.val (undef), true⟩ :: ⟨7, 31, [5, 6], Kind.val (undef), true⟩ :: ⟨8, 32, [5, 6, 7], Kind.val (undef), true⟩ :: ⟨9, 33, [5, 8], Kind.val (.bool true), true⟩ :: []) _ _ W6 _ ?_ ?_ ?_ ?_ ?_ ?_ ?_ ?_ ?_ ?_ ?_
        · rfl
        · kernel_rfl
        · exact of_decide_eq_true (by kernel_rfl)
        · exact all_cons ⟨_, by rfl, by rfl⟩ (all_cons ⟨_, by rfl, by rfl⟩ (all_cons ⟨_, by rfl, by rfl⟩ (all_cons ⟨_, by rfl, by rfl⟩ (all_cons ⟨_, by rfl, by rfl⟩ (all_cons ⟨_, by rfl, by rfl⟩ (all_cons ⟨_, by rfl, by rfl⟩ (all_cons ⟨_, by rfl, by rfl⟩ (all_cons ⟨_, by rfl, by rfl⟩ (all_cons ⟨_, by rfl, by rfl⟩ (all_nil))))))))))
        · exact fun _ hb => ⟨Fp.out.on hb, Fz.out.on hb, Fe.out.on hb⟩
        · exact (Below.refl _ _).drew
        · kernel_rfl
        · exact fun _ _ _ _ _ h => h
        · refine all_cons ?_ (all_cons ?_ (all_cons ?_ (all_cons ?_ (all_cons ?_ (all_cons ?_ (all_cons ?_ (all_cons ?_ (all_cons ?_ (all_cons ?_ (all_nil))))))))))
          · exact coreG_held _ _ _ _ _ _ _ _ _ (by rfl) (by rfl) (wants_none) (known_old 8 _ (of_decide_eq_true (by rfl)) (by rfl)) (fun ρ w hx _ => fieldR0 _ _ _ _ _ _ ρ w gp hx)
          · exact coreG_held _ _ _ _ _ _ _ _ _ (by rfl) (by rfl) (wants_none) (known_core 0 24 _ _ (of_decide_eq_true (by rfl)) (by rfl) (by rfl) (by rfl)) (fun ρ w hx hs => loadR0 _ _ _ _ _ _ ρ w gp _ _ _ _ _ _ _ _ _ hx (hs.1))
          · exact coreG_loadP _ _ _ _ _ _ gz _ _ _ _ (by rfl) (by rfl) (wants_none) (known_old 6 _ (of_decide_eq_true (by rfl)) (by rfl)) (fun _ hs => hs.2.1)
          · exact core_pureAs _ (by rfl)
          · exact coreG_bin _ _ _ _ _ _ _ _ _ _ _ _ _ (by rfl) (by rfl) (wants_none) (known_core 3 27 _ _ (of_decide_eq_true (by rfl)) (by rfl) (by rfl) (by rfl)) (known_const _) ((fun ρ w hx hy => by simp only [execOp, hx, hy]; simp [go_sem, HK2.out]))
          · exact coreG_move _ _ _ _ _ _ _ (by rfl) (by rfl) (wants_none) (known_core 4 28 _ _ (of_decide_eq_true (by rfl)) (by rfl) (by rfl) (by rfl))
          · exact coreG_skip _ _ _ _ _ _ (by rfl) (by rfl) (wants_core 5 29 5 _ _ _ (by rfl) (by rfl) (by rfl) (known_core 5 29 _ _ (of_decide_eq_true (by rfl)) (by rfl) (by rfl) (by rfl)) _ (by rfl))
          · exact coreG_skip _ _ _ _ _ _ (by rfl) (by rfl) (wants_core 5 29 5 _ _ _ (by rfl) (by rfl) (by rfl) (known_core 5 29 _ _ (of_decide_eq_true (by rfl)) (by rfl) (by rfl) (by rfl)) _ (by rfl))
          · exact coreG_skip _ _ _ _ _ _ (by rfl) (by rfl) (wants_core 5 29 5 _ _ _ (by rfl) (by rfl) (by rfl) (known_core 5 29 _ _ (of_decide_eq_true (by rfl)) (by rfl) (by rfl) (by rfl)) _ (by rfl))
          · exact coreG_pick _ _ _ _ _ _ _ _ _ _ _ _ (by rfl) (by rfl) (wants_none) (known_core 5 29 _ _ (of_decide_eq_true (by rfl)) (by rfl) (by rfl) (by rfl)) (known_const _) (known_core 8 32 _ _ (of_decide_eq_true (by rfl)) (by rfl) (by rfl) (by rfl)) (by rfl)
        · refine all_cons ?_ (all_cons ?_ (all_cons ?_ (all_cons ?_ (all_cons ?_ (all_cons ?_ (all_cons ?_ (all_cons ?_ (all_cons ?_ (all_cons ?_ (all_nil))))))))))
          · exact core_stepAs _ (by rfl)
          · exact core_stepAs _ (by rfl)
          · exact core_stepAs _ (by rfl)
          · exact fun _ => coreG_call _ 24 _ _ [.tmp 25, .tmp 26] _ _ _ _ _ _ _ (by rfl) Try.func24 (by kernel_rfl) (by rfl) (by rfl) (wants_none) (.cons (known_core 1 25 _ _ (of_decide_eq_true (by rfl)) (by rfl) (by rfl) (by rfl)) (.cons (known_core 2 26 _ _ (of_decide_eq_true (by rfl)) (by rfl) (by rfl) (by rfl)) .nil)) (HK.out)
          · exact core_stepAs _ (by rfl)
          · exact core_stepAs _ (by rfl)
          · exact core_stepAs _ (by rfl)
          · exact core_stepAs _ (by rfl)
          · exact core_stepAs _ (by rfl)
          · exact core_stepAs _ (by rfl)
        intro vs y7 hc
        obtain ⟨vv0, vv1, vv2, vv3, vv4, vv5, vv6, vv7, vv8, vv9, rfl⟩ := len10 vs hc.lv
        have qq0 : vv0 = .pointer (some ⟨gp, 0, none⟩) := by obtain ⟨xx, hx, hy⟩ := hc.ok 0 _ rfl rfl; exact (Option.some.inj (show some vv0 = some xx from hx)).trans hy
        have qq1 : vv1 = .agg #[.int .u64 (wd q 0 : Nat), .int .u64 (wd q 1 : Nat), .int .u64 (wd q 2 : Nat), .int .u64 (wd q 3 : Nat)] := by obtain ⟨xx, hx, hy⟩ := hc.ok 1 _ rfl rfl; exact (Option.some.inj (show some vv1 = some xx from hx)).trans hy
        have qq2 : vv2 = .agg #[.int .u64 (wd Q 0 : Nat), .int .u64 (wd Q 1 : Nat), .int .u64 (wd Q 2 : Nat), .int .u64 (wd Q 3 : Nat)] := by obtain ⟨xx, hx, hy⟩ := hc.ok 2 _ rfl rfl; exact (Option.some.inj (show some vv2 = some xx from hx)).trans hy
        have qq3 : vv3 = .int .i64 k := by obtain ⟨xx, hx, hy⟩ := hc.ok 3 _ rfl rfl; exact (Option.some.inj (show some vv3 = some xx from hx)).trans hy
        have qq4 : vv4 = .bool true := by obtain ⟨xx, hx, hy⟩ := hc.ok 4 _ rfl rfl; exact (Option.some.inj (show some vv4 = some xx from hx)).trans hy
        have qq5 : vv5 = .bool true := by obtain ⟨xx, hx, hy⟩ := hc.ok 5 _ rfl rfl; exact (Option.some.inj (show some vv5 = some xx from hx)).trans hy
        have qq6 : vv6 = undef := by obtain ⟨xx, hx, hy⟩ := hc.ok 6 _ rfl rfl; exact (Option.some.inj (show some vv6 = some xx from hx)).trans hy
        have qq7 : vv7 = undef := by obtain ⟨xx, hx, hy⟩ := hc.ok 7 _ rfl rfl; exact (Option.some.inj (show some vv7 = some xx from hx)).trans hy
        have qq8 : vv8 = undef := by obtain ⟨xx, hx, hy⟩ := hc.ok 8 _ rfl rfl; exact (Option.some.inj (show some vv8 = some xx from hx)).trans hy
        have qq9 : vv9 = .bool true := by obtain ⟨xx, hx, hy⟩ := hc.ok 9 _ rfl rfl; exact (Option.some.inj (show some vv9 = some xx from hx)).trans hy
        have BZ := hc.bel
        clear hc
        have Nr := Fr.out.on BZ
        have Nm := Fm.out.on BZ
        have Nf := Ff.out.on BZ
        have Nz := Fz.out.on BZ
        have Np := Fp.out.on BZ
        have Ne := Fe.out.on BZ
        have NB := bel_tr BW.out BZ
        clear BW BZ Fr Fm Ff Fz Fp Fe
        subst qq0 qq1 qq2 qq3 qq4 qq5 qq6 qq7 qq8 qq9
        simp only [List.map_cons, List.map_nil, over, Act.put, List.setIfInBounds_toArray, List.set_cons_zero, List.set_cons_succ]
        refine wpAnyH_done (by kernel_rfl) ?_ _
        refine NoPanic.normal ?_
        have Fr := Lib.hid Nr
        have Fm := Lib.hid Nm
        have Ff := Lib.hid Nf
        have Fz := Lib.hid Nz
        have Fp := Lib.hid Np
        have Fe := Lib.hid Ne
        have BW := Lib.hid NB
        clear NB Nr Nm Nf Nz Np Ne
        go_wp2
        go_ret
        exact ⟨by rw [HV3.out]; rfl, BW.out⟩
    · have hlt2 : ¬ (i : Int) < (l : Int) := by omega
      have hii : l = i := by omega
      subst hii
      have hfx : X = Pr.fprod (N - 1) qs := by rw [HX.out, ← HQL.out, List.take_length, HM.out]
      have hvv : V = decide (N < X * X) := by rw [HV.out, reach_yes (by rw [HQL.out]; exact HU.out) (by rw [HQL.out, ← HM.out]; exact HD.out), ← hfx]
      have hX : X < 2 ^ 256 := Nat.lt_of_le_of_lt HXM.out HMB.out
      obtain ⟨Lo, Hi, hLo, hHi, hm, CM⟩ := mul_ex X X hX hX
      have HCM := Lib.hid CM; have HVV := Lib.hid hvv; have HMM := Lib.hid hm; have HLO := Lib.hid hLo; have HHI := Lib.hid hHi
      have eqz := eqZ Hi hHi
      have EQZ := Lib.hid eqz
      clear CM hvv hm hX hfx hlt hi hLo hHi eqz
      have Lf := Ff.out.lt
      have cf0 := Ff.out.c0
      have cf1 := Ff.out.c1
      have cf2 := Ff.out.c2
      have cf3 := Ff.out.c3
      go_wp2_with fail
      clear Lf cf0 cf1 cf2 cf3
      refine (HCM.out _).mono ?_
      rintro e v4 ⟨rfl, z4⟩
      have Nr := Lib.hid (Fr.out.on z4)
      have Nm := Lib.hid (Fm.out.on z4)
      have Nf := Lib.hid (Ff.out.on z4)
      have Nz := Lib.hid (Fz.out.on z4)
      have NB := Lib.hid (bel_tr BW.out z4)
      clear BW z4 Fr Fm Ff Fz
      have Fr := Nr
      have Fm := Nm
      have Ff := Nf
      have Fz := Nz
      have BW := NB
      clear NB Nr Nm Nf Nz
      go_upto_region 13 with fail
      have Dro : gr ≠ v4.heap.size := by have := Fr.out.lt; omega
      have Dmo : gm ≠ v4.heap.size := by have := Fm.out.lt; omega
      have Dfo : gf ≠ v4.heap.size := by have := Ff.out.lt; omega
      have Dzo : gz ≠ v4.heap.size := by have := Fz.out.lt; omega
      have Drh : gr ≠ v4.heap.size + 1 := by have := Fr.out.lt; omega
      have Dmh : gm ≠ v4.heap.size + 1 := by have := Fm.out.lt; omega
      have Dfh : gf ≠ v4.heap.size + 1 := by have := Ff.out.lt; omega
      have Dzh : gz ≠ v4.heap.size + 1 := by have := Fz.out.lt; omega
      generalize hW5 : ((v4.alloc (.cells #[.int .u64 (wd Lo 0 : Nat), .int .u64 (wd Lo 1 : Nat), .int .u64 (wd Lo 2 : Nat), .int .u64 (wd Lo 3 : Nat)] 24)).alloc (.cells #[.int .u64 (wd Hi 0 : Nat), .int .u64 (wd Hi 1 : Nat), .int .u64 (wd Hi 2 : Nat), .int .u64 (wd Hi 3 : Nat)] 24)) = W5 at *
      have No : At W5 (v4.heap.size) _ _ := at_of hW5 ((At.at_ _ _ _ _ (by simp)).alloc _)
      have Nh : At W5 (v4.heap.size + 1) _ _ := at_of hW5 (At.at_ _ _ _ _ (by simp))
      have Nr := at_of hW5 ((Fr.out.alloc _).alloc _)
      have Nm := at_of hW5 ((Fm.out.alloc _).alloc _)
      have Nf := at_of hW5 ((Ff.out.alloc _).alloc _)
      have Nz := at_of hW5 ((Fz.out.alloc _).alloc _)
      have NB := gr_of hW5 (gr_alloc (gr_alloc BW.out _) _)
      clear hW5 BW Fr Fm Ff Fz
      generalize v4.heap.size + 1 = gh at *
      generalize v4.heap.size = go at *
      have Fr := Lib.hid Nr
      have Fm := Lib.hid Nm
      have Ff := Lib.hid Nf
      have Fz := Lib.hid Nz
      have Fo := Lib.hid No
      have Fh := Lib.hid Nh
      have BW := Lib.hid NB
      clear NB Nr Nm Nf Nz No Nh
      have eqz := EQZ.out
      by_cases hz : Hi = 0
      · rw [decide_eq_true hz] at eqz
        have HK := Lib.hid (fun w => cmp_any Lo N HLO.out HN.out w)
        have hv2 : V = decide (¬ cmpN Lo N ≤ 0) := by
          have hm := HMM.out
          have hn := HN.out
          subst hz
          rw [HVV.out, hm, decide_eq_decide]
          constructor
          · intro h; exact cmpN_pos0 (by omega)
          · intro h; apply Decidable.byContradiction; intro hc; exact h (cmpN_le0 (by omega))
        have HV2 := Lib.hid hv2
        clear hz hv2
        generalize cmpN Lo N = k at *
        have Lh := Fh.out.lt
        have ch0 := Fh.out.c0
        have ch1 := Fh.out.c1
        have ch2 := Fh.out.c2
        have ch3 := Fh.out.c3
        have Lo := Fo.out.lt
        have co0 := Fo.out.c0
        have co1 := Fo.out.c1
        have co2 := Fo.out.c2
        have co3 := Fo.out.c3
        have Lr := Fr.out.lt
        have cr0 : W5.cell? ⟨gr, 0, none⟩ = some (.int .u64 (wd N 0 : Nat)) := Fr.out.cell 0
        have cr1 : W5.cell? ⟨gr, 1, none⟩ = some (.int .u64 (wd N 1 : Nat)) := Fr.out.cell 1
        have cr2 : W5.cell? ⟨gr, 2, none⟩ = some (.int .u64 (wd N 2 : Nat)) := Fr.out.cell 2
        have cr3 : W5.cell? ⟨gr, 3, none⟩ = some (.int .u64 (wd N 3 : Nat)) := Fr.out.cell 3
        have cr4 : W5.cell? ⟨gr, 4, none⟩ = some (.int .u64 (wd Y 0 : Nat)) := Fr.out.cell 4
        have cr5 : W5.cell? ⟨gr, 5, none⟩ = some (.int .u64 (wd Y 1 : Nat)) := Fr.out.cell 5
        have cr6 : W5.cell? ⟨gr, 6, none⟩ = some (.int .u64 (wd Y 2 : Nat)) := Fr.out.cell 6
        have cr7 : W5.cell? ⟨gr, 7, none⟩ = some (.int .u64 (wd Y 3 : Nat)) := Fr.out.cell 7
        have cr8 : W5.cell? ⟨gr, 8, none⟩ = some (.slice a l cap) := Fr.out.cell 8
        go_wp2_with fail
        clear Lh ch0 ch1 ch2 ch3 Lo co0 co1 co2 co3 Lr cr0 cr1 cr2 cr3 cr4 cr5 cr6 cr7 cr8
        refine (HK.out _).mono ?_
        rintro e v6 ⟨rfl, z6⟩
        have Nr := Lib.hid (Fr.out.on z6)
        have Nm := Lib.hid (Fm.out.on z6)
        have Nf := Lib.hid (Ff.out.on z6)
        have Nz := Lib.hid (Fz.out.on z6)
        have No := Lib.hid (Fo.out.on z6)
        have Nh := Lib.hid (Fh.out.on z6)
        have NB := Lib.hid (bel_tr BW.out z6)
        clear BW z6 Fr Fm Ff Fz Fo Fh
        have Fr := Nr
        have Fm := Nm
        have Ff := Nf
        have Fz := Nz
        have Fo := No
        have Fh := Nh
        have BW := NB
        clear NB Nr Nm Nf Nz No Nh
        by_cases hk : k ≤ 0
        · have hk2 : ¬ (0 < k) := by omega
          have hv3 : V = false := by rw [HV2.out]; simp [hk]
          clear hk
          go_wp2
          go_ret
          exact ⟨by rw [hv3]; simp [hk2], BW.out⟩
        · have hk2 : 0 < k := by omega
          have hv3 : V = true := by rw [HV2.out]; simp [hk2]
          clear hk
          go_wp2
          go_ret
          exact ⟨by rw [hv3]; simp [hk2], BW.out⟩
      · rw [decide_eq_false hz] at eqz
        have hv3 : V = true := by
          have hm := HMM.out
          have hn := HN.out
          rw [HVV.out, hm]; exact decide_eq_true (by omega)
        have HV3 := Lib.hid hv3
        clear hz hv3
        have Lh := Fh.out.lt
        have ch0 := Fh.out.c0
        have ch1 := Fh.out.c1
        have ch2 := Fh.out.c2
        have ch3 := Fh.out.c3
        go_wp2
        go_ret
        exact ⟨by rw [HV3.out]; rfl, BW.out⟩
end Go.Proofs.Ytodlpmepoakdlaa
