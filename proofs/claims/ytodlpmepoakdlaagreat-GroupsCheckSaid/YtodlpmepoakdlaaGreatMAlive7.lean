import Derived.Deep.Cut
import Derived.Test.YtodlpmepoakdlaaGreatMShows
import Derived.Test.YtodlpmepoakdlaaGreatMSmall
namespace Go.Proofs.YtodlpmepoakdlaaGreat
set_option maxRecDepth 100000
set_option maxHeartbeats 8000000
open Go.RowKit
attribute [local go_sem ↓] Go.wp_at_zero Go.wp_at_succ
theorem At.put1 {w : World} {g : Nat} {t : TypeId} {a : Value} (h : At w g t #[a]) (a' : Value) : At (w.setCell ⟨g, 0, none⟩ a') g t #[a'] := by simpa using h.set 0 a'
theorem At.far1 {w : World} {g p : Nat} {t : TypeId} {cs : Array Value} (h : At w g t cs) (hne : g ≠ p) (a' : Value) : At (w.setCell ⟨p, 0, none⟩ a') g t cs := h.far (p := ⟨p, 0, none⟩) hne.symm a'
end Go.Proofs.YtodlpmepoakdlaaGreat
namespace Go.Proofs.YtodlpmepoakdlaaGreat.Ck
set_option maxRecDepth 100000
open Go.RowKit
set_option linter.unusedSimpArgs false
set_option linter.unusedVariables false
attribute [local go_sem ↓] Go.wp_at_zero Go.wp_at_succ

structure BK (w : World) (g : Nat) (u W : World) : Prop where
 bel : Below w.heap.size w W
 kept : Kept g u W
theorem BK.size {w : World} {g : Nat} {u W : World} (h : BK w g u W) : w.heap.size ≤ W.heap.size := h.bel.size
theorem kept_set {g : Nat} (w : World) (i : Nat) (v : Value) : Kept g w (w.setCell ⟨g, i, none⟩ v) :=
 ⟨rfl, rfl, rfl, by simp [World.setCell], fun k hk hg => by simp [World.setCell, Array.getElem?_modify, Ne.symm hg]⟩
theorem BK.setCell {w : World} {g : Nat} {u W : World} (h : BK w g u W) (e : w.heap.size ≤ g) {i : Nat} (v : Value) : BK w g u (W.setCell ⟨g, i, none⟩ v) :=
 ⟨h.bel.setCell e _, h.kept.trans (kept_set _ _ _)⟩
theorem gr_alloc {w : World} {g : Nat} {u W : World} (h : BK w g u W) (o : Obj) : BK w g u (W.alloc o) := ⟨Go.Proofs.YtodlpmepoakdlaaGreat.gr_alloc h.bel o, h.kept.trans (Kept.ofBelow (Go.Proofs.YtodlpmepoakdlaaGreat.gr_alloc (Below.refl _ _) o))⟩
theorem gr_of {w : World} {g : Nat} {u W W' : World} (h : W = W') (p : BK w g u W) : BK w g u W' := h ▸ p
theorem bel_tr {w : World} {g : Nat} {u W W' : World} (h : BK w g u W) (k : Below W.heap.size W W') : BK w g u W' := ⟨Go.Proofs.YtodlpmepoakdlaaGreat.bel_tr h.bel k, h.kept.trans (Kept.ofBelow k)⟩
theorem BK.tr {w : World} {g : Nat} {u W W' : World} (h : BK w g u W) (hg : w.heap.size ≤ g) (k : Kept g W W') : BK w g u W' := ⟨Go.Proofs.YtodlpmepoakdlaaGreat.Below.kept h.bel (Nat.le_refl _) k hg, h.kept.trans k⟩
open Pr (Rsn)
def Told (r : Rsn) (L : Nat) (g : Nat) (u : World) (e : Ending) (u' : World) : Prop :=
 ∃ L' : Nat, e = .returned (.bool (decide (r.cnt ≤ L) && r.ok)) ∧ L' ≤ L ∧ (r.cnt ≤ L → r.ok = true → L' + r.cnt = L) ∧ At u' g 3 #[.int .i64 (L' : Nat)] ∧ Kept g u u'
def Jfd (w : World) (g h : Nat) (r : Rsn) : Prop := ∀ (a : Option Addr) (cap L : Nat) (u : World), r.n < 2 ^ 256 → r.w < 2 ^ 256 → Sl w a cap r.ps → Below w.heap.size w u → L ≤ 32 → At u g 3 #[.int .i64 (L : Nat)] →
 At u h 53 #[.func (.func 50) #[] #[.pointer (some ⟨g, 0, none⟩), .pointer (some ⟨h, 0, none⟩)]] →
 Calls Tryz.prog 50 #[rv r.n r.w (.slice a r.ps.length cap), .pointer (some ⟨g, 0, none⟩), .pointer (some ⟨h, 0, none⟩)] u (Told r L g u)

theorem cnts_take (ps : List Rsn) (i : Nat) (h : i < ps.length) : Pr.cnts (ps.take (i + 1)) = Pr.cnts (ps.take i) + (ps[i]).cnt := by
 induction ps generalizing i with
 | nil => simp at h
 | cons p ps ih =>
   cases i with
   | zero => simp [Pr.cnts]
   | succ i =>
     have := ih i (by simpa using h)
     simp only [List.take_succ_cons, Pr.cnts, this, List.getElem_cons_succ]
     omega
theorem cnts_le (ps : List Rsn) (i : Nat) : Pr.cnts (ps.take i) ≤ Pr.cnts ps := by
 induction ps generalizing i with
 | nil => simp [Pr.cnts]
 | cons p ps ih =>
   cases i with
   | zero => simp [Pr.cnts]
   | succ i => have := ih i; simp only [List.take_succ_cons, Pr.cnts]; omega
theorem Jea (r : Rsn) : r.cnt = Pr.cnts r.ps + 1 := by cases r; rfl
theorem ok_eq (r : Rsn) (h : Pr.oks r.ps = true) : r.ok = showB r.n r.w r.ps := by
 cases r with
 | mk n y ps =>
   simp only [Rsn.ps] at h
   rcases Decidable.em (n < 4294967296) with hn | hn
   ·show Rsn.ok _ = showB n y ps
    unfold Rsn.ok showB
    rw [if_pos hn, if_pos hn]
   ·show Rsn.ok _ = showB n y ps
    unfold Rsn.ok showB
    rw [if_neg hn, if_neg hn, h, Bool.true_and]
theorem ok_part {r p : Rsn} (hp : p ∈ r.ps) (h : p.ok = false) : r.ok = false := by
 cases r with
 | mk n y ps =>
   simp only [Rsn.ps] at hp
   unfold Rsn.ok
   split
   ·have : ps.isEmpty = false := by
     cases ps
     ·simp at hp
     ·rfl
    simp [this]
   ·have : Pr.oks ps = false := by
     rcases ho : Pr.oks ps with _ | _
     ·rfl
     ·have := Pr.oks_iff.mp ho p hp
      rw [h] at this; cases this
    simp [this]
theorem part_no {r : Rsn} {L i Li : Nat} {b : Bool} (hx : ∃ h : i < r.ps.length, b = (decide ((r.ps[i]).cnt ≤ Li) && (r.ps[i]).ok)) (hb : b = false) (hc : Li + Pr.cnts (r.ps.take i) + 1 = L) : (decide (r.cnt ≤ L) && r.ok) = false := by
 obtain ⟨hi, hbe⟩ := hx
 rw [hbe] at hb
 rcases Bool.and_eq_false_iff.mp hb with h | h
 ·have h1 : ¬ (r.ps[i]).cnt ≤ Li := by simpa using h
  have h2 := cnts_take r.ps i hi
  have h3 := cnts_le r.ps (i + 1)
  have h4 := Jea r
  have : ¬ r.cnt ≤ L := by omega
  simp [this]
 ·rw [ok_part (List.getElem_mem hi) h, Bool.and_false]

theorem closure_step (w : World) (gc gh : Nat) (Ec : w.heap.size ≤ gc) (hch : gc ≠ gh) (r : Rsn) (ih : ∀ p ∈ r.ps, Jfd w gc gh p) : Jfd w gc gh r := by
 intro a cap L u hN hY hs hb hL Fc0 Fh0
 obtain ⟨ps, hps⟩ : ∃ ps, ps = r.ps := ⟨_, rfl⟩
 obtain ⟨N, hNe⟩ : ∃ N, N = r.n := ⟨_, rfl⟩
 obtain ⟨Y, hYe⟩ : ∃ Y, Y = r.w := ⟨_, rfl⟩
 have HSH := Jfg (fun (hp : ∀ p ∈ ps, Pr.Pri p.n) (w' : World) (hb : Below w.heap.size w w') => shows_any N Y a cap ps (hNe ▸ hN) (hYe ▸ hY) hp w' (by rw [hps]; exact hs.on hb))
 rw [← hps] at hs ⊢
 rw [← hNe, ← hYe]
 obtain ⟨l, hl⟩ : ∃ l, ps.length = l := ⟨_, rfl⟩
 have hlc : l ≤ 9223372036854775807 := by rw [← hl]; exact Nat.le_trans hs.1 hs.2.1
 rw [hl] at HSH ⊢
 have HIH := Jfg ih; have HS := Jfg hs; have HL := Jfg hl; have HPS := Jfg hps; have HLC := Jfg hlc; have HLL := Jfg hL; have HNE := Jfg hNe; have HYE := Jfg hYe
 have Fc := Jfg Fc0; have Fh := Jfg Fh0
 have BW := Jfg (⟨hb, Kept.ofBelow (Below.refl _ _)⟩ : BK w gc u u)
 clear ih hs hl hps hlc hL hN hY hNe hYe Fc0 Fh0 hb
 go_enter Tryz.func50, Tryz.ntmps50
 go_upto_region 1 with fail
 have Er : w.heap.size ≤ u.heap.size := by have := BW.out.size; omega
 have Dcr : gc ≠ u.heap.size := by have := Fc.out.lt; omega
 have Dhr : gh ≠ u.heap.size := by have := Fh.out.lt; omega
 generalize hW1 : (u.alloc (.cells #[.int .u64 (wd N 0), .int .u64 (wd N 1), .int .u64 (wd N 2), .int .u64 (wd N 3), .int .u64 (wd Y 0), .int .u64 (wd Y 1), .int .u64 (wd Y 2), .int .u64 (wd Y 3), .slice a l cap] 29)) = W1 at *
 have Nr : At W1 (u.heap.size) _ _ := Jb hW1 (At.at_ _ _ _ _ (by simp))
 have Nc := Jb hW1 (Fc.out.alloc _)
 have Nh := Jb hW1 (Fh.out.alloc _)
 have NB := gr_of hW1 (gr_alloc BW.out _)
 clear hW1 BW Fc Fh
 generalize u.heap.size = gr at *
 have Fc := Jfg Nc
 have Fh := Jfg Nh
 have Fr := Jfg Nr
 have BW := Jfg NB
 clear NB Nc Nh Nr
 by_cases h0 : L = 0
 ·have h0i : (L : Int) = 0 := by omega
  have HV := Jfg (show (decide (r.cnt ≤ L) && r.ok) = false by rw [decide_eq_false (by have := Jea r; omega)]; rfl)
  have HC0 := Jfg (show ¬ r.cnt ≤ L by have := Jea r; omega)
  clear h0
  have Lc := Fc.out.lt
  have cc0 : W1.cell? ⟨gc, 0, none⟩ = some (.int .i64 (L : Nat)) := Fc.out.cell 0
  go_wp2
  go_ret
  exact ⟨L, by rw [HV.out]; rfl, Nat.le_refl _, fun h => absurd h HC0.out, Fc.out, BW.out.kept⟩
 ·obtain ⟨M, hM⟩ : ∃ M, L = M + 1 := ⟨L - 1, by omega⟩
  have h0i : ¬ (L : Int) = 0 := by omega
  have hLm : (L : Int) - 1 = (M : Nat) := by omega
  have hMb : (M : Int) ≤ 31 := by have := HLL.out; omega
  have HM := Jfg hM
  clear h0 hM
  have Lc := Fc.out.lt
  have cc0 : W1.cell? ⟨gc, 0, none⟩ = some (.int .i64 (L : Nat)) := Fc.out.cell 0
  have fc0 : W1.frozen? ⟨gc, 0, none⟩ = false := Fc.out.frozen 0
  go_upto_region 4 with fail
  clear Lc cc0 fc0
  have hbeq : ((L : Int) == 0) = false := by simpa using h0i
  try simp only [hbeq]
  clear h0i hLm hbeq
  generalize hW2 : (W1.setCell ⟨gc, 0, none⟩ (.int .i64 (M : Nat))) = W2 at *
  have Nc := Jb hW2 ((Fc.out).put1 _)
  have Nh := Jb hW2 ((Fh.out).far1 hch.symm _)
  have Nr := Jb hW2 ((Fr.out).far1 Dcr.symm _)
  have NB := gr_of hW2 ((BW.out).setCell Ec _)
  clear hW2 BW Fc Fh Fr
  have Fc := Jfg Nc
  have Fh := Jfg Nh
  have Fr := Jfg Nr
  have BW := Jfg NB
  clear NB Nc Nh Nr
  have Lr := Fr.out.lt
  obtain ⟨cr0, cr1, cr2, cr3, cr4, cr5, cr6, cr7, cr8⟩ := Jah Fr.out
  go_wp2_with fail
  clear Lr cr0 cr1 cr2 cr3 cr4 cr5 cr6 cr7 cr8
  go_loopw [14] (fun s wr => ∃ i X : Nat, i ≤ l ∧ s = .int .i64 (i : Nat) ∧ Hid (At wr gc 3 #[.int .i64 (X : Nat)] ∧ At wr gh 53 #[.func (.func 50) #[] #[.pointer (some ⟨gc, 0, none⟩), .pointer (some ⟨gh, 0, none⟩)]] ∧ At wr gr 29 #[.int .u64 (wd N 0), .int .u64 (wd N 1), .int .u64 (wd N 2), .int .u64 (wd N 3), .int .u64 (wd Y 0), .int .u64 (wd Y 1), .int .u64 (wd Y 2), .int .u64 (wd Y 3), .slice a l cap] ∧ BK w gc u wr ∧ (X + Pr.cnts (ps.take i) + 1 = L) ∧ (∀ j (hj : j < ps.length), j < i → (ps[j]).ok = true))) (fun s _ => l - (intOf s).toNat)
  case atStart => exact ⟨0, M, by omega, rfl, Fc.out, Fh.out, Fr.out, BW.out, by rw [HM.out]; simp [Pr.cnts], fun j _ h => absurd h (Nat.not_lt_zero _)⟩
  case round =>
   obtain ⟨i, X, hi, rfl, hM⟩ := hrel
   clear BW Fc Fh Fr
   have Fc := Jfg hM.out.1
   have Fh := Jfg hM.out.2.1
   have Fr := Jfg hM.out.2.2.1
   have BW := Jfg hM.out.2.2.2.1
   have HX := Jfg hM.out.2.2.2.2.1
   have HJ := Jfg hM.out.2.2.2.2.2
   clear hM
   by_cases hlt : i < l
   ·have hlt2 : (i : Int) < (l : Int) := by omega
    have hil : i < ps.length := by rw [HL.out]; exact hlt
    obtain ⟨gs, os, a2, cap2, q, y2, l2, ha, hq1, hq2, hq3, hqb, hyb, hs2, e0, e1, e2, e3, e4, e5, e6, e7, e8⟩ := (HS.out.on BW.out.bel).cells hil
    obtain ⟨gs2, os2, a3, cap3, q3, y3, l3, ha3, hq13, hq23, hq33, hqb3, hyb3, hs3, f0, f1, f2, f3, f4, f5, f6, f7, f8⟩ := HS.out.cells hil
    obtain ⟨rfl, rfl⟩ : gs2 = gs ∧ os2 = os := by rw [ha] at ha3; cases ha3; exact ⟨rfl, rfl⟩
    obtain ⟨rfl, rfl, rfl⟩ : a3 = a2 ∧ l3 = l2 ∧ cap3 = cap2 := by
     have h := (Vk BW.out.bel f8).symm.trans e8
     cases h; exact ⟨rfl, rfl, rfl⟩
    clear f0 f1 f2 f3 f4 f5 f6 f7 f8 hs2 ha3 hqb3 hyb3 hq13 hq23 hq33
    subst ha
    obtain ⟨pt, hpt⟩ : ∃ pt, ps[i] = pt := ⟨_, rfl⟩
    have hmem : pt ∈ r.ps := by rw [← HPS.out, ← hpt]; exact List.getElem_mem hil
    rw [hpt] at hq1 hq2 hq3 hs3
    have HPT := Jfg (show ∃ h : i < ps.length, ps[i] = pt from ⟨hil, hpt⟩)
    have hXL : X ≤ 32 := by have := HX.out; have := HLL.out; omega
    have CI := fun (u2 : World) (hb : Below w.heap.size w u2) (h1 : At u2 gc 3 #[.int .i64 (X : Nat)]) h2 => HIH.out _ hmem a3 cap3 X u2 (by rw [hq1]; exact hqb) (by rw [hq2]; exact hyb) hs3 hb hXL h1 h2
    rw [hq1, hq2, hq3] at CI
    have HCI := Jfg CI
    have HLT := Jfg hlt
    clear CI hmem hXL hs3 hyb hqb hq3 hq2 hq1 hlt hpt
    go_upto_region 7 with fail
    clear e0 e1 e2 e3 e4 e5 e6 e7 e8 hil
    have Ep : w.heap.size ≤ wr.heap.size := by have := BW.out.size; omega
    have Dcp : gc ≠ wr.heap.size := by have := Fc.out.lt; omega
    have Dhp : gh ≠ wr.heap.size := by have := Fh.out.lt; omega
    have Drp : gr ≠ wr.heap.size := by have := Fr.out.lt; omega
    generalize hW3 : (wr.alloc (.cells #[.int .u64 (wd q 0), .int .u64 (wd q 1), .int .u64 (wd q 2), .int .u64 (wd q 3), .int .u64 (wd y2 0), .int .u64 (wd y2 1), .int .u64 (wd y2 2), .int .u64 (wd y2 3), .slice a3 l3 cap3] 29)) = W3 at *
    have Np : At W3 (wr.heap.size) _ _ := Jb hW3 (At.at_ _ _ _ _ (by simp))
    have Nc := Jb hW3 (Fc.out.alloc _)
    have Nh := Jb hW3 (Fh.out.alloc _)
    have Nr := Jb hW3 (Fr.out.alloc _)
    have NB := gr_of hW3 (gr_alloc BW.out _)
    clear hW3 BW Fc Fh Fr
    generalize wr.heap.size = gp at *
    have Fc := Jfg Nc
    have Fh := Jfg Nh
    have Fr := Jfg Nr
    have Fp := Jfg Np
    have BW := Jfg NB
    clear NB Nc Nh Nr Np
    have Lh := Fh.out.lt
    have ch0 : W3.cell? ⟨gh, 0, none⟩ = some (.func (.func 50) #[] #[.pointer (some ⟨gc, 0, none⟩), .pointer (some ⟨gh, 0, none⟩)]) := Fh.out.cell 0
    have Lp := Fp.out.lt
    obtain ⟨cp0, cp1, cp2, cp3, cp4, cp5, cp6, cp7, cp8⟩ := Jah Fp.out
    go_wp2_with fail
    clear Lh ch0 Lp cp0 cp1 cp2 cp3 cp4 cp5 cp6 cp7 cp8
    obtain ⟨b, hb⟩ : ∃ b, b = (decide (pt.cnt ≤ X) && pt.ok) := ⟨_, rfl⟩
    have HB := Jfg hb
    refine (HCI.out _ BW.out.bel Fc.out Fh.out).mono ?_
    rintro e v9 ⟨X2, rfl, hXl, hXc, Nc, hk⟩
    rw [← hb]
    have Nh := Fh.out.kept hk hch.symm
    have Nr := Fr.out.kept hk Dcr.symm
    have NB := BW.out.tr Ec hk
    have HXC := Jfg hXc; have HXL := Jfg hXl
    clear hb hXc hXl hk BW Fc Fh Fr Fp
    have Fc := Jfg Nc
    have Fh := Jfg Nh
    have Fr := Jfg Nr
    have BW := Jfg NB
    clear Nc Nh Nr NB
    cases b
    ·have HV := Jfg (part_no (r := r) (L := L) (i := i) (Li := X) (b := false) (by obtain ⟨h, e⟩ := HPT.out; have h2 := h; rw [HPS.out] at h2; refine ⟨h2, ?_⟩; rw [HB.out]; subst e; simp only [HPS.out]) rfl (by rw [← HPS.out]; exact HX.out))
     go_wp2
     go_ret
     refine ⟨X2, by rw [HV.out]; rfl, by have := HXL.out; have := HX.out; omega, fun h1 h2 => ?_, Fc.out, BW.out.kept⟩
     have hv := HV.out
     rw [decide_eq_true h1, h2] at hv; cases hv
    ·have hbb := HB.out
     obtain ⟨hb1, hb2⟩ := Bool.and_eq_true_iff.mp hbb.symm
     have hc := HXC.out (by simpa using hb1) hb2
     have HC := Jfg hc; have HOK := Jfg hb2
     have hiw : (i : Int) + 1 ≤ 9223372036854775807 := by have := HLT.out; have := HLC.out; omega
     clear hbb hb1 hb2 hc
     go_wp2_with fail
     go_roundw
     case measure => (have := HLT.out; simp [intOf]; omega)
     case rel =>
      have hlt := HLT.out
      obtain ⟨hil, hpt⟩ := HPT.out
      have hA : X2 + Pr.cnts (ps.take (i + 1)) + 1 = L := by have h1 := HX.out; have h2 := cnts_take ps i hil; have h3 := HC.out; rw [hpt] at h2; omega
      have hB : ∀ j (hj : j < ps.length), j < i + 1 → (ps[j]).ok = true := by
       intro j hj hji
       rcases Nat.lt_or_ge j i with h | h
       ·exact HJ.out j hj h
       ·obtain rfl : j = i := by omega
        rw [hpt]; exact HOK.out
      first
       | exact ⟨i + 1, X2, by omega, by go_num, Fc.out, Fh.out, Fr.out, BW.out, hA, hB⟩
       | ((repeat apply Exists.intro); exact ⟨⟨i + 1, X2, by omega, by go_num, Fc.out, Fh.out, Fr.out, BW.out, hA, hB⟩, rfl⟩)
   ·have hlt2 : ¬ (i : Int) < (l : Int) := by omega
    have hii : l = i := by omega
    subst hii
    have hoks : Pr.oks ps = true := Pr.oks_iff.mpr fun q hq => by
     obtain ⟨j, hj, rfl⟩ := List.getElem_of_mem hq
     exact HJ.out j hj (by rw [← HL.out]; exact hj)
    have hpri := Pr.oks_pri ps hoks
    have hcn : X + r.cnt = L := by rw [Jea r, ← HPS.out]; have := HX.out; rw [← HL.out, List.take_length] at this; omega
    have hok := ok_eq r (by rw [← HPS.out]; exact hoks)
    rw [← HPS.out, ← HNE.out, ← HYE.out] at hok
    have hv : (decide (r.cnt ≤ L) && r.ok) = showB N Y ps := by rw [decide_eq_true (by omega), Bool.true_and, hok]
    have HSS := Jfg (HSH.out hpri)
    have HV := Jfg hv; have HCN := Jfg hcn
    clear hoks hpri hcn hok hv hlt hi
    generalize showB N Y ps = b at *
    have Lr := Fr.out.lt
    obtain ⟨cr0, cr1, cr2, cr3, cr4, cr5, cr6, cr7, cr8⟩ := Jah Fr.out
    go_wp2_with fail
    clear Lr cr0 cr1 cr2 cr3 cr4 cr5 cr6 cr7 cr8
    refine (HSS.out _ BW.out.bel).mono ?_
    rintro e v3 ⟨rfl, z3⟩
    have Nc := Jfg (Fc.out.on z3)
    have Nh := Jfg (Fh.out.on z3)
    have Nr := Jfg (Fr.out.on z3)
    have NB := Jfg (bel_tr BW.out z3)
    clear BW z3 Fc Fh Fr
    have Fc := Nc
    have Fh := Nh
    have Fr := Nr
    have BW := NB
    clear NB Nc Nh Nr
    go_wp2
    go_ret
    exact ⟨X, by rw [HV.out]; rfl, by have := HCN.out; omega, fun _ _ => HCN.out, Fc.out, BW.out.kept⟩

theorem closure_any (w : World) (gc gh : Nat) (Ec : w.heap.size ≤ gc) (hch : gc ≠ gh) : ∀ (k : Nat) (r : Rsn), r.cnt ≤ k → Jfd w gc gh r
 | 0, r, h => by have := Pr.cnt_pos r; omega
 | k + 1, r, h => closure_step w gc gh Ec hch r fun p hp => closure_any w gc gh Ec hch k p (by have := Pr.cnt_part hp; omega)
end Go.Proofs.YtodlpmepoakdlaaGreat.Ck

namespace Go.Proofs.YtodlpmepoakdlaaGreat
set_option maxRecDepth 100000
open Go.RowKit
set_option linter.unusedSimpArgs false
set_option linter.unusedVariables false
attribute [local go_sem ↓] Go.wp_at_zero Go.wp_at_succ

theorem check_any (r : Pr.Rsn) (a : Option Addr) (cap : Nat) (hN : r.n < 2 ^ 256) (hY : r.w < 2 ^ 256) (w : World) (hs : Sl w a cap r.ps) :
  Calls Tryz.prog 26 #[rv r.n r.w (.slice a r.ps.length cap)] w fun e w' => e = .returned (.bool r.holds) ∧ Below w.heap.size w w' := by
 obtain ⟨N, hNe⟩ : ∃ N, N = r.n := ⟨_, rfl⟩
 obtain ⟨Y, hYe⟩ : ∃ Y, Y = r.w := ⟨_, rfl⟩
 obtain ⟨l, hl⟩ : ∃ l, r.ps.length = l := ⟨_, rfl⟩
 obtain ⟨V, hV⟩ : ∃ V, V = r.holds := ⟨_, rfl⟩
 have CL := fun (gc gh : Nat) (Ec : w.heap.size ≤ gc) (hch : gc ≠ gh) (u : World) (hb : Below w.heap.size w u) => Ck.closure_any w gc gh Ec hch r.cnt r (Nat.le_refl _) a cap 32 u hN hY hs hb (Nat.le_refl _)
 rw [← hNe, ← hYe, hl] at CL
 rw [← hNe, ← hYe, hl, ← hV]
 have HCL := Jfg CL; have HV := Jfg hV
 clear CL hN hY hs hNe hYe hl hV
 go_enter Tryz.func26, Tryz.ntmps26
 have BW := Jfg (Below.refl w.heap.size w)
 go_upto_region 3 with fail
 have Ec : w.heap.size ≤ w.heap.size + 1 := by have := BW.out.size; omega
 have Drc : w.heap.size ≠ w.heap.size + 1 := by omega
 have Eh : w.heap.size ≤ w.heap.size + 1 + 1 := by have := BW.out.size; omega
 have Drh : w.heap.size ≠ w.heap.size + 1 + 1 := by omega
 have Dch : w.heap.size + 1 ≠ w.heap.size + 1 + 1 := by omega
 generalize hW1 : (((w.alloc (.cells #[.int .u64 (wd N 0), .int .u64 (wd N 1), .int .u64 (wd N 2), .int .u64 (wd N 3), .int .u64 (wd Y 0), .int .u64 (wd Y 1), .int .u64 (wd Y 2), .int .u64 (wd Y 3), .slice a l cap] 29)).alloc (.cells #[.int .i64 32] 3)).alloc (.cells #[.nilFunc] 53)) = W1 at *
 have Nr : At W1 (w.heap.size) _ _ := Jb hW1 (((At.at_ _ _ _ _ (by simp)).alloc _).alloc _)
 have Nc : At W1 (w.heap.size + 1) _ _ := Jb hW1 ((At.at_ _ _ _ _ (by simp)).alloc _)
 have Nh : At W1 (w.heap.size + 1 + 1) _ _ := Jb hW1 (At.at_ _ _ _ _ (by simp))
 have NB := gr_of hW1 (gr_alloc (gr_alloc (gr_alloc BW.out _) _) _)
 clear hW1 BW 
 generalize w.heap.size + 1 + 1 = gh at *
 generalize w.heap.size + 1 = gc at *
 obtain ⟨gr, hg0⟩ : ∃ g, g = w.heap.size := ⟨_, rfl⟩
 rw [← hg0] at Nr ⊢
 rw [← hg0] at Drc Drh
 have Er : w.heap.size ≤ gr := by omega
 clear hg0
 have Fr := Jfg Nr
 have Fc := Jfg Nc
 have Fh := Jfg Nh
 have BW := Jfg NB
 clear NB Nr Nc Nh
 have Lh := Fh.out.lt
 have ch0 : W1.cell? ⟨gh, 0, none⟩ = some (.nilFunc) := Fh.out.cell 0
 have fh0 : W1.frozen? ⟨gh, 0, none⟩ = false := Fh.out.frozen 0
 go_upto_region 4 with fail
 clear Lh ch0 fh0
 generalize hW2 : (W1.setCell ⟨gh, 0, none⟩ (.func (.func 50) #[] #[.pointer (some ⟨gc, 0, none⟩), .pointer (some ⟨gh, 0, none⟩)])) = W2 at *
 have Nr := Jb hW2 ((Fr.out).far1 Drh _)
 have Nc := Jb hW2 ((Fc.out).far1 Dch _)
 have Nh := Jb hW2 ((Fh.out).put1 _)
 have NB := gr_of hW2 ((BW.out).setCell Eh _)
 clear hW2 BW Fr Fc Fh
 have Fr := Jfg Nr
 have Fc := Jfg Nc
 have Fh := Jfg Nh
 have BW := Jfg NB
 clear NB Nr Nc Nh
 have Lh := Fh.out.lt
 have ch0 : W2.cell? ⟨gh, 0, none⟩ = some (.func (.func 50) #[] #[.pointer (some ⟨gc, 0, none⟩), .pointer (some ⟨gh, 0, none⟩)]) := Fh.out.cell 0
 have Lr := Fr.out.lt
 obtain ⟨cr0, cr1, cr2, cr3, cr4, cr5, cr6, cr7, cr8⟩ := Jah Fr.out
 go_wp2_with fail
 clear Lh ch0 Lr cr0 cr1 cr2 cr3 cr4 cr5 cr6 cr7 cr8
 refine (HCL.out gc gh Ec Dch _ BW.out Fc.out Fh.out).mono ?_
 rintro e v9 ⟨L, rfl, _, _, _, hk⟩
 have NB := Below.kept BW.out (Nat.le_refl _) hk Ec
 have hv : (decide (r.cnt ≤ 32) && r.ok) = V := by rw [HV.out]; rfl
 rw [hv]
 have BW2 := Jfg NB
 clear NB hk hv BW Fc Fh Fr
 go_wp2
 go_ret
 exact ⟨rfl, BW2.out⟩
def nodiv (n : Nat) : Nat → Nat → Bool
 | 0, lo => decide (lo < 2) || n % lo != 0
 | k + 1, lo => nodiv n k lo && nodiv n k (lo + 2 ^ k)
end Go.Proofs.YtodlpmepoakdlaaGreat
