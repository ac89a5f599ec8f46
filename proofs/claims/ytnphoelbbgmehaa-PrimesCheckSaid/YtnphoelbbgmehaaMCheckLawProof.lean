/-
 balefireref07.Check: whether a reason holds, with not too many in it.
-/
import Derived.Deep.Cut
import Derived.Test.YtnphoelbbgmehaaMAdd
import Derived.Test.YtnphoelbbgmehaaMCheck
import Derived.Test.YtnphoelbbgmehaaMLeftR
import Derived.Test.YtnphoelbbgmehaaMOpenL
import Derived.Test.YtnphoelbbgmehaaMRCore2
import Derived.Test.YtnphoelbbgmehaaMRHolds
import Derived.Test.YtnphoelbbgmehaaMWitn
namespace Go.Proofs.Ytnphoelbbgmehaa
set_option maxRecDepth 100000
open Go.RowKit
set_option linter.unusedSimpArgs false
set_option linter.unusedVariables false
attribute [local go_sem ↓] Go.wp_at_zero Go.wp_at_succ

set_option maxRecDepth 100000 in
set_option maxHeartbeats 8000000 in
theorem rcheck_any (r : Pr.Rsn) (a : Option Addr) (cap : Nat) (hN : r.n < 2 ^ 256) (hY : r.w < 2 ^ 256) (w : World) (hs : Sl w a cap r.ps) :
  Calls Try.prog 15 #[rv r.n r.w (.slice a r.ps.length cap)] w fun e w' => e = .returned (.bool r.holds) ∧ Below w.heap.size w w' := by
 have CM := fun (u : World) (hb : Below w.heap.size w u) => many_any w _ r.ps (Nat.le_refl _) a cap 1 u (by decide) hs hb
 have CH := fun (u : World) (hb : Below w.heap.size w u) => rholds_any r.cnt r (Nat.le_refl _) a cap u hN hY (hs.on hb)
 obtain ⟨N, hNe⟩ : ∃ N, N = r.n := ⟨_, rfl⟩
 obtain ⟨Y, hYe⟩ : ∃ Y, Y = r.w := ⟨_, rfl⟩
 obtain ⟨l, hl⟩ : ∃ l, r.ps.length = l := ⟨_, rfl⟩
 obtain ⟨V, hV⟩ : ∃ V, V = r.holds := ⟨_, rfl⟩
 obtain ⟨b, hb⟩ : ∃ b, b = r.ok := ⟨_, rfl⟩
 obtain ⟨c, hc⟩ : ∃ c, c = min 33 (1 + Pr.cnts r.ps) := ⟨_, rfl⟩
 have hv : V = (decide ((c : Int) ≤ 32) && b) := by
  rw [hV, hb]
  have h1 := cnt_ps r
  simp only [Pr.Rsn.holds]
  congr 1
  rw [decide_eq_decide]
  omega
 have hcb : c ≤ 33 := by omega
 rw [← hNe, ← hYe, hl, ← hV]
 rw [hl, ← hc] at CM
 rw [← hNe, ← hYe, hl, ← hb] at CH
 have HCM := Lib.hid CM; have HCH := Lib.hid CH; have HV := Lib.hid hv
 clear CM CH hN hY hs hNe hYe hl hV hb hc hv
 go_enter Try.func15, Try.ntmps15
 have BW := Lib.hid (Below.refl w.heap.size w)
 go_upto_region 1 with fail
 generalize hW1 : (w.alloc (.cells #[.int .u64 (wd N 0 : Nat), .int .u64 (wd N 1 : Nat), .int .u64 (wd N 2 : Nat), .int .u64 (wd N 3 : Nat), .int .u64 (wd Y 0 : Nat), .int .u64 (wd Y 1 : Nat), .int .u64 (wd Y 2 : Nat), .int .u64 (wd Y 3 : Nat), .slice a l cap] 28)) = W1 at *
 have Nr : At W1 (w.heap.size) _ _ := at_of hW1 (At.at_ _ _ _ _ (by simp))
 have NB := gr_of hW1 (gr_alloc BW.out _)
 clear hW1 BW 
 obtain ⟨gr, hg0⟩ : ∃ g, g = w.heap.size := ⟨_, rfl⟩
 rw [← hg0] at Nr ⊢
 have Er : w.heap.size ≤ gr := by omega
 clear hg0
 have Fr := Lib.hid Nr
 have BW := Lib.hid NB
 clear NB Nr
 have Lr := Fr.out.lt
 have cr0 : W1.cell? ⟨gr, 0, none⟩ = some (.int .u64 (wd N 0 : Nat)) := Fr.out.cell 0
 have cr1 : W1.cell? ⟨gr, 1, none⟩ = some (.int .u64 (wd N 1 : Nat)) := Fr.out.cell 1
 have cr2 : W1.cell? ⟨gr, 2, none⟩ = some (.int .u64 (wd N 2 : Nat)) := Fr.out.cell 2
 have cr3 : W1.cell? ⟨gr, 3, none⟩ = some (.int .u64 (wd N 3 : Nat)) := Fr.out.cell 3
 have cr4 : W1.cell? ⟨gr, 4, none⟩ = some (.int .u64 (wd Y 0 : Nat)) := Fr.out.cell 4
 have cr5 : W1.cell? ⟨gr, 5, none⟩ = some (.int .u64 (wd Y 1 : Nat)) := Fr.out.cell 5
 have cr6 : W1.cell? ⟨gr, 6, none⟩ = some (.int .u64 (wd Y 2 : Nat)) := Fr.out.cell 6
 have cr7 : W1.cell? ⟨gr, 7, none⟩ = some (.int .u64 (wd Y 3 : Nat)) := Fr.out.cell 7
 have cr8 : W1.cell? ⟨gr, 8, none⟩ = some (.slice a l cap) := Fr.out.cell 8
 go_wp2_with fail
 clear Lr cr0 cr1 cr2 cr3 cr4 cr5 cr6 cr7 cr8
 refine (HCM.out _ BW.out).mono ?_
 rintro e v2 ⟨rfl, z2⟩
 have Nr := Lib.hid (Fr.out.on z2)
 have NB := Lib.hid (bel_tr BW.out z2)
 clear BW z2 Fr
 have Fr := Nr
 have BW := NB
 clear NB Nr
 by_cases hk : (c : Int) ≤ 32
 ·have HVV := Lib.hid (show V = b by rw [HV.out, decide_eq_true hk, Bool.true_and])
  have Lr := Fr.out.lt
  have cr0 : v2.cell? ⟨gr, 0, none⟩ = some (.int .u64 (wd N 0 : Nat)) := Fr.out.cell 0
  have cr1 : v2.cell? ⟨gr, 1, none⟩ = some (.int .u64 (wd N 1 : Nat)) := Fr.out.cell 1
  have cr2 : v2.cell? ⟨gr, 2, none⟩ = some (.int .u64 (wd N 2 : Nat)) := Fr.out.cell 2
  have cr3 : v2.cell? ⟨gr, 3, none⟩ = some (.int .u64 (wd N 3 : Nat)) := Fr.out.cell 3
  have cr4 : v2.cell? ⟨gr, 4, none⟩ = some (.int .u64 (wd Y 0 : Nat)) := Fr.out.cell 4
  have cr5 : v2.cell? ⟨gr, 5, none⟩ = some (.int .u64 (wd Y 1 : Nat)) := Fr.out.cell 5
  have cr6 : v2.cell? ⟨gr, 6, none⟩ = some (.int .u64 (wd Y 2 : Nat)) := Fr.out.cell 6
  have cr7 : v2.cell? ⟨gr, 7, none⟩ = some (.int .u64 (wd Y 3 : Nat)) := Fr.out.cell 7
  have cr8 : v2.cell? ⟨gr, 8, none⟩ = some (.slice a l cap) := Fr.out.cell 8
  go_wp2_with fail
  clear Lr cr0 cr1 cr2 cr3 cr4 cr5 cr6 cr7 cr8
  refine (HCH.out _ BW.out).mono ?_
  rintro e v3 ⟨rfl, z3⟩
  have Nr := Lib.hid (Fr.out.on z3)
  have NB := Lib.hid (bel_tr BW.out z3)
  clear BW z3 Fr
  have Fr := Nr
  have BW := NB
  clear NB Nr
  go_wp2
  go_ret
  exact ⟨by rw [HVV.out]; cases b <;> rfl, BW.out⟩
 ·have HVV := Lib.hid (show V = false by rw [HV.out, decide_eq_false hk, Bool.false_and])
  go_wp2
  go_ret
  exact ⟨by rw [HVV.out]; rfl, BW.out⟩
end Go.Proofs.Ytnphoelbbgmehaa

/-
 ReasonSize, ReasonsSize: a number that hangs on the reason alone.
-/
namespace Go.Proofs.Ytnphoelbbgmehaa
set_option maxRecDepth 100000
open Go.RowKit
set_option linter.unusedSimpArgs false
set_option linter.unusedVariables false
attribute [local go_sem ↓] Go.wp_at_zero Go.wp_at_succ

open Pr (Rsn)
mutual
/-- what ReasonSize tells -/
def szR : Rsn → Int
 | .mk _ _ ps => wrap64 (1 + szGo ps (ps.length : Int))
/-- what ReasonsSize tells, from here on -/
def szGo : List Rsn → Int → Int
 | [], v => v
 | r :: rs, v => if v ≤ 1048576 then szGo rs (wrap64 (v + szR r)) else v
end
theorem szR_eq (r : Rsn) : szR r = wrap64 (1 + szGo r.ps (r.ps.length : Int)) := by cases r; simp only [szR, Rsn.ps]
/-- what is said of ReasonSize, of a reason -/
def Sized (w : World) (r : Rsn) : Prop := ∀ (a : Option Addr) (cap : Nat) (u : World), r.n < 2 ^ 256 → r.w < 2 ^ 256 → Sl w a cap r.ps → Below w.heap.size w u →
 Calls Try.prog 12 #[rv r.n r.w (.slice a r.ps.length cap)] u fun e u' => e = .returned (.int .i64 (szR r)) ∧ Below u.heap.size u u'
set_option maxRecDepth 100000 in
set_option maxHeartbeats 8000000 in
theorem sizes_step (w : World) (ps : List Rsn) (ih : ∀ p ∈ ps, Sized w p) (a : Option Addr) (cap : Nat) (u : World) (hs : Sl w a cap ps) (hb : Below w.heap.size w u) :
  Calls Try.prog 28 #[.slice a ps.length cap] u fun e u' => e = .returned (.int .i64 (szGo ps (ps.length : Int))) ∧ Below u.heap.size u u' := by
 obtain ⟨l, hl⟩ : ∃ l, ps.length = l := ⟨_, rfl⟩
 obtain ⟨V, hV⟩ : ∃ V, V = szGo ps (l : Int) := ⟨_, rfl⟩
 have hlc : l ≤ 9223372036854775807 := by rw [← hl]; exact Nat.le_trans hs.1 hs.2.1
 rw [hl, ← hV]
 have HIH := Lib.hid ih; have HS := Lib.hid hs; have HL := Lib.hid hl; have HLC := Lib.hid hlc; have HB := Lib.hid hb; have HV := Lib.hid hV
 clear ih hs hl hlc hb hV
 go_enter Try.func28, Try.ntmps28
 have BW := Lib.hid (Below.refl u.heap.size u)
 go_wp2_with fail
 go_loopw [3, 4] (fun s3 s4 wr => ∃ (i : Nat) (v : Int), i ≤ l ∧ s3 = .int .i64 v ∧ s4 = .int .i64 (i : Nat) ∧ Hid (Below u.heap.size u wr ∧ szGo (ps.drop i) v = V)) (fun _ s _ => l - (intOf s).toNat)
 case atStart => exact ⟨0, l, by omega, rfl, rfl, BW.out, by rw [List.drop_zero, HV.out]⟩
 case round =>
  obtain ⟨i, v, hi, rfl, rfl, hM⟩ := hrel
  clear BW
  have BW := Lib.hid hM.out.1; have HG := Lib.hid hM.out.2
  clear hM
  by_cases hlt : i < l
  ·have hlt2 : (i : Int) < (l : Int) := by omega
   have hil : i < ps.length := by rw [HL.out]; exact hlt
   have hdr := List.drop_eq_getElem_cons hil
   by_cases hv : v ≤ 1048576
   ·have hg := HG.out
    rw [hdr, szGo, if_pos hv] at hg
    obtain ⟨gs, os, a2, cap2, q, y2, l2, ha, hq1, hq2, hq3, hqb, hyb, hs2, e0, e1, e2, e3, e4, e5, e6, e7, e8⟩ := (HS.out.on (bel_tr HB.out BW.out)).cells hil
    obtain ⟨gs2, os2, a3, cap3, q3, y3, l3, ha3, hq13, hq23, hq33, hqb3, hyb3, hs3, f0, f1, f2, f3, f4, f5, f6, f7, f8⟩ := HS.out.cells hil
    obtain ⟨rfl, rfl⟩ : gs2 = gs ∧ os2 = os := by rw [ha] at ha3; cases ha3; exact ⟨rfl, rfl⟩
    obtain ⟨rfl, rfl, rfl⟩ : a3 = a2 ∧ l3 = l2 ∧ cap3 = cap2 := by
     have h := (cell_on (bel_tr HB.out BW.out) f8).symm.trans e8
     cases h; exact ⟨rfl, rfl, rfl⟩
    clear f0 f1 f2 f3 f4 f5 f6 f7 f8 hs2 ha3 hqb3 hyb3 hq13 hq23 hq33
    subst ha
    obtain ⟨pt, hpt⟩ : ∃ pt, ps[i] = pt := ⟨_, rfl⟩
    have hmem : pt ∈ ps := by rw [← hpt]; exact List.getElem_mem hil
    rw [hpt] at hq1 hq2 hq3 hs3 hg
    have CI := fun (u2 : World) (hb : Below w.heap.size w u2) => HIH.out pt hmem a3 cap3 u2 (by rw [hq1]; exact hqb) (by rw [hq2]; exact hyb) hs3 hb
    rw [hq1, hq2, hq3] at CI
    have HCI := Lib.hid CI; have HGG := Lib.hid hg; have HLT := Lib.hid hlt
    have hiw : (i : Int) + 1 ≤ 9223372036854775807 := by have := HLC.out; omega
    clear CI hg hmem hs3 hyb hqb hq3 hq2 hq1 hlt hpt hdr hil
    generalize szR pt = z at *
    go_wp2_with fail
    clear e0 e1 e2 e3 e4 e5 e6 e7 e8
    refine (HCI.out _ (bel_tr HB.out BW.out)).mono ?_
    rintro e v1 ⟨rfl, z1⟩
    have BW2 := Lib.hid (bel_tr BW.out z1)
    clear BW z1
    go_wp2_with fail
    go_roundw
    case measure => (have := HLT.out; simp [intOf]; omega)
    case rel =>
     have hlt := HLT.out
     first
      | exact ⟨i + 1, _, by omega, rfl, by go_num, BW2.out, HGG.out⟩
      | ((repeat apply Exists.intro); exact ⟨⟨i + 1, _, by omega, rfl, by go_num, BW2.out, HGG.out⟩, rfl⟩)
   ·have hg := HG.out
    rw [hdr, szGo, if_neg hv] at hg
    have HGG := Lib.hid hg
    clear hg hdr hil hlt
    go_wp2
    go_ret
    exact ⟨by rw [← HGG.out]; rfl, BW.out⟩
  ·have hlt2 : ¬ (i : Int) < (l : Int) := by omega
   have hg := HG.out
   rw [List.drop_eq_nil_of_le (by rw [HL.out]; omega), szGo] at hg
   have HGG := Lib.hid hg
   clear hg hlt
   go_wp2
   go_ret
   exact ⟨by rw [← HGG.out]; rfl, BW.out⟩
set_option maxRecDepth 100000 in
set_option maxHeartbeats 8000000 in
theorem size_step (w0 : World) (r : Rsn) (ih : ∀ p ∈ r.ps, Sized w0 p) : Sized w0 r := by
 intro a cap w hN hY hs hb
 have CS := fun (u2 : World) (hb2 : Below w.heap.size w u2) => sizes_step w0 r.ps ih a cap u2 hs (bel_tr hb hb2)
 obtain ⟨N, hNe⟩ : ∃ N, N = r.n := ⟨_, rfl⟩
 obtain ⟨Y, hYe⟩ : ∃ Y, Y = r.w := ⟨_, rfl⟩
 obtain ⟨l, hl⟩ : ∃ l, r.ps.length = l := ⟨_, rfl⟩
 rw [szR_eq, ← hNe, ← hYe]
 rw [hl] at CS ⊢
 generalize szGo r.ps (l : Int) = z at *
 have HCS := Lib.hid CS
 clear CS ih hN hY hs hb hNe hYe hl
 go_enter Try.func12, Try.ntmps12
 have BW := Lib.hid (Below.refl w.heap.size w)
 go_upto_region 3 with fail
 generalize hW1 : (w.alloc (.cells #[.int .u64 (wd N 0 : Nat), .int .u64 (wd N 1 : Nat), .int .u64 (wd N 2 : Nat), .int .u64 (wd N 3 : Nat), .int .u64 (wd Y 0 : Nat), .int .u64 (wd Y 1 : Nat), .int .u64 (wd Y 2 : Nat), .int .u64 (wd Y 3 : Nat), .slice a l cap] 28)) = W1 at *
 have Nr : At W1 (w.heap.size) _ _ := at_of hW1 (At.at_ _ _ _ _ (by simp))
 have NB := gr_of hW1 (gr_alloc BW.out _)
 clear hW1 BW 
 obtain ⟨gr, hg0⟩ : ∃ g, g = w.heap.size := ⟨_, rfl⟩
 rw [← hg0] at Nr ⊢
 have Er : w.heap.size ≤ gr := by omega
 clear hg0
 have Fr := Lib.hid Nr
 have BW := Lib.hid NB
 clear NB Nr
 have Lr := Fr.out.lt
 have cr0 : W1.cell? ⟨gr, 0, none⟩ = some (.int .u64 (wd N 0 : Nat)) := Fr.out.cell 0
 have cr1 : W1.cell? ⟨gr, 1, none⟩ = some (.int .u64 (wd N 1 : Nat)) := Fr.out.cell 1
 have cr2 : W1.cell? ⟨gr, 2, none⟩ = some (.int .u64 (wd N 2 : Nat)) := Fr.out.cell 2
 have cr3 : W1.cell? ⟨gr, 3, none⟩ = some (.int .u64 (wd N 3 : Nat)) := Fr.out.cell 3
 have cr4 : W1.cell? ⟨gr, 4, none⟩ = some (.int .u64 (wd Y 0 : Nat)) := Fr.out.cell 4
 have cr5 : W1.cell? ⟨gr, 5, none⟩ = some (.int .u64 (wd Y 1 : Nat)) := Fr.out.cell 5
 have cr6 : W1.cell? ⟨gr, 6, none⟩ = some (.int .u64 (wd Y 2 : Nat)) := Fr.out.cell 6
 have cr7 : W1.cell? ⟨gr, 7, none⟩ = some (.int .u64 (wd Y 3 : Nat)) := Fr.out.cell 7
 have cr8 : W1.cell? ⟨gr, 8, none⟩ = some (.slice a l cap) := Fr.out.cell 8
 go_wp2_with fail
 clear Lr cr0 cr1 cr2 cr3 cr4 cr5 cr6 cr7 cr8
 refine (HCS.out _ BW.out).mono ?_
 rintro e v1 ⟨rfl, z1⟩
 have BW2 := Lib.hid (bel_tr BW.out z1)
 clear BW z1
 go_wp2
 go_ret
 exact ⟨rfl, BW2.out⟩

theorem size_any (w : World) : ∀ (k : Nat) (r : Rsn), r.cnt ≤ k → Sized w r
 | 0, r, h => by have := Pr.cnt_pos r; omega
 | k + 1, r, h => size_step w r fun p hp => size_any w k p (by have := Pr.cnt_part hp; omega)
end Go.Proofs.Ytnphoelbbgmehaa

/-
 The walk of PrimesCheck: it answers true, and nothing that was there is changed.
-/
namespace Go.Proofs.Ytnphoelbbgmehaa
set_option maxRecDepth 100000
open Go.RowKit
set_option linter.unusedSimpArgs false
set_option linter.unusedVariables false
attribute [local go_sem ↓] Go.wp_at_zero Go.wp_at_succ

open Pr (Rsn)
set_option maxRecDepth 100000 in
set_option maxHeartbeats 8000000 in
theorem checklaw_walk (N Y : Nat) (a : Option Addr) (cap : Nat) (ps : List Pr.Rsn) (hN : N < 2 ^ 256) (hY : Y < 2 ^ 256) (hL : Lens (.mk N Y ps)) (w : World) (hs : Sl w a cap ps) :
  Calls Try.prog 4 #[rv N Y (.slice a ps.length cap)] w fun e w' => e = .returned (.bool true) ∧ Below w.heap.size w w' := by
 have HSZ := Lib.hid (fun (u : World) (hb : Below w.heap.size w u) => size_any w _ (.mk N Y ps) (Nat.le_refl _) a cap u hN hY hs hb)
 have HTW := Lib.hid (fun (u : World) (hb : Below w.heap.size w u) => twin_any _ (.mk N Y ps) (Nat.le_refl _) hL a cap u hN hY (hs.on hb))
 have HRC := Lib.hid (fun (u : World) (hb : Below w.heap.size w u) => rcheck_any (.mk N Y ps) a cap hN hY u (hs.on hb))
 have HCK := Lib.hid (fun (g : Nat) (u : World) (h : TwR u g ps) => check_any (.mk N Y ps) _ _ hN hY u (h.tw.1.sl (lens_iff.mp hL).1 (lens_iff.mp hL).2))
 have HLF := Lib.hid (fun (g : Nat) (u : World) (hb : Below w.heap.size w u) (h : TwR u g ps) => left_any _ (.mk N Y ps) (Nat.le_refl _) hL a cap g u hN hY (lens_iff.mp hL).1 (hs.on hb) (TwLs.keep (Nat.zero_le _) (fun _ _ _ h => h) ps (Nat.le_refl _) h.tw.1) h.tw.2)
 simp only [Pr.Rsn.n, Pr.Rsn.w, Pr.Rsn.ps] at HSZ HTW HRC HCK HLF
 obtain ⟨l, hl⟩ : ∃ l, ps.length = l := ⟨_, rfl⟩
 obtain ⟨V, hV⟩ : ∃ V, V = (Pr.Rsn.mk N Y ps).holds := ⟨_, rfl⟩
 rw [hl] at HSZ HTW HRC HCK HLF ⊢
 rw [← hV] at HRC HCK
 generalize szR (.mk N Y ps) = z at *
 clear hN hY hs hl hV hL
 go_enter Try.func4, Try.ntmps4
 have BW := Lib.hid (Below.refl w.heap.size w)
 go_upto_region 1 with fail
 generalize hW1 : (w.alloc (.cells #[.int .u64 (wd N 0 : Nat), .int .u64 (wd N 1 : Nat), .int .u64 (wd N 2 : Nat), .int .u64 (wd N 3 : Nat), .int .u64 (wd Y 0 : Nat), .int .u64 (wd Y 1 : Nat), .int .u64 (wd Y 2 : Nat), .int .u64 (wd Y 3 : Nat), .slice a l cap] 28)) = W1 at *
 have Nr : At W1 (w.heap.size) _ _ := at_of hW1 (At.at_ _ _ _ _ (by simp))
 have NB := gr_of hW1 (gr_alloc BW.out _)
 clear hW1 BW 
 obtain ⟨gr, hg0⟩ : ∃ g, g = w.heap.size := ⟨_, rfl⟩
 rw [← hg0] at Nr ⊢
 have Er : w.heap.size ≤ gr := by omega
 clear hg0
 have Fr := Lib.hid Nr
 have BW := Lib.hid NB
 clear NB Nr
 have Lr := Fr.out.lt
 have cr0 : W1.cell? ⟨gr, 0, none⟩ = some (.int .u64 (wd N 0 : Nat)) := Fr.out.cell 0
 have cr1 : W1.cell? ⟨gr, 1, none⟩ = some (.int .u64 (wd N 1 : Nat)) := Fr.out.cell 1
 have cr2 : W1.cell? ⟨gr, 2, none⟩ = some (.int .u64 (wd N 2 : Nat)) := Fr.out.cell 2
 have cr3 : W1.cell? ⟨gr, 3, none⟩ = some (.int .u64 (wd N 3 : Nat)) := Fr.out.cell 3
 have cr4 : W1.cell? ⟨gr, 4, none⟩ = some (.int .u64 (wd Y 0 : Nat)) := Fr.out.cell 4
 have cr5 : W1.cell? ⟨gr, 5, none⟩ = some (.int .u64 (wd Y 1 : Nat)) := Fr.out.cell 5
 have cr6 : W1.cell? ⟨gr, 6, none⟩ = some (.int .u64 (wd Y 2 : Nat)) := Fr.out.cell 6
 have cr7 : W1.cell? ⟨gr, 7, none⟩ = some (.int .u64 (wd Y 3 : Nat)) := Fr.out.cell 7
 have cr8 : W1.cell? ⟨gr, 8, none⟩ = some (.slice a l cap) := Fr.out.cell 8
 go_wp2_with fail
 clear Lr cr0 cr1 cr2 cr3 cr4 cr5 cr6 cr7 cr8
 refine (HSZ.out _ BW.out).mono ?_
 rintro e v2 ⟨rfl, z2⟩
 have Nr := Lib.hid (Fr.out.on z2)
 have NB := Lib.hid (bel_tr BW.out z2)
 clear BW z2 Fr
 have Fr := Nr
 have BW := NB
 clear NB Nr
 by_cases hz : 20000 < z
 ·go_wp2
  go_ret
  exact ⟨rfl, BW.out⟩
 ·have Lr := Fr.out.lt
  have cr0 : v2.cell? ⟨gr, 0, none⟩ = some (.int .u64 (wd N 0 : Nat)) := Fr.out.cell 0
  have cr1 : v2.cell? ⟨gr, 1, none⟩ = some (.int .u64 (wd N 1 : Nat)) := Fr.out.cell 1
  have cr2 : v2.cell? ⟨gr, 2, none⟩ = some (.int .u64 (wd N 2 : Nat)) := Fr.out.cell 2
  have cr3 : v2.cell? ⟨gr, 3, none⟩ = some (.int .u64 (wd N 3 : Nat)) := Fr.out.cell 3
  have cr4 : v2.cell? ⟨gr, 4, none⟩ = some (.int .u64 (wd Y 0 : Nat)) := Fr.out.cell 4
  have cr5 : v2.cell? ⟨gr, 5, none⟩ = some (.int .u64 (wd Y 1 : Nat)) := Fr.out.cell 5
  have cr6 : v2.cell? ⟨gr, 6, none⟩ = some (.int .u64 (wd Y 2 : Nat)) := Fr.out.cell 6
  have cr7 : v2.cell? ⟨gr, 7, none⟩ = some (.int .u64 (wd Y 3 : Nat)) := Fr.out.cell 7
  have cr8 : v2.cell? ⟨gr, 8, none⟩ = some (.slice a l cap) := Fr.out.cell 8
  go_wp2_with fail
  clear Lr cr0 cr1 cr2 cr3 cr4 cr5 cr6 cr7 cr8
  clear hz
  refine (HTW.out _ BW.out).mono ?_
  rintro e v9 ⟨g2, rfl, hg2, t2, z9⟩
  have Nr := Fr.out.on z9; have NB := bel_tr BW.out z9; have T2 := Lib.hid t2
  clear Fr BW z9 t2 hg2
  have Fr := Lib.hid Nr; have BW := Lib.hid NB
  clear Nr NB
  go_upto_region 4 with fail
  have T3 : TwR (v9.alloc (.cells #[.int .u64 (wd N 0 : Nat), .int .u64 (wd N 1 : Nat), .int .u64 (wd N 2 : Nat), .int .u64 (wd N 3 : Nat), .int .u64 (wd Y 0 : Nat), .int .u64 (wd Y 1 : Nat), .int .u64 (wd Y 2 : Nat), .int .u64 (wd Y 3 : Nat), .slice (some ⟨g2, 0, none⟩) l (l + 1)] 28)) g2 ps := T2.out.on (gr_alloc (Below.refl _ _) _)
  clear T2
  have Et : w.heap.size ≤ v9.heap.size := by have := BW.out.size; omega
  have Drt : gr ≠ v9.heap.size := by have := Fr.out.lt; omega
  generalize hW3 : (v9.alloc (.cells #[.int .u64 (wd N 0 : Nat), .int .u64 (wd N 1 : Nat), .int .u64 (wd N 2 : Nat), .int .u64 (wd N 3 : Nat), .int .u64 (wd Y 0 : Nat), .int .u64 (wd Y 1 : Nat), .int .u64 (wd Y 2 : Nat), .int .u64 (wd Y 3 : Nat), .slice (some ⟨g2, 0, none⟩) l (l + 1)] 28)) = W3 at *
  have Nt : At W3 (v9.heap.size) _ _ := at_of hW3 (At.at_ _ _ _ _ (by simp))
  have Nr := at_of hW3 (Fr.out.alloc _)
  have NB := gr_of hW3 (gr_alloc BW.out _)
  clear hW3 BW Fr
  generalize v9.heap.size = gt at *
  have Fr := Lib.hid Nr
  have Ft := Lib.hid Nt
  have BW := Lib.hid NB
  clear NB Nr Nt
  have HT := Lib.hid T3; clear T3
  cases V
  ·try simp only [List.append_eq, List.cons_append, List.nil_append]
   refine wp_region_noPanic ?_
   refine wp_region_held_drew (S := fun w' => At w' gt 28 #[.int .u64 (wd N 0 : Nat), .int .u64 (wd N 1 : Nat), .int .u64 (wd N 2 : Nat), .int .u64 (wd N 3 : Nat), .int .u64 (wd Y 0 : Nat), .int .u64 (wd Y 1 : Nat), .int .u64 (wd Y 2 : Nat), .int .u64 (wd Y 3 : Nat), .slice (some ⟨g2, 0, none⟩) l (l + 1)] ∧ At w' gr 28 #[.int .u64 (wd N 0 : Nat), .int .u64 (wd N 1 : Nat), .int .u64 (wd N 2 : Nat), .int .u64 (wd N 3 : Nat), .int .u64 (wd Y 0 : Nat), .int .u64 (wd Y 1 : Nat), .int .u64 (wd Y 2 : Nat), .int .u64 (wd Y 3 : Nat), .slice a l cap]) (by kernel_rfl) (⟨Ft.out.drew, Fr.out.drew⟩) (fun _ => ?_)
   refine wpAnyH_cores (fuel := 1) (⟨0, 9, [], Kind.val (.agg #[.int .u64 (wd N 0 : Nat), .int .u64 (wd N 1 : Nat), .int .u64 (wd N 2 : Nat), .int .u64 (wd N 3 : Nat), .int .u64 (wd Y 0 : Nat), .int .u64 (wd Y 1 : Nat), .int .u64 (wd Y 2 : Nat), .int .u64 (wd Y 3 : Nat), .slice (some ⟨g2, 0, none⟩) l (l + 1)]), true⟩ :: ⟨2, 11, [0], Kind.val (.agg #[.int .u64 (wd N 0 : Nat), .int .u64 (wd N 1 : Nat), .int .u64 (wd N 2 : Nat), .int .u64 (wd N 3 : Nat), .int .u64 (wd Y 0 : Nat), .int .u64 (wd Y 1 : Nat), .int .u64 (wd Y 2 : Nat), .int .u64 (wd Y 3 : Nat), .slice a l cap]), true⟩ :: ⟨1, 10, [0, 1], Kind.val (.bool false), false⟩ :: ⟨3, 12, [1, 2], Kind.val (.bool false), false⟩ :: ⟨4, 13, [2, 3], Kind.val (.bool true), true⟩ :: ⟨5, 14, [4], Kind.val (.bool true), true⟩ :: ⟨6, 15, [5], Kind.val (.agg #[.int .u64 (wd N 0 : Nat), .int .u64 (wd N 1 : Nat), .int .u64 (wd N 2 : Nat), .int .u64 (wd N 3 : Nat), .int .u64 (wd Y 0 : Nat), .int .u64 (wd Y 1 : Nat), .int .u64 (wd Y 2 : Nat), .int .u64 (wd Y 3 : Nat), .slice (some ⟨g2, 0, none⟩) l (l + 1)]), true⟩ :: ⟨7, 16, [5, 6], Kind.val (.agg #[.int .u64 (wd N 0 : Nat), .int .u64 (wd N 1 : Nat), .int .u64 (wd N 2 : Nat), .int .u64 (wd N 3 : Nat), .int .u64 (wd Y 0 : Nat), .int .u64 (wd Y 1 : Nat), .int .u64 (wd Y 2 : Nat), .int .u64 (wd Y 3 : Nat), .slice a l cap]), true⟩ :: ⟨8, 17, [5, 6, 7], Kind.val (.bool true), false⟩ :: ⟨9, 18, [5, 8], Kind.val (.bool true), true⟩ :: []) _ _ W3 _ ?_ ?_ ?_ ?_ ?_ ?_ ?_ ?_ ?_ ?_ ?_
   ·rfl
   ·kernel_rfl
   ·exact of_decide_eq_true (by kernel_rfl)
   ·(repeat refine all_cons ⟨_, by rfl, by rfl⟩ ?_); exact all_nil
   ·exact fun _ hb => ⟨Ft.out.on hb, Fr.out.on hb⟩
   ·exact (Below.refl _ _).drew
   ·kernel_rfl
   ·exact fun _ _ _ _ _ h => h
   ·(repeat (refine all_cons ?_ ?_; rotate_left)); exact all_nil
    ·exact coreG_held _ _ _ _ _ _ _ _ _ (by rfl) (by rfl) (wants_none) (ko 3) (fun ρ w hx hs => loadR _ _ _ _ _ _ ρ w gt _ _ _ _ _ _ _ _ _ hx (hs.1))
    ·exact coreG_held _ _ _ _ _ _ _ _ _ (by rfl) (by rfl) (wants_none) (ko 1) (fun ρ w hx hs => loadR _ _ _ _ _ _ ρ w gr _ _ _ _ _ _ _ _ _ hx (hs.2))
    ·exact core_pureAs _ (by rfl)
    ·exact core_pureAs _ (by rfl)
    ·exact coreG_bin _ _ _ _ _ _ _ _ _ _ _ _ _ (by rfl) (by rfl) (wants_none) (kc 2 10) (kc 3 12) ((fun ρ w hx hy => by simp only [execOp, hx, hy]; simp [go_sem]))
    ·exact coreG_move _ _ _ _ _ _ _ (by rfl) (by rfl) (wants_none) (kc 4 13)
    ·exact coreG_held _ _ _ _ _ _ _ _ _ (by rfl) (by rfl) (wc 5 14 5 (kc 5 14)) (ko 3) (fun ρ w hx hs => loadR _ _ _ _ _ _ ρ w gt _ _ _ _ _ _ _ _ _ hx (hs.1))
    ·exact coreG_held _ _ _ _ _ _ _ _ _ (by rfl) (by rfl) (wc 5 14 5 (kc 5 14)) (ko 1) (fun ρ w hx hs => loadR _ _ _ _ _ _ ρ w gr _ _ _ _ _ _ _ _ _ hx (hs.2))
    ·exact core_pureAs _ (by rfl)
    ·exact coreG_pick _ _ _ _ _ _ _ _ _ _ _ _ (by rfl) (by rfl) (wants_none) (kc 5 14) (kc 8 17) (known_const _) (by rfl)
   ·(repeat (refine all_cons ?_ ?_; rotate_left)); exact all_nil
    ·exact sA
    ·exact sA
    ·exact fun _ => coreG_callB _ 14 _ _ [.tmp 9] _ _ _ _ _ _ _ (by rfl) Try.func14 (by kernel_rfl) (by rfl) (by rfl) (wants_none) (.cons (kc 0 9) .nil) ((fun u hb => HCK.out g2 u (HT.out.on hb)))
    ·exact fun _ => coreG_callB _ 15 _ _ [.tmp 11] _ _ _ _ _ _ _ (by rfl) Try.func15 (by kernel_rfl) (by rfl) (by rfl) (wants_none) (.cons (kc 1 11) .nil) ((fun u hb => HRC.out u (bel_tr BW.out hb)))
    ·exact sA
    ·exact sA
    ·exact sA
    ·exact sA
    ·exact fun _ => coreG_callB _ 16 _ _ [.tmp 15, .tmp 16] _ _ _ _ _ _ _ (by rfl) Try.func16 (by kernel_rfl) (by rfl) (by rfl) (wc 5 14 5 (kc 5 14)) (.cons (kc 6 15) (.cons (kc 7 16) .nil)) ((fun u hb => HLF.out g2 u (bel_tr BW.out hb) (HT.out.on hb)))
    ·exact sA
   intro vs y4 hc
   have BZ := bel_tr BW.out hc.bel
   refine assign_one (i := 10) (.tmp 18) 2 _ _ _ (.bool true) (by kernel_rfl) (by rfl) (hc.at_ (of_decide_eq_true (by kernel_rfl)) (by rfl) 9 18 _ (.bool true) (by rfl) (by rfl) (by rfl)) (⟨Ft.out.on hc.bel, Fr.out.on hc.bel⟩) ?_
   refine wpAnyH_done (by kernel_rfl) ?_ _
   refine NoPanic.normal ?_
   generalize hA : Act.put (over _ _ vs) (some 2) (.bool true) = A
   have hA0 : A.tmps.getD 2 undef = .bool true := by rw [← hA]; exact put_at _ _ _ (by rw [over_size]; exact Nat.le_of_ble_eq_true rfl)
   have hAd : A.defers = [] := by rw [← hA, put_defers, over_defers]
   clear hA hc
   go_wp2_with fail
   refine bodyPost_ret (v := .bool true) (by simp [results, Try.results4, go_sem] at hA0 ⊢; simp [hA0]) hAd ⟨rfl, BZ⟩
  ·try simp only [List.append_eq, List.cons_append, List.nil_append]
   refine wp_region_noPanic ?_
   refine wp_region_held_drew (S := fun w' => At w' gt 28 #[.int .u64 (wd N 0 : Nat), .int .u64 (wd N 1 : Nat), .int .u64 (wd N 2 : Nat), .int .u64 (wd N 3 : Nat), .int .u64 (wd Y 0 : Nat), .int .u64 (wd Y 1 : Nat), .int .u64 (wd Y 2 : Nat), .int .u64 (wd Y 3 : Nat), .slice (some ⟨g2, 0, none⟩) l (l + 1)] ∧ At w' gr 28 #[.int .u64 (wd N 0 : Nat), .int .u64 (wd N 1 : Nat), .int .u64 (wd N 2 : Nat), .int .u64 (wd N 3 : Nat), .int .u64 (wd Y 0 : Nat), .int .u64 (wd Y 1 : Nat), .int .u64 (wd Y 2 : Nat), .int .u64 (wd Y 3 : Nat), .slice a l cap]) (by kernel_rfl) (⟨Ft.out.drew, Fr.out.drew⟩) (fun _ => ?_)
   refine wpAnyH_cores (fuel := 1) (⟨0, 9, [], Kind.val (.agg #[.int .u64 (wd N 0 : Nat), .int .u64 (wd N 1 : Nat), .int .u64 (wd N 2 : Nat), .int .u64 (wd N 3 : Nat), .int .u64 (wd Y 0 : Nat), .int .u64 (wd Y 1 : Nat), .int .u64 (wd Y 2 : Nat), .int .u64 (wd Y 3 : Nat), .slice (some ⟨g2, 0, none⟩) l (l + 1)]), true⟩ :: ⟨2, 11, [0], Kind.val (.agg #[.int .u64 (wd N 0 : Nat), .int .u64 (wd N 1 : Nat), .int .u64 (wd N 2 : Nat), .int .u64 (wd N 3 : Nat), .int .u64 (wd Y 0 : Nat), .int .u64 (wd Y 1 : Nat), .int .u64 (wd Y 2 : Nat), .int .u64 (wd Y 3 : Nat), .slice a l cap]), true⟩ :: ⟨1, 10, [0, 1], Kind.val (.bool true), false⟩ :: ⟨3, 12, [1, 2], Kind.val (.bool true), false⟩ :: ⟨4, 13, [2, 3], Kind.val (.bool true), true⟩ :: ⟨5, 14, [4], Kind.val (.bool true), true⟩ :: ⟨6, 15, [5], Kind.val (.agg #[.int .u64 (wd N 0 : Nat), .int .u64 (wd N 1 : Nat), .int .u64 (wd N 2 : Nat), .int .u64 (wd N 3 : Nat), .int .u64 (wd Y 0 : Nat), .int .u64 (wd Y 1 : Nat), .int .u64 (wd Y 2 : Nat), .int .u64 (wd Y 3 : Nat), .slice (some ⟨g2, 0, none⟩) l (l + 1)]), true⟩ :: ⟨7, 16, [5, 6], Kind.val (.agg #[.int .u64 (wd N 0 : Nat), .int .u64 (wd N 1 : Nat), .int .u64 (wd N 2 : Nat), .int .u64 (wd N 3 : Nat), .int .u64 (wd Y 0 : Nat), .int .u64 (wd Y 1 : Nat), .int .u64 (wd Y 2 : Nat), .int .u64 (wd Y 3 : Nat), .slice a l cap]), true⟩ :: ⟨8, 17, [5, 6, 7], Kind.val (.bool true), false⟩ :: ⟨9, 18, [5, 8], Kind.val (.bool true), true⟩ :: []) _ _ W3 _ ?_ ?_ ?_ ?_ ?_ ?_ ?_ ?_ ?_ ?_ ?_
   ·rfl
   ·kernel_rfl
   ·exact of_decide_eq_true (by kernel_rfl)
   ·(repeat refine all_cons ⟨_, by rfl, by rfl⟩ ?_); exact all_nil
   ·exact fun _ hb => ⟨Ft.out.on hb, Fr.out.on hb⟩
   ·exact (Below.refl _ _).drew
   ·kernel_rfl
   ·exact fun _ _ _ _ _ h => h
   ·(repeat (refine all_cons ?_ ?_; rotate_left)); exact all_nil
    ·exact coreG_held _ _ _ _ _ _ _ _ _ (by rfl) (by rfl) (wants_none) (ko 3) (fun ρ w hx hs => loadR _ _ _ _ _ _ ρ w gt _ _ _ _ _ _ _ _ _ hx (hs.1))
    ·exact coreG_held _ _ _ _ _ _ _ _ _ (by rfl) (by rfl) (wants_none) (ko 1) (fun ρ w hx hs => loadR _ _ _ _ _ _ ρ w gr _ _ _ _ _ _ _ _ _ hx (hs.2))
    ·exact core_pureAs _ (by rfl)
    ·exact core_pureAs _ (by rfl)
    ·exact coreG_bin _ _ _ _ _ _ _ _ _ _ _ _ _ (by rfl) (by rfl) (wants_none) (kc 2 10) (kc 3 12) ((fun ρ w hx hy => by simp only [execOp, hx, hy]; simp [go_sem]))
    ·exact coreG_move _ _ _ _ _ _ _ (by rfl) (by rfl) (wants_none) (kc 4 13)
    ·exact coreG_held _ _ _ _ _ _ _ _ _ (by rfl) (by rfl) (wc 5 14 5 (kc 5 14)) (ko 3) (fun ρ w hx hs => loadR _ _ _ _ _ _ ρ w gt _ _ _ _ _ _ _ _ _ hx (hs.1))
    ·exact coreG_held _ _ _ _ _ _ _ _ _ (by rfl) (by rfl) (wc 5 14 5 (kc 5 14)) (ko 1) (fun ρ w hx hs => loadR _ _ _ _ _ _ ρ w gr _ _ _ _ _ _ _ _ _ hx (hs.2))
    ·exact core_pureAs _ (by rfl)
    ·exact coreG_pick _ _ _ _ _ _ _ _ _ _ _ _ (by rfl) (by rfl) (wants_none) (kc 5 14) (kc 8 17) (known_const _) (by rfl)
   ·(repeat (refine all_cons ?_ ?_; rotate_left)); exact all_nil
    ·exact sA
    ·exact sA
    ·exact fun _ => coreG_callB _ 14 _ _ [.tmp 9] _ _ _ _ _ _ _ (by rfl) Try.func14 (by kernel_rfl) (by rfl) (by rfl) (wants_none) (.cons (kc 0 9) .nil) ((fun u hb => HCK.out g2 u (HT.out.on hb)))
    ·exact fun _ => coreG_callB _ 15 _ _ [.tmp 11] _ _ _ _ _ _ _ (by rfl) Try.func15 (by kernel_rfl) (by rfl) (by rfl) (wants_none) (.cons (kc 1 11) .nil) ((fun u hb => HRC.out u (bel_tr BW.out hb)))
    ·exact sA
    ·exact sA
    ·exact sA
    ·exact sA
    ·exact fun _ => coreG_callB _ 16 _ _ [.tmp 15, .tmp 16] _ _ _ _ _ _ _ (by rfl) Try.func16 (by kernel_rfl) (by rfl) (by rfl) (wc 5 14 5 (kc 5 14)) (.cons (kc 6 15) (.cons (kc 7 16) .nil)) ((fun u hb => HLF.out g2 u (bel_tr BW.out hb) (HT.out.on hb)))
    ·exact sA
   intro vs y4 hc
   have BZ := bel_tr BW.out hc.bel
   refine assign_one (i := 10) (.tmp 18) 2 _ _ _ (.bool true) (by kernel_rfl) (by rfl) (hc.at_ (of_decide_eq_true (by kernel_rfl)) (by rfl) 9 18 _ (.bool true) (by rfl) (by rfl) (by rfl)) (⟨Ft.out.on hc.bel, Fr.out.on hc.bel⟩) ?_
   refine wpAnyH_done (by kernel_rfl) ?_ _
   refine NoPanic.normal ?_
   generalize hA : Act.put (over _ _ vs) (some 2) (.bool true) = A
   have hA0 : A.tmps.getD 2 undef = .bool true := by rw [← hA]; exact put_at _ _ _ (by rw [over_size]; exact Nat.le_of_ble_eq_true rfl)
   have hAd : A.defers = [] := by rw [← hA, put_defers, over_defers]
   clear hA hc
   go_wp2_with fail
   refine bodyPost_ret (v := .bool true) (by simp [results, Try.results4, go_sem] at hA0 ⊢; simp [hA0]) hAd ⟨rfl, BZ⟩
end Go.Proofs.Ytnphoelbbgmehaa

/-
 PrimesCheck, for every input: it answers true, and its arguments read as they did. No condition.
-/
namespace Go.Proofs.Ytnphoelbbgmehaa
set_option maxRecDepth 100000
set_option linter.unusedSimpArgs false
set_option linter.unusedVariables false
open Go.ChangeShapes Go.WideShapes Go.ChangeAt Go.RowKit

theorem primesCheck_lifted (os : Os) (started : os.Started) (H : Type) (enc : TypeId × Value → H) :
  ReturnsInHanded {} Try.checked os 4 .any (Rows.primesCheckSpec.pre6 enc Try.prog Try.f4 Rows.primesCheckRow.domain false) (Rows.primesCheckSpec.post enc Try.prog Try.f4 false true false false) := by
 refine returnsInHanded_of_change_sized (C := Try.checked) own started (by kernel_rfl) Try.func4
  (ChangeSpec.witness6 (enc := enc) (C := Try.checked) false ⟨#[], #[.agg #[.int .u64 0, .int .u64 0, .int .u64 0, .int .u64 0, .int .u64 0, .int .u64 0, .int .u64 0, .int .u64 0, .slice none 0 0]], []⟩ 8 (by kernel_rfl) (by kernel_rfl) (by kernel_rfl) (by kernel_rfl)) ?_
 intro W base args ds gs before hval0 hW hcnd hsz _
 have hval : ∀ (j : Nat) t v, Try.f4.params[j]? = some t → args[j]? = some v → Value.okWide Try.prog W .any base t v := hval0
 have hW' := hW
 obtain ⟨p, q, hA0, hV, rfl, hfz, hnd⟩ := hW
 have hA : DataW.TrodAll enc Try.prog W 0 (fun _ => true) true Try.f4.params.toList args.toList ds p := hA0
 rw [Try.params4] at hA hval hsz
 obtain ⟨v0, d0, rfl, rfl, h0⟩ := trodAll_one hA
 obtain ⟨rfl, rfl⟩ := trodVars_none hV
 have t0 := h0
 have lt0 : ∀ x ∈ p, x.block < W.heap.size := by obtain ⟨m, hm⟩ := t0; exact DataW.trod_lt m _ _ _ hm
 obtain ⟨n0, y0, a0, cap0, ps0, rfl, hn0, hy0, hs0, hL0⟩ := open_reasonL (hval 0 28 v0 rfl rfl) h0
 have hL := hL0 (weigh hsz (j := 0) rfl rfl)
 clear hA0 hval0
 refine (checklaw_walk n0 y0 a0 cap0 ps0 hn0 hy0 hL W hs0).mono fun e W' ⟨he, bel⟩ => ?_
 subst he
 exact ⟨_, rfl, _, _, _, [], _, [], hW', trodAll_mk1 (shut_bool Try.underlying4 _), (trodAll_cons_mk (Below.trod laidOut (by kernel_rfl) (of_decide_eq_true (by kernel_rfl)) t0 bel lt0) trodAll_mk0), rfl, bel.frame _, fun h => by cases h⟩

theorem primesCheck_holds : Rows.PrimesCheckSaid :=
 OpenClaim.holds_of_wide 4 Try.f4 rfl rfl rfl rfl rfl rfl rfl ⟨rfl, rfl, rfl, rfl, rfl⟩ rfl rfl rfl rfl rfl (by kernel_rfl) Try.func4 (by kernel_rfl)
  (of_decide_eq_true (by kernel_rfl)) (by unfold Func.isWrapper; first | (rw [if_pos (by decide +kernel)]; kernel_rfl) | (rw [if_neg (by decide +kernel)]; exact ⟨rfl, rfl⟩))
  (fun os started H enc _ => primesCheck_lifted os started H enc)
#print axioms primesCheck_holds
end Go.Proofs.Ytnphoelbbgmehaa
