/-
  ReasonSize, ReasonsSize: a number that hangs on the reason alone.
-/
import Derived.Deep.Cut
import Derived.Test.YtodlpmepoakdlaaVSmall
import Derived.Test.YtodlpmepoakdlaaVTree
import Derived.Test.YtodlpmepoakdlaaVWitn
namespace Go.Proofs.Ytodlpmepoakdlaa
set_option maxRecDepth 100000
open Go.RowKit
set_option linter.unusedSimpArgs false
set_option linter.unusedVariables false
attribute [local go_sem ↓] Go.wp_at_zero Go.wp_at_succ

open Pr (Rsn)
mutual
/-- what ReasonSize tells -/
def szR : Rsn → Int
  | .mk _ _ ps => wrap64 (1 + szGo ps (ps.length : Int))
/-- what ReasonsSize tells, from here on -/
def szGo : List Rsn → Int → Int
  | [], v => v
  | r :: rs, v => if v ≤ 1048576 then szGo rs (wrap64 (v + szR r)) else v
end
theorem szR_eq (r : Rsn) : szR r = wrap64 (1 + szGo r.ps (r.ps.length : Int)) := by cases r; simp only [szR, Rsn.ps]
/-- what is said of ReasonSize, of a reason -/
def Sized (w : World) (r : Rsn) : Prop := ∀ (a : Option Addr) (cap : Nat) (u : World), r.n < 2 ^ 256 → r.w < 2 ^ 256 → Sl w a cap r.ps → Below w.heap.size w u →
  Calls Try.prog 10 #[rv r.n r.w (.slice a r.ps.length cap)] u fun e u' => e = .returned (.int .i64 (szR r)) ∧ Below u.heap.size u u'
set_option maxRecDepth 100000 in
set_option maxHeartbeats 8000000 in
theorem sizes_step (w : World) (ps : List Rsn) (ih : ∀ p ∈ ps, Sized w p) (a : Option Addr) (cap : Nat) (u : World) (hs : Sl w a cap ps) (hb : Below w.heap.size w u) :
    Calls Try.prog 28 #[.slice a ps.length cap] u fun e u' => e = .returned (.int .i64 (szGo ps (ps.length : Int))) ∧ Below u.heap.size u u' := by
  obtain ⟨l, hl⟩ : ∃ l, ps.length = l := ⟨_, rfl⟩
  obtain ⟨V, hV⟩ : ∃ V, V = szGo ps (l : Int) := ⟨_, rfl⟩
  have hlc : l ≤ 9223372036854775807 := by rw [← hl]; exact Nat.le_trans hs.1 hs.2.1
  rw [hl, ← hV]
  have HIH := Lib.hid ih; have HS := Lib.hid hs; have HL := Lib.hid hl; have HLC := Lib.hid hlc; have HB := Lib.hid hb; have HV := Lib.hid hV
  clear ih hs hl hlc hb hV
  go_enter Try.func28, Try.ntmps28
  have BW := Lib.hid (Below.refl u.heap.size u)
  go_wp2_with fail
  go_loopw [3, 4] (fun s3 s4 wr => ∃ (i : Nat) (v : Int), i ≤ l ∧ s3 = .int .i64 v ∧ s4 = .int .i64 (i : Nat) ∧ Hid (Below u.heap.size u wr ∧ szGo (ps.drop i) v = V)) (fun _ s _ => l - (intOf s).toNat)
  case atStart => exact ⟨0, l, by omega, rfl, rfl, BW.out, by rw [List.drop_zero, HV.out]⟩
  case round =>
    obtain ⟨i, v, hi, rfl, rfl, hM⟩ := hrel
    clear BW
    have BW := Lib.hid hM.out.1; have HG := Lib.hid hM.out.2
    clear hM
    by_cases hlt : i < l
    · have hlt2 : (i : Int) < (l : Int) := by omega
      have hil : i < ps.length := by rw [HL.out]; exact hlt
      have hdr := List.drop_eq_getElem_cons hil
      by_cases hv : v ≤ 1048576
      · have hg := HG.out
        rw [hdr, szGo, if_pos hv] at hg
        obtain ⟨gs, os, a2, cap2, q, y2, l2, ha, hq1, hq2, hq3, hqb, hyb, hs2, e0, e1, e2, e3, e4, e5, e6, e7, e8⟩ := (HS.out.on (bel_tr HB.out BW.out)).cells hil
        obtain ⟨gs2, os2, a3, cap3, q3, y3, l3, ha3, hq13, hq23, hq33, hqb3, hyb3, hs3, f0, f1, f2, f3, f4, f5, f6, f7, f8⟩ := HS.out.cells hil
        obtain ⟨rfl, rfl⟩ : gs2 = gs ∧ os2 = os := by rw [ha] at ha3; cases ha3; exact ⟨rfl, rfl⟩
        obtain ⟨rfl, rfl, rfl⟩ : a3 = a2 ∧ l3 = l2 ∧ cap3 = cap2 := by
          have h := (cell_on (bel_tr HB.out BW.out) f8).symm.trans e8
          cases h; exact ⟨rfl, rfl, rfl⟩
        clear f0 f1 f2 f3 f4 f5 f6 f7 f8 hs2 ha3 hqb3 hyb3 hq13 hq23 hq33
        subst ha
        obtain ⟨pt, hpt⟩ : ∃ pt, ps[i] = pt := ⟨_, rfl⟩
        have hmem : pt ∈ ps := by rw [← hpt]; exact List.getElem_mem hil
        rw [hpt] at hq1 hq2 hq3 hs3 hg
        have CI := fun (u2 : World) (hb : Below w.heap.size w u2) => HIH.out pt hmem a3 cap3 u2 (by rw [hq1]; exact hqb) (by rw [hq2]; exact hyb) hs3 hb
        rw [hq1, hq2, hq3] at CI
        have HCI := Lib.hid CI; have HGG := Lib.hid hg; have HLT := Lib.hid hlt
        have hiw : (i : Int) + 1 ≤ 9223372036854775807 := by have := HLC.out; omega
        clear CI hg hmem hs3 hyb hqb hq3 hq2 hq1 hlt hpt hdr hil
        generalize szR pt = z at *
        go_wp2_with fail
        clear e0 e1 e2 e3 e4 e5 e6 e7 e8
        refine (HCI.out _ (bel_tr HB.out BW.out)).mono ?_
        rintro e v1 ⟨rfl, z1⟩
        have BW2 := Lib.hid (bel_tr BW.out z1)
        clear BW z1
        go_wp2_with fail
        go_roundw
        case measure => (have := HLT.out; simp [intOf]; omega)
        case rel =>
          have hlt := HLT.out
          first
            | exact ⟨i + 1, _, by omega, rfl, by go_num, BW2.out, HGG.out⟩
            | ((repeat apply Exists.intro); exact ⟨⟨i + 1, _, by omega, rfl, by go_num, BW2.out, HGG.out⟩, rfl⟩)
      · have hg := HG.out
        rw [hdr, szGo, if_neg hv] at hg
        have HGG := Lib.hid hg
        clear hg hdr hil hlt
        go_wp2
        go_ret
        exact ⟨by rw [← HGG.out]; rfl, BW.out⟩
    · have hlt2 : ¬ (i : Int) < (l : Int) := by omega
      have hg := HG.out
      rw [List.drop_eq_nil_of_le (by rw [HL.out]; omega), szGo] at hg
      have HGG := Lib.hid hg
      clear hg hlt
      go_wp2
      go_ret
      exact ⟨by rw [← HGG.out]; rfl, BW.out⟩
set_option maxRecDepth 100000 in
set_option maxHeartbeats 8000000 in
theorem size_step (w0 : World) (r : Rsn) (ih : ∀ p ∈ r.ps, Sized w0 p) : Sized w0 r := by
  intro a cap w hN hY hs hb
  have CS := fun (u2 : World) (hb2 : Below w.heap.size w u2) => sizes_step w0 r.ps ih a cap u2 hs (bel_tr hb hb2)
  obtain ⟨N, hNe⟩ : ∃ N, N = r.n := ⟨_, rfl⟩
  obtain ⟨Y, hYe⟩ : ∃ Y, Y = r.w := ⟨_, rfl⟩
  obtain ⟨l, hl⟩ : ∃ l, r.ps.length = l := ⟨_, rfl⟩
  rw [szR_eq, ← hNe, ← hYe]
  rw [hl] at CS ⊢
  generalize szGo r.ps (l : Int) = z at *
  have HCS := Lib.hid CS
  clear CS ih hN hY hs hb hNe hYe hl
  go_enter Try.func10, Try.ntmps10
  have BW := Lib.hid (Below.refl w.heap.size w)
  go_upto_region 3 with fail
  generalize hW1 : (w.alloc (.cells #[.int .u64 (wd N 0 : Nat), .int .u64 (wd N 1 : Nat), .int .u64 (wd N 2 : Nat), .int .u64 (wd N 3 : Nat), .int .u64 (wd Y 0 : Nat), .int .u64 (wd Y 1 : Nat), .int .u64 (wd Y 2 : Nat), .int .u64 (wd Y 3 : Nat), .slice a l cap] 27)) = W1 at *
  have Nr : At W1 (w.heap.size) _ _ := at_of hW1 (At.at_ _ _ _ _ (by simp))
  have NB := gr_of hW1 (gr_alloc BW.out _)
  clear hW1 BW 
  obtain ⟨gr, hg0⟩ : ∃ g, g = w.heap.size := ⟨_, rfl⟩
  rw [← hg0] at Nr ⊢
  have Er : w.heap.size ≤ gr := by omega
  clear hg0
  have Fr := Lib.hid Nr
  have BW := Lib.hid NB
  clear NB Nr
  have Lr := Fr.out.lt
  have cr0 : W1.cell? ⟨gr, 0, none⟩ = some (.int .u64 (wd N 0 : Nat)) := Fr.out.cell 0
  have cr1 : W1.cell? ⟨gr, 1, none⟩ = some (.int .u64 (wd N 1 : Nat)) := Fr.out.cell 1
  have cr2 : W1.cell? ⟨gr, 2, none⟩ = some (.int .u64 (wd N 2 : Nat)) := Fr.out.cell 2
  have cr3 : W1.cell? ⟨gr, 3, none⟩ = some (.int .u64 (wd N 3 : Nat)) := Fr.out.cell 3
  have cr4 : W1.cell? ⟨gr, 4, none⟩ = some (.int .u64 (wd Y 0 : Nat)) := Fr.out.cell 4
  have cr5 : W1.cell? ⟨gr, 5, none⟩ = some (.int .u64 (wd Y 1 : Nat)) := Fr.out.cell 5
  have cr6 : W1.cell? ⟨gr, 6, none⟩ = some (.int .u64 (wd Y 2 : Nat)) := Fr.out.cell 6
  have cr7 : W1.cell? ⟨gr, 7, none⟩ = some (.int .u64 (wd Y 3 : Nat)) := Fr.out.cell 7
  have cr8 : W1.cell? ⟨gr, 8, none⟩ = some (.slice a l cap) := Fr.out.cell 8
  go_wp2_with fail
  clear Lr cr0 cr1 cr2 cr3 cr4 cr5 cr6 cr7 cr8
  refine (HCS.out _ BW.out).mono ?_
  rintro e v1 ⟨rfl, z1⟩
  have BW2 := Lib.hid (bel_tr BW.out z1)
  clear BW z1
  go_wp2
  go_ret
  exact ⟨rfl, BW2.out⟩

theorem size_any (w : World) : ∀ (k : Nat) (r : Rsn), r.cnt ≤ k → Sized w r
  | 0, r, h => by have := Pr.cnt_pos r; omega
  | k + 1, r, h => size_step w r fun p hp => size_any w k p (by have := Pr.cnt_part hp; omega)
end Go.Proofs.Ytodlpmepoakdlaa
