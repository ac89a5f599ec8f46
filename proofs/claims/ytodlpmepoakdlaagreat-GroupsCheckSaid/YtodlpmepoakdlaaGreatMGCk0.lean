import Derived.Deep.Cut
import Derived.Test.YtodlpmepoakdlaaGreatMGpl
import Derived.Test.YtodlpmepoakdlaaGreatMRGChk
import Derived.Test.YtodlpmepoakdlaaGreatMRGProd
import Derived.Test.YtodlpmepoakdlaaGreatMSmall
import Derived.Test.YtodlpmepoakdlaaGreatMWitn
namespace Go.Proofs.YtodlpmepoakdlaaGreat
set_option maxRecDepth 100000
set_option maxHeartbeats 8000000
open Go.RowKit
set_option linter.unusedSimpArgs false
set_option linter.unusedVariables false
attribute [local go_sem ↓] Go.wp_at_zero Go.wp_at_succ

open Pr (Rsn)
mutual
def szR : Rsn → Int
 | .mk _ _ ps => wrap64 (1 + Jeo ps (ps.length : Int))
def Jeo : List Rsn → Int → Int
 | [], v => v
 | r :: rs, v => if v ≤ 1048576 then Jeo rs (wrap64 (v + szR r)) else v
end
theorem szR_eq (r : Rsn) : szR r = wrap64 (1 + Jeo r.ps (r.ps.length : Int)) := by cases r; simp only [szR, Rsn.ps]
def Jet (w : World) (r : Rsn) : Prop := ∀ (a : Option Addr) (cap : Nat) (u : World), r.n < 2 ^ 256 → r.w < 2 ^ 256 → Sl w a cap r.ps → Below w.heap.size w u →
 Calls Tryz.prog 4 #[rv r.n r.w (.slice a r.ps.length cap)] u fun e u' => e = .returned (.int .i64 (szR r)) ∧ Below u.heap.size u u'
theorem sizes_step (w : World) (ps : List Rsn) (ih : ∀ p ∈ ps, Jet w p) (a : Option Addr) (cap : Nat) (u : World) (hs : Sl w a cap ps) (hb : Below w.heap.size w u) :
  Calls Tryz.prog 11 #[.slice a ps.length cap] u fun e u' => e = .returned (.int .i64 (Jeo ps (ps.length : Int))) ∧ Below u.heap.size u u' := by
 obtain ⟨l, hl⟩ : ∃ l, ps.length = l := ⟨_, rfl⟩
 obtain ⟨V, hV⟩ : ∃ V, V = Jeo ps (l : Int) := ⟨_, rfl⟩
 have hlc : l ≤ 9223372036854775807 := by rw [← hl]; exact Nat.le_trans hs.1 hs.2.1
 rw [hl, ← hV]
 have HIH := Jfg ih; have HS := Jfg hs; have HL := Jfg hl; have HLC := Jfg hlc; have HB := Jfg hb; have HV := Jfg hV
 clear ih hs hl hlc hb hV
 go_enter Tryz.func11, Tryz.ntmps11
 have BW := Jfg (Below.refl u.heap.size u)
 go_wp2_with fail
 go_loopw [3, 4] (fun s3 s4 wr => ∃ (i : Nat) (v : Int), i ≤ l ∧ s3 = .int .i64 v ∧ s4 = .int .i64 (i : Nat) ∧ Hid (Below u.heap.size u wr ∧ Jeo (ps.drop i) v = V)) (fun _ s _ => l - (intOf s).toNat)
 case atStart => exact ⟨0, l, by omega, rfl, rfl, BW.out, by rw [List.drop_zero, HV.out]⟩
 case round =>
  obtain ⟨i, v, hi, rfl, rfl, hM⟩ := hrel
  clear BW
  have BW := Jfg hM.out.1; have HG := Jfg hM.out.2
  clear hM
  by_cases hlt : i < l
  ·have hlt2 : (i : Int) < (l : Int) := by omega
   have hil : i < ps.length := by rw [HL.out]; exact hlt
   have hdr := List.drop_eq_getElem_cons hil
   by_cases hv : v ≤ 1048576
   ·have hg := HG.out
    rw [hdr, Jeo, if_pos hv] at hg
    obtain ⟨gs, os, a2, cap2, q, y2, l2, ha, hq1, hq2, hq3, hqb, hyb, hs2, e0, e1, e2, e3, e4, e5, e6, e7, e8⟩ := (HS.out.on (bel_tr HB.out BW.out)).cells hil
    obtain ⟨gs2, os2, a3, cap3, q3, y3, l3, ha3, hq13, hq23, hq33, hqb3, hyb3, hs3, f0, f1, f2, f3, f4, f5, f6, f7, f8⟩ := HS.out.cells hil
    obtain ⟨rfl, rfl⟩ : gs2 = gs ∧ os2 = os := by rw [ha] at ha3; cases ha3; exact ⟨rfl, rfl⟩
    obtain ⟨rfl, rfl, rfl⟩ : a3 = a2 ∧ l3 = l2 ∧ cap3 = cap2 := by
     have h := (Vk (bel_tr HB.out BW.out) f8).symm.trans e8
     cases h; exact ⟨rfl, rfl, rfl⟩
    clear f0 f1 f2 f3 f4 f5 f6 f7 f8 hs2 ha3 hqb3 hyb3 hq13 hq23 hq33
    subst ha
    obtain ⟨pt, hpt⟩ : ∃ pt, ps[i] = pt := ⟨_, rfl⟩
    have hmem : pt ∈ ps := by rw [← hpt]; exact List.getElem_mem hil
    rw [hpt] at hq1 hq2 hq3 hs3 hg
    have CI := fun (u2 : World) (hb : Below w.heap.size w u2) => HIH.out pt hmem a3 cap3 u2 (by rw [hq1]; exact hqb) (by rw [hq2]; exact hyb) hs3 hb
    rw [hq1, hq2, hq3] at CI
    have HCI := Jfg CI; have HGG := Jfg hg; have HLT := Jfg hlt
    have hiw : (i : Int) + 1 ≤ 9223372036854775807 := by have := HLC.out; omega
    clear CI hg hmem hs3 hyb hqb hq3 hq2 hq1 hlt hpt hdr hil
    generalize szR pt = z at *
    go_wp2_with fail
    clear e0 e1 e2 e3 e4 e5 e6 e7 e8
    refine (HCI.out _ (bel_tr HB.out BW.out)).mono ?_
    rintro e v1 ⟨rfl, z1⟩
    have BW2 := Jfg (bel_tr BW.out z1)
    clear BW z1
    go_wp2_with fail
    go_roundw
    case measure => (have := HLT.out; simp [intOf]; omega)
    case rel =>
     have hlt := HLT.out
     first
      | exact ⟨i + 1, _, by omega, rfl, by go_num, BW2.out, HGG.out⟩
      | ((repeat apply Exists.intro); exact ⟨⟨i + 1, _, by omega, rfl, by go_num, BW2.out, HGG.out⟩, rfl⟩)
   ·have hg := HG.out
    rw [hdr, Jeo, if_neg hv] at hg
    have HGG := Jfg hg
    clear hg hdr hil hlt
    go_wp2
    go_ret
    exact ⟨by rw [← HGG.out]; rfl, BW.out⟩
  ·have hlt2 : ¬ (i : Int) < (l : Int) := by omega
   have hg := HG.out
   rw [List.drop_eq_nil_of_le (by rw [HL.out]; omega), Jeo] at hg
   have HGG := Jfg hg
   clear hg hlt
   go_wp2
   go_ret
   exact ⟨by rw [← HGG.out]; rfl, BW.out⟩
theorem size_step (w0 : World) (r : Rsn) (ih : ∀ p ∈ r.ps, Jet w0 p) : Jet w0 r := by
 intro a cap w hN hY hs hb
 have CS := fun (u2 : World) (hb2 : Below w.heap.size w u2) => sizes_step w0 r.ps ih a cap u2 hs (bel_tr hb hb2)
 obtain ⟨N, hNe⟩ : ∃ N, N = r.n := ⟨_, rfl⟩
 obtain ⟨Y, hYe⟩ : ∃ Y, Y = r.w := ⟨_, rfl⟩
 obtain ⟨l, hl⟩ : ∃ l, r.ps.length = l := ⟨_, rfl⟩
 rw [szR_eq, ← hNe, ← hYe]
 rw [hl] at CS ⊢
 generalize Jeo r.ps (l : Int) = z at *
 have HCS := Jfg CS
 clear CS ih hN hY hs hb hNe hYe hl
 go_enter Tryz.func4, Tryz.ntmps4
 have BW := Jfg (Below.refl w.heap.size w)
 go_upto_region 3 with fail
 generalize hW1 : (w.alloc (.cells #[.int .u64 (wd N 0), .int .u64 (wd N 1), .int .u64 (wd N 2), .int .u64 (wd N 3), .int .u64 (wd Y 0), .int .u64 (wd Y 1), .int .u64 (wd Y 2), .int .u64 (wd Y 3), .slice a l cap] 29)) = W1 at *
 have Nr : At W1 (w.heap.size) _ _ := Jb hW1 (At.at_ _ _ _ _ (by simp))
 have NB := gr_of hW1 (gr_alloc BW.out _)
 clear hW1 BW 
 obtain ⟨gr, hg0⟩ : ∃ g, g = w.heap.size := ⟨_, rfl⟩
 rw [← hg0] at Nr ⊢
 have Er : w.heap.size ≤ gr := by omega
 clear hg0
 have Fr := Jfg Nr
 have BW := Jfg NB
 clear NB Nr
 have Lr := Fr.out.lt
 obtain ⟨cr0, cr1, cr2, cr3, cr4, cr5, cr6, cr7, cr8⟩ := Jah Fr.out
 go_wp2_with fail
 clear Lr cr0 cr1 cr2 cr3 cr4 cr5 cr6 cr7 cr8
 refine (HCS.out _ BW.out).mono ?_
 rintro e v1 ⟨rfl, z1⟩
 have BW2 := Jfg (bel_tr BW.out z1)
 clear BW z1
 go_wp2
 go_ret
 exact ⟨rfl, BW2.out⟩

theorem Jcp (w : World) : ∀ (k : Nat) (r : Rsn), r.cnt ≤ k → Jet w r
 | 0, r, h => by have := Pr.cnt_pos r; omega
 | k + 1, r, h => size_step w r fun p hp => Jcp w k p (by have := Pr.cnt_part hp; omega)
abbrev Jfb (N Y : Nat) (s : Value) (M Z : Nat) (u : Value) : Array Value := #[.int .u64 (wd N 0), .int .u64 (wd N 1), .int .u64 (wd N 2), .int .u64 (wd N 3), .int .u64 (wd Y 0), .int .u64 (wd Y 1), .int .u64 (wd Y 2), .int .u64 (wd Y 3), s, .int .u64 (wd M 0), .int .u64 (wd M 1), .int .u64 (wd M 2), .int .u64 (wd M 3), .int .u64 (wd Z 0), .int .u64 (wd Z 1), .int .u64 (wd Z 2), .int .u64 (wd Z 3), u]
abbrev r2v (N Y : Nat) (s : Value) (M Z : Nat) (u : Value) : Value := .agg #[.int .u64 (wd N 0), .int .u64 (wd N 1), .int .u64 (wd N 2), .int .u64 (wd N 3), .int .u64 (wd Y 0), .int .u64 (wd Y 1), .int .u64 (wd Y 2), .int .u64 (wd Y 3), s, .int .u64 (wd M 0), .int .u64 (wd M 1), .int .u64 (wd M 2), .int .u64 (wd M 3), .int .u64 (wd Z 0), .int .u64 (wd Z 1), .int .u64 (wd Z 2), .int .u64 (wd Z 3), u]
abbrev Jfc (s u : Value) : Array Value := #[s, u]
abbrev n2v (s u : Value) : Value := .agg #[s, u]
section
variable {x y : Operand} {dst : Option Tmp} {ty : TypeId} {pos : String} {after : Array Edge} {guard : Option (Nat × Bool)} {ρ : Operand → Value} {w : World} {g o : Nat}
theorem Jbx {N Y M Z : Nat} {pa pb : Option Addr} {la ca lb cb : Nat} (hx : ρ x = r2v N Y (.slice pa la ca) M Z (.slice pb lb cb)) : (execOp ρ ⟨dst, .box 30 x, ty, pos, after, guard⟩).run Tryz.prog w = .ok (.value (.pointer (some ⟨w.heap.size, 0, none⟩))) (w.alloc (.cells (Jfb N Y (.slice pa la ca) M Z (.slice pb lb cb)) 30)) := by simp [execOp, hx, go_sem]
theorem Jby {pa pb : Option Addr} {la ca lb cb : Nat} (hx : ρ x = n2v (.slice pa la ca) (.slice pb lb cb)) : (execOp ρ ⟨dst, .box 32 x, ty, pos, after, guard⟩).run Tryz.prog w = .ok (.value (.pointer (some ⟨w.heap.size, 0, none⟩))) (w.alloc (.cells (Jfc (.slice pa la ca) (.slice pb lb cb)) 32)) := by simp [execOp, hx, go_sem]
theorem Wv (hx : ρ x = .pointer (some ⟨g, 0, none⟩)) (hy : ρ y = .int .i64 0) : (execOp ρ ⟨dst, .indexAddr 30 x y, ty, pos, after, guard⟩).run Tryz.prog w = .ok (.value (.pointer (some ⟨g, 0, none⟩))) w := by simp [execOp, hx, hy, go_sem]
theorem Xt (hx : ρ x = .pointer (some ⟨g, 0, none⟩)) (hy : ρ y = .int .i64 0) : (execOp ρ ⟨dst, .indexAddr 32 x y, ty, pos, after, guard⟩).run Tryz.prog w = .ok (.value (.pointer (some ⟨g, 0, none⟩))) w := by simp [execOp, hx, hy, go_sem]
theorem Vz {N Y M Z : Nat} {s u : Value} (hx : ρ x = .pointer (some ⟨g, 0, none⟩)) (h : At w g 30 (Jfb N Y s M Z u)) : (execOp ρ ⟨dst, .load 29 x, ty, pos, after, guard⟩).run Tryz.prog w = .ok (.value (rv N Y s)) w := by
 have c0 : w.cell? ⟨g, 0, none⟩ = some (.int .u64 (wd N 0)) := h.cell 0
 have c1 : w.cell? ⟨g, 1, none⟩ = some (.int .u64 (wd N 1)) := h.cell 1
 have c2 : w.cell? ⟨g, 2, none⟩ = some (.int .u64 (wd N 2)) := h.cell 2
 have c3 : w.cell? ⟨g, 3, none⟩ = some (.int .u64 (wd N 3)) := h.cell 3
 have c4 : w.cell? ⟨g, 4, none⟩ = some (.int .u64 (wd Y 0)) := h.cell 4
 have c5 : w.cell? ⟨g, 5, none⟩ = some (.int .u64 (wd Y 1)) := h.cell 5
 have c6 : w.cell? ⟨g, 6, none⟩ = some (.int .u64 (wd Y 2)) := h.cell 6
 have c7 : w.cell? ⟨g, 7, none⟩ = some (.int .u64 (wd Y 3)) := h.cell 7
 have c8 : w.cell? ⟨g, 8, none⟩ = some (s) := h.cell 8
 simp [execOp, hx, go_sem, c0, c1, c2, c3, c4, c5, c6, c7, c8]
theorem Wq {s u : Value} (hx : ρ x = .pointer (some ⟨g, 0, none⟩)) (h : At w g 32 (Jfc s u)) : (execOp ρ ⟨dst, .load 31 x, ty, pos, after, guard⟩).run Tryz.prog w = .ok (.value s) w := by
 have c0 : w.cell? ⟨g, 0, none⟩ = some s := h.cell 0
 simp [execOp, hx, go_sem, c0]
theorem Xs (hx : ρ x = .pointer (some ⟨g, 0, none⟩)) (hy : ρ y = .int .i64 1) : (execOp ρ ⟨dst, .indexAddr 30 x y, ty, pos, after, guard⟩).run Tryz.prog w = .ok (.value (.pointer (some ⟨g, 9, none⟩))) w := by simp [execOp, hx, hy, go_sem]
theorem Jap (hx : ρ x = .pointer (some ⟨g, 0, none⟩)) (hy : ρ y = .int .i64 1) : (execOp ρ ⟨dst, .indexAddr 32 x y, ty, pos, after, guard⟩).run Tryz.prog w = .ok (.value (.pointer (some ⟨g, 1, none⟩))) w := by simp [execOp, hx, hy, go_sem]
theorem Wp {N Y M Z : Nat} {s u : Value} (hx : ρ x = .pointer (some ⟨g, 9, none⟩)) (h : At w g 30 (Jfb N Y s M Z u)) : (execOp ρ ⟨dst, .load 29 x, ty, pos, after, guard⟩).run Tryz.prog w = .ok (.value (rv M Z u)) w := by
 have c0 : w.cell? ⟨g, 9, none⟩ = some (.int .u64 (wd M 0)) := h.cell 9
 have c1 : w.cell? ⟨g, 10, none⟩ = some (.int .u64 (wd M 1)) := h.cell 10
 have c2 : w.cell? ⟨g, 11, none⟩ = some (.int .u64 (wd M 2)) := h.cell 11
 have c3 : w.cell? ⟨g, 12, none⟩ = some (.int .u64 (wd M 3)) := h.cell 12
 have c4 : w.cell? ⟨g, 13, none⟩ = some (.int .u64 (wd Z 0)) := h.cell 13
 have c5 : w.cell? ⟨g, 14, none⟩ = some (.int .u64 (wd Z 1)) := h.cell 14
 have c6 : w.cell? ⟨g, 15, none⟩ = some (.int .u64 (wd Z 2)) := h.cell 15
 have c7 : w.cell? ⟨g, 16, none⟩ = some (.int .u64 (wd Z 3)) := h.cell 16
 have c8 : w.cell? ⟨g, 17, none⟩ = some (u) := h.cell 17
 simp [execOp, hx, go_sem, c0, c1, c2, c3, c4, c5, c6, c7, c8]
theorem Xh {s u : Value} (hx : ρ x = .pointer (some ⟨g, 1, none⟩)) (h : At w g 32 (Jfc s u)) : (execOp ρ ⟨dst, .load 31 x, ty, pos, after, guard⟩).run Tryz.prog w = .ok (.value u) w := by
 have c0 : w.cell? ⟨g, 1, none⟩ = some u := h.cell 1
 simp [execOp, hx, go_sem, c0]
end
section
variable {P : Program} {ops : Array Oper} {Q : Exit → Act → World → Prop} {a : Act} {n0 : Nat} {w w0 : World} {rest : List Oper} {o : Oper} {N : Nat} {L : List (Nat × Value)} {df : List Deferred}
theorem lx_callE {d : Nat} {f : FuncId} {args : Array Value} {T : Value → World → Prop} (F : Fr a N L df) (hw : Region.wanted o (yielded ops a.tmps) = true) (hdst : o.dst = some d) (hd : Nat.blt d N = true)
  (hr : (execOp a.eval o).run P w = .ok (.enter f args) w) (C : Calls P f args w fun e w' => ∃ u, e = .returned u ∧ T u w')
  (h : ∀ a' w' u, T u w' → Fr a' N ((d, u) :: L) df → wpList P ops Q rest a' w') : wpList P ops Q (o :: rest) a w := by
 unfold wpList
 rw [if_pos hw]
 left
 unfold Oper.wp
 rw [hr, Oper.upon_enter]
 refine C.mono fun e w' ⟨u, he, hT⟩ => ?_
 subst he
 show wpList P ops Q rest (a.put o.dst u) w'
 rw [hdst]
 exact h _ _ _ hT (F.put u hd)
end
theorem NSl.up2 {n m : Nat} {w : World} {a : Option Addr} {cap : Nat} {xs : List Nat} (h : NSl n w a cap xs) (hm : n ≤ m) : NSl m w a cap xs := ⟨h.1, h.2.1, h.2.2.1, h.2.2.2.imp id fun ⟨g, o, ha, hg, hc⟩ => ⟨g, o, ha, Nat.lt_of_lt_of_le hg hm, hc⟩⟩
theorem TwN.on {w w' : World} {v : Value} {xs : List Nat} (h : TwN w.heap.size w v xs) (hb : Below w.heap.size w w') : TwN w'.heap.size w' v xs := by
 obtain ⟨g, o, cap, e, k⟩ := h
 exact ⟨g, o, cap, e, (k.below hb).up2 hb.size⟩
theorem pair_up : ∀ (xs ys : List Nat), xs.length = ys.length → (∀ x ∈ xs, x < 2 ^ 256) → (∀ y ∈ ys, y < 2 ^ 256) → ∃ zs : List NP, zs.map (·.1.1) = xs ∧ zs.map (·.1.2) = ys
 | [], [], _, _, _ => ⟨[], rfl, rfl⟩
 | x :: xs, y :: ys, h, hx, hy => by
  obtain ⟨zs, h1, h2⟩ := pair_up xs ys (by simpa using h) (fun a ha => hx a (List.mem_cons_of_mem _ ha)) (fun a ha => hy a (List.mem_cons_of_mem _ ha))
  exact ⟨⟨(x, y), hx x List.mem_cons_self, hy y List.mem_cons_self⟩ :: zs, by simp [h1], by simp [h2]⟩
 | [], _ :: _, h, _, _ => by simp at h
 | _ :: _, [], h, _, _ => by simp at h
theorem both_prod (P Q G H : Nat) (xs ys : List Nat) (p1 p2 pa pb : Option Addr) (c1 c2 ca cb : Nat) (w : World) (hP : P < 2 ^ 256) (hx : xs.length ≤ 100) (k1 : NSl w.heap.size w p1 c1 xs) (k2 : NSl w.heap.size w p2 c2 ys) (sA : NSl w.heap.size w pa ca xs) (sB : NSl w.heap.size w pb cb ys) :
  ∃ (V : Nat) (er : Int), (∀ u, Below w.heap.size w u → Calls Tryz.prog 6 #[grp P Q G H, .slice p1 xs.length c1, .slice p2 ys.length c2] u fun e w2 => e = .returned (.tuple #[num V, .int .i64 er]) ∧ Below u.heap.size u w2) ∧ (∀ u, Below w.heap.size w u → Calls Tryz.prog 7 #[grp P Q G H, .slice pa xs.length ca, .slice pb ys.length cb] u fun e w2 => e = .returned (.tuple #[num V, .int .i64 er]) ∧ Below u.heap.size u w2) := by
 by_cases h1 : 1 < P
 ·by_cases hl : xs.length = ys.length
  ·obtain ⟨zs, rfl, rfl⟩ := pair_up xs ys hl k1.2.2.1 k2.2.2.1
   rw [List.length_map, List.length_map]
   rw [List.length_map] at hx
   have g1 := fun (u : World) (hu : Below w.heap.size w u) => prod_good P Q G H zs p1 p2 c1 c2 hP h1 u ((k1.below hu).up2 hu.size) ((k2.below hu).up2 hu.size)
   have g2 := fun (u : World) (hu : Below w.heap.size w u) => r8prod_good P Q G H zs pa pb ca cb hP h1 hx u ((sA.below hu).up2 hu.size) ((sB.below hu).up2 hu.size)
   by_cases hm : Jbg P zs = true
   ·simp only [if_pos hm] at g1 g2
    exact ⟨_, _, g1, g2⟩
   ·simp only [if_neg hm] at g1 g2
    exact ⟨_, _, g1, g2⟩
  ·exact ⟨0, 1, fun u _ => prod_len P Q G H _ c1 _ c2 p1 p2 hP (Uy h1) hl u, fun u _ => r8prod_len P Q G H _ ca _ cb pa pb hP (Uy h1) hl u⟩
 ·exact ⟨0, 1, fun u _ => prod_low P Q G H _ c1 _ c2 p1 p2 hP (Jcz (by omega)) u, fun u _ => r8prod_low P Q G H _ ca _ cb pa pb hP (Jcz (by omega)) u⟩
end Go.Proofs.YtodlpmepoakdlaaGreat
