/-
 Blocks of api.Reason, nine cells: fields' addresses, loads, among the operations of a region that draws its order.
-/
import Derived.Deep.Cut
import Derived.RangeFuncNested
import Derived.RangeFuncLeaves
import Derived.Shelf.Abstract
import Derived.WalkKit
import Derived.OwnWalkIn
import Derived.TacticsInMore
import Derived.LoopNIn
import Derived.LoopIn
import Derived.Stop.RegionWithIn
import Derived.Test.YtbggihkigblnfaaWMod11
import Derived.Test.YtbggihkigblnfaaWMult
import Derived.Test.YtbggihkigblnfaaWTree
namespace Go.Proofs.Ytbggihkigblnfaa
set_option maxRecDepth 100000
open Go.RowKit
set_option linter.unusedSimpArgs false
set_option linter.unusedVariables false
attribute [local go_sem ↓] Go.wp_at_zero Go.wp_at_succ

section
variable (x : Operand) (dst : Option Tmp) (ty : TypeId) (pos : String) (after : Array Edge) (guard : Option (Nat × Bool)) (ρ : Operand → Value) (w : World) (g : Nat) (u0 u1 u2 u3 u4 u5 u6 u7 u8 : Value)
theorem fieldR0 (hx : ρ x = .pointer (some ⟨g, 0, none⟩)) : (execOp ρ ⟨dst, .fieldAddr 27 x 0, ty, pos, after, guard⟩).run Try.prog w = .ok (.value (.pointer (some ⟨g, 0, none⟩))) w := by
 simp [execOp, hx, go_sem]
theorem loadR0 (hx : ρ x = .pointer (some ⟨g, 0, none⟩)) (h : At w g 27 #[u0, u1, u2, u3, u4, u5, u6, u7, u8]) :
  (execOp ρ ⟨dst, .load 24 x, ty, pos, after, guard⟩).run Try.prog w = .ok (.value (.agg #[u0, u1, u2, u3])) w := by
 have c0 : w.cell? ⟨g, 0, none⟩ = some u0 := h.cell 0
 have c1 : w.cell? ⟨g, 1, none⟩ = some u1 := h.cell 1
 have c2 : w.cell? ⟨g, 2, none⟩ = some u2 := h.cell 2
 have c3 : w.cell? ⟨g, 3, none⟩ = some u3 := h.cell 3
 simp [execOp, hx, go_sem, c0, c1, c2, c3]
theorem loadR (hx : ρ x = .pointer (some ⟨g, 0, none⟩)) (h : At w g 27 #[u0, u1, u2, u3, u4, u5, u6, u7, u8]) :
  (execOp ρ ⟨dst, .load 27 x, ty, pos, after, guard⟩).run Try.prog w = .ok (.value (.agg #[u0, u1, u2, u3, u4, u5, u6, u7, u8])) w := by
 have c0 : w.cell? ⟨g, 0, none⟩ = some u0 := h.cell 0
 have c1 : w.cell? ⟨g, 1, none⟩ = some u1 := h.cell 1
 have c2 : w.cell? ⟨g, 2, none⟩ = some u2 := h.cell 2
 have c3 : w.cell? ⟨g, 3, none⟩ = some u3 := h.cell 3
 have c4 : w.cell? ⟨g, 4, none⟩ = some u4 := h.cell 4
 have c5 : w.cell? ⟨g, 5, none⟩ = some u5 := h.cell 5
 have c6 : w.cell? ⟨g, 6, none⟩ = some u6 := h.cell 6
 have c7 : w.cell? ⟨g, 7, none⟩ = some u7 := h.cell 7
 have c8 : w.cell? ⟨g, 8, none⟩ = some u8 := h.cell 8
 simp [execOp, hx, go_sem, c0, c1, c2, c3, c4, c5, c6, c7, c8]
theorem buildZ : (execOp ρ ⟨dst, .build 24 #[], ty, pos, after, guard⟩).run Try.prog w = .ok (.value (.agg #[.int .u64 0, .int .u64 0, .int .u64 0, .int .u64 0])) w := by
 simp [execOp, go_sem]
end
section
variable {P : Program} {ops : Array Oper} {Q : Exit → Act → World → Prop} {md : Region.Mode} {S : World → Prop} {a : Act} {W : World} {cores : List Core}
/-- a guarded operation of one operand that may read memory of which S tells -/
theorem coreG_held (c : Core) (op : Op) (ty : TypeId) (pos : String) (after : Array Edge) (gd : Option (Nat × Bool)) (u : Value) (x : Operand) (xv : Value)
  (ho : ops[c.i]? = some ⟨some c.d, op, ty, pos, after, gd⟩) (hk : c.kind = Kind.val u) (hg : Wants ops a cores c.pre gd true) (hx : Known a cores c.pre x xv)
  (h : ∀ (ρ : Operand → Value) (w : World), ρ x = xv → S w → (execOp ρ ⟨some c.d, op, ty, pos, after, gd⟩).run P w = .ok (.value u) w) : PureOK P ops S a W cores c :=
 coreG_pure c _ ty pos after gd u ho hk hg fun vs w hl hp w' hS => h _ w' (hx vs w hl hp) hS
end
end Go.Proofs.Ytbggihkigblnfaa

/-
 Blocks of api.Group, sixteen cells: fields' addresses, loads, among the operations of a region that draws its order.
-/
namespace Go.Proofs.Ytbggihkigblnfaa
set_option maxRecDepth 100000
open Go.RowKit
set_option linter.unusedSimpArgs false
set_option linter.unusedVariables false
attribute [local go_sem ↓] Go.wp_at_zero Go.wp_at_succ

abbrev grp (P Q G H : Nat) : Value := .agg #[.int .u64 (wd P 0 : Nat), .int .u64 (wd P 1 : Nat), .int .u64 (wd P 2 : Nat), .int .u64 (wd P 3 : Nat), .int .u64 (wd Q 0 : Nat), .int .u64 (wd Q 1 : Nat), .int .u64 (wd Q 2 : Nat), .int .u64 (wd Q 3 : Nat), .int .u64 (wd G 0 : Nat), .int .u64 (wd G 1 : Nat), .int .u64 (wd G 2 : Nat), .int .u64 (wd G 3 : Nat), .int .u64 (wd H 0 : Nat), .int .u64 (wd H 1 : Nat), .int .u64 (wd H 2 : Nat), .int .u64 (wd H 3 : Nat)]
section
variable (x : Operand) (dst : Option Tmp) (ty : TypeId) (pos : String) (after : Array Edge) (guard : Option (Nat × Bool)) (ρ : Operand → Value) (w : World) (g : Nat) (u0 u1 u2 u3 u4 u5 u6 u7 u8 u9 u10 u11 u12 u13 u14 u15 : Value)
theorem fieldG0 (hx : ρ x = .pointer (some ⟨g, 0, none⟩)) : (execOp ρ ⟨dst, .fieldAddr 35 x 0, ty, pos, after, guard⟩).run Try.prog w = .ok (.value (.pointer (some ⟨g, 0, none⟩))) w := by
 simp [execOp, hx, go_sem]
theorem fieldG1 (hx : ρ x = .pointer (some ⟨g, 0, none⟩)) : (execOp ρ ⟨dst, .fieldAddr 35 x 1, ty, pos, after, guard⟩).run Try.prog w = .ok (.value (.pointer (some ⟨g, 4, none⟩))) w := by
 simp [execOp, hx, go_sem]
theorem fieldG2 (hx : ρ x = .pointer (some ⟨g, 0, none⟩)) : (execOp ρ ⟨dst, .fieldAddr 35 x 2, ty, pos, after, guard⟩).run Try.prog w = .ok (.value (.pointer (some ⟨g, 8, none⟩))) w := by
 simp [execOp, hx, go_sem]
theorem fieldG3 (hx : ρ x = .pointer (some ⟨g, 0, none⟩)) : (execOp ρ ⟨dst, .fieldAddr 35 x 3, ty, pos, after, guard⟩).run Try.prog w = .ok (.value (.pointer (some ⟨g, 12, none⟩))) w := by
 simp [execOp, hx, go_sem]
theorem loadG0 (hx : ρ x = .pointer (some ⟨g, 0, none⟩)) (h : At w g 35 #[u0, u1, u2, u3, u4, u5, u6, u7, u8, u9, u10, u11, u12, u13, u14, u15]) :
  (execOp ρ ⟨dst, .load 24 x, ty, pos, after, guard⟩).run Try.prog w = .ok (.value (.agg #[u0, u1, u2, u3])) w := by
 have c0 : w.cell? ⟨g, 0, none⟩ = some u0 := h.cell 0
 have c1 : w.cell? ⟨g, 1, none⟩ = some u1 := h.cell 1
 have c2 : w.cell? ⟨g, 2, none⟩ = some u2 := h.cell 2
 have c3 : w.cell? ⟨g, 3, none⟩ = some u3 := h.cell 3
 simp [execOp, hx, go_sem, c0, c1, c2, c3]
theorem loadG1 (hx : ρ x = .pointer (some ⟨g, 4, none⟩)) (h : At w g 35 #[u0, u1, u2, u3, u4, u5, u6, u7, u8, u9, u10, u11, u12, u13, u14, u15]) :
  (execOp ρ ⟨dst, .load 24 x, ty, pos, after, guard⟩).run Try.prog w = .ok (.value (.agg #[u4, u5, u6, u7])) w := by
 have c0 : w.cell? ⟨g, 4, none⟩ = some u4 := h.cell 4
 have c1 : w.cell? ⟨g, 5, none⟩ = some u5 := h.cell 5
 have c2 : w.cell? ⟨g, 6, none⟩ = some u6 := h.cell 6
 have c3 : w.cell? ⟨g, 7, none⟩ = some u7 := h.cell 7
 simp [execOp, hx, go_sem, c0, c1, c2, c3]
theorem loadG2 (hx : ρ x = .pointer (some ⟨g, 8, none⟩)) (h : At w g 35 #[u0, u1, u2, u3, u4, u5, u6, u7, u8, u9, u10, u11, u12, u13, u14, u15]) :
  (execOp ρ ⟨dst, .load 24 x, ty, pos, after, guard⟩).run Try.prog w = .ok (.value (.agg #[u8, u9, u10, u11])) w := by
 have c0 : w.cell? ⟨g, 8, none⟩ = some u8 := h.cell 8
 have c1 : w.cell? ⟨g, 9, none⟩ = some u9 := h.cell 9
 have c2 : w.cell? ⟨g, 10, none⟩ = some u10 := h.cell 10
 have c3 : w.cell? ⟨g, 11, none⟩ = some u11 := h.cell 11
 simp [execOp, hx, go_sem, c0, c1, c2, c3]
theorem loadG3 (hx : ρ x = .pointer (some ⟨g, 12, none⟩)) (h : At w g 35 #[u0, u1, u2, u3, u4, u5, u6, u7, u8, u9, u10, u11, u12, u13, u14, u15]) :
  (execOp ρ ⟨dst, .load 24 x, ty, pos, after, guard⟩).run Try.prog w = .ok (.value (.agg #[u12, u13, u14, u15])) w := by
 have c0 : w.cell? ⟨g, 12, none⟩ = some u12 := h.cell 12
 have c1 : w.cell? ⟨g, 13, none⟩ = some u13 := h.cell 13
 have c2 : w.cell? ⟨g, 14, none⟩ = some u14 := h.cell 14
 have c3 : w.cell? ⟨g, 15, none⟩ = some u15 := h.cell 15
 simp [execOp, hx, go_sem, c0, c1, c2, c3]
theorem loadG (hx : ρ x = .pointer (some ⟨g, 0, none⟩)) (h : At w g 35 #[u0, u1, u2, u3, u4, u5, u6, u7, u8, u9, u10, u11, u12, u13, u14, u15]) :
  (execOp ρ ⟨dst, .load 35 x, ty, pos, after, guard⟩).run Try.prog w = .ok (.value (.agg #[u0, u1, u2, u3, u4, u5, u6, u7, u8, u9, u10, u11, u12, u13, u14, u15])) w := by
 have c0 : w.cell? ⟨g, 0, none⟩ = some u0 := h.cell 0
 have c1 : w.cell? ⟨g, 1, none⟩ = some u1 := h.cell 1
 have c2 : w.cell? ⟨g, 2, none⟩ = some u2 := h.cell 2
 have c3 : w.cell? ⟨g, 3, none⟩ = some u3 := h.cell 3
 have c4 : w.cell? ⟨g, 4, none⟩ = some u4 := h.cell 4
 have c5 : w.cell? ⟨g, 5, none⟩ = some u5 := h.cell 5
 have c6 : w.cell? ⟨g, 6, none⟩ = some u6 := h.cell 6
 have c7 : w.cell? ⟨g, 7, none⟩ = some u7 := h.cell 7
 have c8 : w.cell? ⟨g, 8, none⟩ = some u8 := h.cell 8
 have c9 : w.cell? ⟨g, 9, none⟩ = some u9 := h.cell 9
 have c10 : w.cell? ⟨g, 10, none⟩ = some u10 := h.cell 10
 have c11 : w.cell? ⟨g, 11, none⟩ = some u11 := h.cell 11
 have c12 : w.cell? ⟨g, 12, none⟩ = some u12 := h.cell 12
 have c13 : w.cell? ⟨g, 13, none⟩ = some u13 := h.cell 13
 have c14 : w.cell? ⟨g, 14, none⟩ = some u14 := h.cell 14
 have c15 : w.cell? ⟨g, 15, none⟩ = some u15 := h.cell 15
 simp [execOp, hx, go_sem, c0, c1, c2, c3, c4, c5, c6, c7, c8, c9, c10, c11, c12, c13, c14, c15]
end
end Go.Proofs.Ytbggihkigblnfaa

/-
 groups.together: the numbers, each with its exponent, gone through by whatever body.
-/
namespace Go.Proofs.Ytbggihkigblnfaa
set_option maxRecDepth 100000
set_option linter.unusedSimpArgs false
set_option linter.unusedVariables false
open Go.RowKit Go.Shelf
attribute [local go_sem] Oper.semAt_some
attribute [local go_sem ↓] Go.wp_at_zero Go.wp_at_succ

/-- a number, and an exponent -/
abbrev NP := { p : Nat × Nat // p.1 < 2 ^ 256 ∧ p.2 < 2 ^ 256 }
/-- a slice of numbers, in a block below n₀ -/
def NSl (n₀ : Nat) (w : World) (a : Option Addr) (cap : Nat) (xs : List Nat) : Prop :=
 xs.length ≤ cap ∧ cap ≤ 9223372036854775807 ∧ (∀ x ∈ xs, x < 2 ^ 256) ∧
 (xs = [] ∨ ∃ g o, a = some ⟨g, o, none⟩ ∧ g < n₀ ∧ ∀ i (h : i < xs.length) k, k < 4 → w.cell? ⟨g, o + i * 4 + k, none⟩ = some (.int .u64 (wd xs[i] k : Nat)))
theorem NSl.below {n₀ : Nat} {A B : World} (h : Below n₀ A B) {a : Option Addr} {cap : Nat} {xs : List Nat} : NSl n₀ A a cap xs → NSl n₀ B a cap xs
 | ⟨h1, h2, h3, h4⟩ => ⟨h1, h2, h3, h4.imp id fun ⟨g, o, ha, hg, hc⟩ => ⟨g, o, ha, hg, fun i hi k hk => (h.cell (p := ⟨g, o + i * 4 + k, none⟩) hg).trans (hc i hi k hk)⟩⟩
theorem NSl.get {n₀ : Nat} {w : World} {a : Option Addr} {cap : Nat} {xs : List Nat} (h : NSl n₀ w a cap xs) {i x : Nat} (hi : i < xs.length) (hx : xs[i] = x) : ∃ g o, a = some ⟨g, o, none⟩ ∧ g < n₀ ∧
  w.cell? ⟨g, o + i * 4, none⟩ = some (.int .u64 (wd x 0 : Nat)) ∧ w.cell? ⟨g, o + i * 4 + 1, none⟩ = some (.int .u64 (wd x 1 : Nat)) ∧ w.cell? ⟨g, o + i * 4 + 2, none⟩ = some (.int .u64 (wd x 2 : Nat)) ∧ w.cell? ⟨g, o + i * 4 + 3, none⟩ = some (.int .u64 (wd x 3 : Nat)) := by
 rcases h.2.2.2 with rfl | ⟨g, o, ha, hg, hc⟩
 ·exact absurd hi (Nat.not_lt_zero _)
 ·subst hx
  exact ⟨g, o, ha, hg, hc i hi 0 (by omega), hc i hi 1 (by omega), hc i hi 2 (by omega), hc i hi 3 (by omega)⟩

/-- what a round leaves alone: what lies below n₀, and block b -/
structure KP (n₀ b : Nat) (W W' : World) : Prop where
 bel : Below n₀ W W'
 box : b < W.heap.size → W'.heap[b]? = W.heap[b]?
theorem KP.refl (n₀ b : Nat) (W : World) : KP n₀ b W W := ⟨Below.refl _ _, fun _ => rfl⟩
theorem KP.trans {n₀ b : Nat} {A B C : World} (h : KP n₀ b A B) (k : KP n₀ b B C) : KP n₀ b A C := ⟨h.bel.trans k.bel, fun hb => (k.box (Nat.lt_of_lt_of_le hb h.bel.size)).trans (h.box hb)⟩
theorem KP.of {n₀ b : Nat} {A B : World} (h : Below A.heap.size A B) (hn : n₀ ≤ A.heap.size) : KP n₀ b A B := ⟨h.mono hn, fun hb => h.block b hb⟩

set_option maxRecDepth 100000 in
set_option maxHeartbeats 8000000 in
theorem tog1_in (n : Nat) (hn : 1 ≤ n) (l gA gN n₀ : Nat) (a b : Option Addr) (ca cb : Nat) (zs : List NP) (J Jx : List NP → World → Prop)
  (hY : ∀ pre x W, J pre W → pre.length < zs.length → YieldAt Fence.wide (n - 1) Try.prog l #[num x.1.1, num x.1.2] W fun e W' =>
   (e = .returned (.bool true) ∧ J (pre ++ [x]) W' ∧ KP n₀ gN W W') ∨ (e = .returned (.bool false) ∧ Jx (pre ++ [x]) W'))
  (W : World) (hW : n₀ ≤ W.heap.size) (hJ : AbidesFrom W.heap.size J) (hJx : AbidesFrom W.heap.size Jx)
  (hA : At W gA 53 #[.slice a zs.length ca]) (hN : At W gN 53 #[.slice b zs.length cb])
  (sA : NSl n₀ W a ca (zs.map (·.1.1))) (sN : NSl n₀ W b cb (zs.map (·.1.2))) (h0 : J [] W) :
  CallsIn Fence.wide n Try.prog 87 #[.func (.yield l) #[] #[], .pointer (some ⟨gA, 0, none⟩), .pointer (some ⟨gN, 0, none⟩)] W fun e W' => (∃ v, e = .returned v) ∧
   ((∃ ys, ys = zs ∧ J ys W') ∨ (∃ pre, pre <+: zs ∧ Jx pre W')) := by
 have cA := hA.cell 0
 have hl1 : zs.length ≤ 9223372036854775807 := by have h1 := sA.1; have h2 := sA.2.1; simp at h1; omega
 refine callsIn_of_wp Try.func87 rfl trivial ?_ rfl
 simp only [Try.ntmps87, List.size_toArray, List.length_cons, List.length_nil, Nat.reduceAdd, Nat.reduceSub, Array.replicate_succ, Array.replicate_zero, List.push_toArray, List.append_toArray, List.nil_append, List.cons_append]
 gi_wp2
 gi_loopw [8] (fun i wr => ∃ k : Nat, k ≤ zs.length ∧ i = .int .i64 k ∧ J (zs.take k) wr ∧ KP n₀ gN W wr)
  (fun i _ => zs.length - (intOf i).toNat)
 case atStart => exact ⟨0, Nat.zero_le _, rfl, h0, KP.refl _ _ _⟩
 case round =>
  obtain ⟨k, hk, rfl, hJs, hnx⟩ := hrel
  by_cases hlt : k < zs.length
  ·have hlt2 : (k : Int) < (zs.length : Int) := by omega
   obtain ⟨g, o, rfl, hg, e0, e1, e2, e3⟩ := (sA.below hnx.bel).get (i := k) (x := (zs[k]).1.1) (by simpa using hlt) (by simp)
   gi_wp2
   obtain ⟨x, hx⟩ : ∃ x, x = zs[k] := ⟨_, rfl⟩
   obtain ⟨g2, o2, rfl, hg2, d0, d1, d2, d3⟩ := (sN.below hnx.bel).get (i := k) (x := x.1.2) (by simpa using hlt) (by simp [hx])
   rw [← hx]
   have hwr : n₀ ≤ wr.heap.size := Nat.le_trans hW hnx.bel.size
   have hsz : W.heap.size ≤ wr.heap.size := hnx.bel.size
   obtain ⟨w2, hw2⟩ : ∃ w2, w2 = wr.alloc (.cells #[.int .u64 (wd x.1.1 0 : Nat), .int .u64 (wd x.1.1 1 : Nat), .int .u64 (wd x.1.1 2 : Nat), .int .u64 (wd x.1.1 3 : Nat)] 24) := ⟨_, rfl⟩
   have hbx : KP n₀ gN wr w2 := by rw [hw2]; exact KP.of ((Below.refl _ _).alloc (Nat.le_refl _) _) hwr
   have hb := hbx.bel
   have hAt : At w2 wr.heap.size 24 #[.int .u64 (wd x.1.1 0 : Nat), .int .u64 (wd x.1.1 1 : Nat), .int .u64 (wd x.1.1 2 : Nat), .int .u64 (wd x.1.1 3 : Nat)] := by rw [hw2]; exact At.new _ _ _
   have hJ2 : J (zs.take k) w2.drew := by
    have h1 : J (zs.take k) w2 := by rw [hw2]; exact hJ _ _ _ none hJs (World.grownBy_alloc wr _ none) (fun _ e => by cases e)
    exact hJ _ _ _ none h1 ⟨rfl, rfl, rfl, Nat.le_refl _, fun _ _ _ => rfl⟩ (fun _ e => by cases e)
   rw [← hw2]
   clear hw2
   have hw2n : n₀ ≤ w2.heap.size := Nat.le_trans hwr hb.size
   have q0 : w2.cell? ⟨wr.heap.size, 0, none⟩ = some (.int .u64 (wd x.1.1 0 : Nat)) := hAt.cell 0
   have q1 : w2.cell? ⟨wr.heap.size, 1, none⟩ = some (.int .u64 (wd x.1.1 1 : Nat)) := hAt.cell 1
   have q2 : w2.cell? ⟨wr.heap.size, 2, none⟩ = some (.int .u64 (wd x.1.1 2 : Nat)) := hAt.cell 2
   have q3 : w2.cell? ⟨wr.heap.size, 3, none⟩ = some (.int .u64 (wd x.1.1 3 : Nat)) := hAt.cell 3
   have hN2 : At w2 gN 53 #[.slice (some ⟨g2, o2, none⟩) zs.length cb] := ((hbx.box (Nat.lt_of_lt_of_le hN.lt hsz)).trans (hnx.box hN.lt)).trans hN
   have n0 : w2.cell? ⟨gN, 0, none⟩ = some (.slice (some ⟨g2, o2, none⟩) zs.length cb) := hN2.cell 0
   have d0' := (hb.cell (p := ⟨g2, o2 + k * 4, none⟩) hg2).trans d0
   have d1' := (hb.cell (p := ⟨g2, o2 + k * 4 + 1, none⟩) hg2).trans d1
   have d2' := (hb.cell (p := ⟨g2, o2 + k * 4 + 2, none⟩) hg2).trans d2
   have d3' := (hb.cell (p := ⟨g2, o2 + k * 4 + 3, none⟩) hg2).trans d3
   clear d0 d1 d2 d3 e0 e1 e2 e3
   have hx' := Lib.hid hx
   clear hx
   obtain ⟨fn, tmps, assign, body, hy, hR⟩ := hY (zs.take k) x w2.drew hJ2 (by simp; omega)
   generalize wr.heap.size = gB at *
   have hR' := Lib.hid (hR.mono (R' := fun e W' => ∃ bb : Bool, e = .returned (.bool bb) ∧ ((bb = true ∧ J (zs.take k ++ [x]) W' ∧ KP n₀ gN w2.drew W') ∨ (bb = false ∧ Jx (zs.take k ++ [x]) W'))) (fun e W' h => by
    rcases h with ⟨h1, h2, h3⟩ | ⟨h1, h2⟩
    ·exact ⟨true, h1, Or.inl ⟨rfl, h2, h3⟩⟩
    ·exact ⟨false, h1, Or.inr ⟨rfl, h2⟩⟩))
   clear hR
   gi_region_with (first | (refine ⟨by simp, ?_⟩; refine RoundIn.mono hR'.out ?_; rintro e W3 ⟨bb, rfl, hW3⟩) | (refine RoundIn.mono hR'.out ?_; rintro e W3 ⟨bb, rfl, hW3⟩))
   all_goals
    obtain ⟨rfl, hJ3, hk3⟩ | ⟨rfl, hx3⟩ := hW3
    ·gi_wp2
     go_roundw
     case rel => exact ⟨k + 1, by omega, by simp, by rw [List.take_succ_eq_append_getElem hlt, ← hx'.out]; exact hJ3, hnx.trans (hbx.trans ((KP.of (Below.refl _ w2).drew hw2n).trans hk3))⟩
     case measure => simp [intOf]; omega
    ·gi_wp2
     refine bodyPost_ret (results_none rfl _ _ _) rfl ?_
     exact ⟨⟨_, rfl⟩, .inr ⟨_, by rw [hx'.out, ← List.take_succ_eq_append_getElem hlt]; exact List.take_prefix _ _, hx3⟩⟩
  ·obtain rfl : k = zs.length := by omega
   gi_wp2
   go_end0
   exact ⟨⟨_, rfl⟩, .inl ⟨_, rfl, by simpa using hJs⟩⟩

theorem tog_any (a b : Option Addr) (la lb ca cb : Nat) (w : World) : Calls Try.prog 51 #[.slice a la ca, .slice b lb cb] w fun e w' =>
  e = .returned (.func (.func 87) #[] #[.pointer (some ⟨w.heap.size, 0, none⟩), .pointer (some ⟨w.heap.size + 1, 0, none⟩)]) ∧ w' = (w.alloc (.cells #[.slice a la ca] 53)).alloc (.cells #[.slice b lb cb] 53) := by
 go_enter Try.func51, Try.ntmps51
 go_wp2
 go_ret
 exact ⟨rfl, rfl⟩

/-- the numbers with their exponents: what is gone through -/
theorem tog_stops (n : Nat) (hn : 1 ≤ n) (gA gN n₀ : Nat) (a b : Option Addr) (ca cb : Nat) (zs : List NP) (w : World) (hn₀ : n₀ ≤ w.heap.size)
  (hA : At w gA 53 #[.slice a zs.length ca]) (hN : At w gN 53 #[.slice b zs.length cb]) (sA : NSl n₀ w a ca (zs.map (·.1.1))) (sN : NSl n₀ w b cb (zs.map (·.1.2))) :
  SeqStopsK Fence.wide n Try.prog 87 #[.pointer (some ⟨gA, 0, none⟩), .pointer (some ⟨gN, 0, none⟩)] (fun x : NP => #[num x.1.1, num x.1.2]) (KP n₀ gN) (fun ys => ys = zs) (fun pre => pre <+: zs) zs.length w :=
 fun l J Jx W hW hJ hJx hY h0 =>
  tog1_in n hn l gA gN n₀ a b ca cb zs J Jx hY W (Nat.le_trans hn₀ hW.size) hJ hJx (hA.on hW) (hN.on hW) (sA.below (hW.mono hn₀)) (sN.below (hW.mono hn₀)) h0
end Go.Proofs.Ytbggihkigblnfaa

/-
 A guarded call, of a function whose contract wants what was there ahead of the region.
-/
namespace Go.Proofs.Ytbggihkigblnfaa
set_option maxRecDepth 100000
open Go.RowKit
set_option linter.unusedSimpArgs false
set_option linter.unusedVariables false
section
variable {P : Program} {ops : Array Oper} {Q : Exit → Act → World → Prop} {md : Region.Mode} {S : World → Prop} {a : Act} {W : World} {cores : List Core}
theorem coreG_callB (c : Core) (f : FuncId) (fn : Func) (code : Code) (xs : List Operand) (us : List Value) (tys : Array TypeId) (ty : TypeId) (pos : String) (after : Array Edge) (gd : Option (Nat × Bool)) (u : Value)
  (ho : ops[c.i]? = some ⟨some c.d, .call ⟨.value (.func f), xs.toArray, tys⟩, ty, pos, after, gd⟩) (hf : P.funcs[f]? = some fn) (hn : (fn.name == "runtime.NumGoroutine") = false) (hb : fn.body = some code)
  (hk : c.kind = Kind.val u) (hg : Wants ops a cores c.pre gd true) (hx : Args a cores c.pre xs us)
  (C : ∀ w, Below W.heap.size W w → Calls P f us.toArray w fun e w' => e = .returned u ∧ Below w.heap.size w w') : StepOK P ops Q a W cores c := by
 intro vs w hl hbw hp o ho' K hK
 rw [ho] at ho'
 obtain rfl := Option.some.inj ho'
 refine want_if (hg vs w hl hp _ rfl) ?_
 have hargs : xs.toArray.map (over a (cores.map (·.d)) vs).eval = us.toArray := by
  rw [List.map_toArray]
  congr 1
  clear ho C ho'
  induction hx with
  | nil => rfl
  | cons h _ ih => rw [List.map_cons, h vs w hl hp, ih]
 have hrun : ∀ w, (execOp (over a (cores.map (·.d)) vs).eval ⟨some c.d, .call ⟨.value (.func f), xs.toArray, tys⟩, ty, pos, after, gd⟩).run P w = .ok (.enter f us.toArray) w := fun w => by
  have h := run_enter hf hn hb us.toArray w
  simp only [execOp, resolve, hargs]
  simpa [Act.eval, Deferred.ofValue, invoke, go_sem] using h
 unfold Oper.wp
 rw [hrun w, Oper.upon_enter]
 refine (C w hbw).mono fun e w' ⟨he, hb⟩ => ?_
 subst he
 exact hK.out u w' hb (by rw [hk]; exact rfl) (fun h => by rw [hk] at h; cases h)
end
end Go.Proofs.Ytbggihkigblnfaa
