/-
 Blocks of api.Reason, nine cells: fields' addresses, loads, among the operations of a region that draws its order.
-/
import Derived.Deep.Cut
import Derived.Test.YtbggihkigblnfaaMMod11
import Derived.Test.YtbggihkigblnfaaMMult
import Derived.Test.YtbggihkigblnfaaMTree
namespace Go.Proofs.Ytbggihkigblnfaa
set_option maxRecDepth 100000
open Go.RowKit
set_option linter.unusedSimpArgs false
set_option linter.unusedVariables false
attribute [local go_sem ↓] Go.wp_at_zero Go.wp_at_succ

section
variable (x : Operand) (dst : Option Tmp) (ty : TypeId) (pos : String) (after : Array Edge) (guard : Option (Nat × Bool)) (ρ : Operand → Value) (w : World) (g : Nat) (u0 u1 u2 u3 u4 u5 u6 u7 u8 : Value)
theorem buildZ : (execOp ρ ⟨dst, .build 24 #[], ty, pos, after, guard⟩).run Try.prog w = .ok (.value (.agg #[.int .u64 0, .int .u64 0, .int .u64 0, .int .u64 0])) w := by
 simp [execOp, go_sem]
end
section
variable {P : Program} {ops : Array Oper} {Q : Exit → Act → World → Prop} {md : Region.Mode} {S : World → Prop} {a : Act} {W : World} {cores : List Core}
/-- a guarded operation of one operand that may read memory of which S tells -/
theorem coreG_held (c : Core) (op : Op) (ty : TypeId) (pos : String) (after : Array Edge) (gd : Option (Nat × Bool)) (u : Value) (x : Operand) (xv : Value)
  (ho : ops[c.i]? = some ⟨some c.d, op, ty, pos, after, gd⟩) (hk : c.kind = Kind.val u) (hg : Wants ops a cores c.pre gd true) (hx : Known a cores c.pre x xv)
  (h : ∀ (ρ : Operand → Value) (w : World), ρ x = xv → S w → (execOp ρ ⟨some c.d, op, ty, pos, after, gd⟩).run P w = .ok (.value u) w) : PureOK P ops S a W cores c :=
 coreG_pure c _ ty pos after gd u ho hk hg fun vs w hl hp w' hS => h _ w' (hx vs w hl hp) hS
end
end Go.Proofs.Ytbggihkigblnfaa

/-
 Blocks of api.Group, sixteen cells: fields' addresses, loads, among the operations of a region that draws its order.
-/
namespace Go.Proofs.Ytbggihkigblnfaa
set_option maxRecDepth 100000
open Go.RowKit
set_option linter.unusedSimpArgs false
set_option linter.unusedVariables false
attribute [local go_sem ↓] Go.wp_at_zero Go.wp_at_succ

abbrev grp (P Q G H : Nat) : Value := .agg #[.int .u64 (wd P 0 : Nat), .int .u64 (wd P 1 : Nat), .int .u64 (wd P 2 : Nat), .int .u64 (wd P 3 : Nat), .int .u64 (wd Q 0 : Nat), .int .u64 (wd Q 1 : Nat), .int .u64 (wd Q 2 : Nat), .int .u64 (wd Q 3 : Nat), .int .u64 (wd G 0 : Nat), .int .u64 (wd G 1 : Nat), .int .u64 (wd G 2 : Nat), .int .u64 (wd G 3 : Nat), .int .u64 (wd H 0 : Nat), .int .u64 (wd H 1 : Nat), .int .u64 (wd H 2 : Nat), .int .u64 (wd H 3 : Nat)]
section
variable (x : Operand) (dst : Option Tmp) (ty : TypeId) (pos : String) (after : Array Edge) (guard : Option (Nat × Bool)) (ρ : Operand → Value) (w : World) (g : Nat) (u0 u1 u2 u3 u4 u5 u6 u7 u8 u9 u10 u11 u12 u13 u14 u15 : Value)
theorem fieldG0 (hx : ρ x = .pointer (some ⟨g, 0, none⟩)) : (execOp ρ ⟨dst, .fieldAddr 35 x 0, ty, pos, after, guard⟩).run Try.prog w = .ok (.value (.pointer (some ⟨g, 0, none⟩))) w := by
 simp [execOp, hx, go_sem]
theorem fieldG1 (hx : ρ x = .pointer (some ⟨g, 0, none⟩)) : (execOp ρ ⟨dst, .fieldAddr 35 x 1, ty, pos, after, guard⟩).run Try.prog w = .ok (.value (.pointer (some ⟨g, 4, none⟩))) w := by
 simp [execOp, hx, go_sem]
theorem fieldG2 (hx : ρ x = .pointer (some ⟨g, 0, none⟩)) : (execOp ρ ⟨dst, .fieldAddr 35 x 2, ty, pos, after, guard⟩).run Try.prog w = .ok (.value (.pointer (some ⟨g, 8, none⟩))) w := by
 simp [execOp, hx, go_sem]
theorem fieldG3 (hx : ρ x = .pointer (some ⟨g, 0, none⟩)) : (execOp ρ ⟨dst, .fieldAddr 35 x 3, ty, pos, after, guard⟩).run Try.prog w = .ok (.value (.pointer (some ⟨g, 12, none⟩))) w := by
 simp [execOp, hx, go_sem]
theorem loadG0 (hx : ρ x = .pointer (some ⟨g, 0, none⟩)) (h : At w g 35 #[u0, u1, u2, u3, u4, u5, u6, u7, u8, u9, u10, u11, u12, u13, u14, u15]) :
  (execOp ρ ⟨dst, .load 24 x, ty, pos, after, guard⟩).run Try.prog w = .ok (.value (.agg #[u0, u1, u2, u3])) w := by
 have c0 : w.cell? ⟨g, 0, none⟩ = some u0 := h.cell 0
 have c1 : w.cell? ⟨g, 1, none⟩ = some u1 := h.cell 1
 have c2 : w.cell? ⟨g, 2, none⟩ = some u2 := h.cell 2
 have c3 : w.cell? ⟨g, 3, none⟩ = some u3 := h.cell 3
 simp [execOp, hx, go_sem, c0, c1, c2, c3]
theorem loadG1 (hx : ρ x = .pointer (some ⟨g, 4, none⟩)) (h : At w g 35 #[u0, u1, u2, u3, u4, u5, u6, u7, u8, u9, u10, u11, u12, u13, u14, u15]) :
  (execOp ρ ⟨dst, .load 24 x, ty, pos, after, guard⟩).run Try.prog w = .ok (.value (.agg #[u4, u5, u6, u7])) w := by
 have c0 : w.cell? ⟨g, 4, none⟩ = some u4 := h.cell 4
 have c1 : w.cell? ⟨g, 5, none⟩ = some u5 := h.cell 5
 have c2 : w.cell? ⟨g, 6, none⟩ = some u6 := h.cell 6
 have c3 : w.cell? ⟨g, 7, none⟩ = some u7 := h.cell 7
 simp [execOp, hx, go_sem, c0, c1, c2, c3]
theorem loadG2 (hx : ρ x = .pointer (some ⟨g, 8, none⟩)) (h : At w g 35 #[u0, u1, u2, u3, u4, u5, u6, u7, u8, u9, u10, u11, u12, u13, u14, u15]) :
  (execOp ρ ⟨dst, .load 24 x, ty, pos, after, guard⟩).run Try.prog w = .ok (.value (.agg #[u8, u9, u10, u11])) w := by
 have c0 : w.cell? ⟨g, 8, none⟩ = some u8 := h.cell 8
 have c1 : w.cell? ⟨g, 9, none⟩ = some u9 := h.cell 9
 have c2 : w.cell? ⟨g, 10, none⟩ = some u10 := h.cell 10
 have c3 : w.cell? ⟨g, 11, none⟩ = some u11 := h.cell 11
 simp [execOp, hx, go_sem, c0, c1, c2, c3]
theorem loadG3 (hx : ρ x = .pointer (some ⟨g, 12, none⟩)) (h : At w g 35 #[u0, u1, u2, u3, u4, u5, u6, u7, u8, u9, u10, u11, u12, u13, u14, u15]) :
  (execOp ρ ⟨dst, .load 24 x, ty, pos, after, guard⟩).run Try.prog w = .ok (.value (.agg #[u12, u13, u14, u15])) w := by
 have c0 : w.cell? ⟨g, 12, none⟩ = some u12 := h.cell 12
 have c1 : w.cell? ⟨g, 13, none⟩ = some u13 := h.cell 13
 have c2 : w.cell? ⟨g, 14, none⟩ = some u14 := h.cell 14
 have c3 : w.cell? ⟨g, 15, none⟩ = some u15 := h.cell 15
 simp [execOp, hx, go_sem, c0, c1, c2, c3]
theorem loadG (hx : ρ x = .pointer (some ⟨g, 0, none⟩)) (h : At w g 35 #[u0, u1, u2, u3, u4, u5, u6, u7, u8, u9, u10, u11, u12, u13, u14, u15]) :
  (execOp ρ ⟨dst, .load 35 x, ty, pos, after, guard⟩).run Try.prog w = .ok (.value (.agg #[u0, u1, u2, u3, u4, u5, u6, u7, u8, u9, u10, u11, u12, u13, u14, u15])) w := by
 have c0 : w.cell? ⟨g, 0, none⟩ = some u0 := h.cell 0
 have c1 : w.cell? ⟨g, 1, none⟩ = some u1 := h.cell 1
 have c2 : w.cell? ⟨g, 2, none⟩ = some u2 := h.cell 2
 have c3 : w.cell? ⟨g, 3, none⟩ = some u3 := h.cell 3
 have c4 : w.cell? ⟨g, 4, none⟩ = some u4 := h.cell 4
 have c5 : w.cell? ⟨g, 5, none⟩ = some u5 := h.cell 5
 have c6 : w.cell? ⟨g, 6, none⟩ = some u6 := h.cell 6
 have c7 : w.cell? ⟨g, 7, none⟩ = some u7 := h.cell 7
 have c8 : w.cell? ⟨g, 8, none⟩ = some u8 := h.cell 8
 have c9 : w.cell? ⟨g, 9, none⟩ = some u9 := h.cell 9
 have c10 : w.cell? ⟨g, 10, none⟩ = some u10 := h.cell 10
 have c11 : w.cell? ⟨g, 11, none⟩ = some u11 := h.cell 11
 have c12 : w.cell? ⟨g, 12, none⟩ = some u12 := h.cell 12
 have c13 : w.cell? ⟨g, 13, none⟩ = some u13 := h.cell 13
 have c14 : w.cell? ⟨g, 14, none⟩ = some u14 := h.cell 14
 have c15 : w.cell? ⟨g, 15, none⟩ = some u15 := h.cell 15
 simp [execOp, hx, go_sem, c0, c1, c2, c3, c4, c5, c6, c7, c8, c9, c10, c11, c12, c13, c14, c15]
end
end Go.Proofs.Ytbggihkigblnfaa

/-
 groups: mayMultiply, Mul, Inv, Exp, In; what they answer.
-/
namespace Go.Proofs.Ytbggihkigblnfaa
set_option maxRecDepth 100000
open Go.RowKit
set_option linter.unusedSimpArgs false
set_option linter.unusedVariables false
attribute [local go_sem ↓] Go.wp_at_zero Go.wp_at_succ

theorem cmpN_lt0b {X Y : Nat} (h : X < Y) : cmpN X Y < 0 := by rw [cmpN_lt h]; decide
theorem cmpN_nlt0 {X Y : Nat} (h : ¬ X < Y) : ¬ cmpN X Y < 0 := by unfold cmpN; rw [if_neg h]; split <;> decide
/-- may a number be multiplied? -/
def mayB (P A : Nat) : Bool := decide (A ≠ 0) && decide (A < P)
theorem mayB_iff {P A : Nat} : mayB P A = true ↔ A ≠ 0 ∧ A < P := by simp [mayB]
set_option maxRecDepth 100000 in
set_option maxHeartbeats 8000000 in
theorem gmay_any (P Q G H A : Nat) (hP : P < 2 ^ 256) (hA : A < 2 ^ 256) (w : World) : Calls Try.prog 37 #[grp P Q G H, num A] w fun e w' => e = .returned (.bool (mayB P A)) ∧ Below w.heap.size w w' := by
 have eqz := eqZ A hA
 by_cases h0 : A = 0
 ·rw [decide_eq_true h0] at eqz
  rw [show mayB P A = false from by simp [mayB, h0]]
  clear h0 hP hA
  go_enter Try.func37, Try.ntmps37
  have BW := Lib.hid (Below.refl w.heap.size w)
  go_upto_region 1 with fail
  generalize hW1 : ((w.alloc (.cells #[.int .u64 (wd P 0 : Nat), .int .u64 (wd P 1 : Nat), .int .u64 (wd P 2 : Nat), .int .u64 (wd P 3 : Nat), .int .u64 (wd Q 0 : Nat), .int .u64 (wd Q 1 : Nat), .int .u64 (wd Q 2 : Nat), .int .u64 (wd Q 3 : Nat), .int .u64 (wd G 0 : Nat), .int .u64 (wd G 1 : Nat), .int .u64 (wd G 2 : Nat), .int .u64 (wd G 3 : Nat), .int .u64 (wd H 0 : Nat), .int .u64 (wd H 1 : Nat), .int .u64 (wd H 2 : Nat), .int .u64 (wd H 3 : Nat)] 35)).alloc (.cells #[.int .u64 (wd A 0 : Nat), .int .u64 (wd A 1 : Nat), .int .u64 (wd A 2 : Nat), .int .u64 (wd A 3 : Nat)] 24)) = W1 at *
  have Nr : At W1 (w.heap.size) _ _ := at_of hW1 ((At.at_ _ _ _ _ (by simp)).alloc _)
  have Na : At W1 (w.heap.size + 1) _ _ := at_of hW1 (At.at_ _ _ _ _ (by simp))
  have NB := gr_of hW1 (gr_alloc (gr_alloc BW.out _) _)
  clear hW1 BW 
  generalize w.heap.size + 1 = ga at *
  obtain ⟨gr, hg0⟩ : ∃ g, g = w.heap.size := ⟨_, rfl⟩
  rw [← hg0] at Nr ⊢
  clear hg0
  have Fr := Lib.hid Nr
  have Fa := Lib.hid Na
  have BW := Lib.hid NB
  clear NB Nr Na
  have Lr := Fr.out.lt
  have cr0 : W1.cell? ⟨gr, 0, none⟩ = some (.int .u64 (wd P 0 : Nat)) := Fr.out.cell 0
  have cr1 : W1.cell? ⟨gr, 1, none⟩ = some (.int .u64 (wd P 1 : Nat)) := Fr.out.cell 1
  have cr2 : W1.cell? ⟨gr, 2, none⟩ = some (.int .u64 (wd P 2 : Nat)) := Fr.out.cell 2
  have cr3 : W1.cell? ⟨gr, 3, none⟩ = some (.int .u64 (wd P 3 : Nat)) := Fr.out.cell 3
  have cr4 : W1.cell? ⟨gr, 4, none⟩ = some (.int .u64 (wd Q 0 : Nat)) := Fr.out.cell 4
  have cr5 : W1.cell? ⟨gr, 5, none⟩ = some (.int .u64 (wd Q 1 : Nat)) := Fr.out.cell 5
  have cr6 : W1.cell? ⟨gr, 6, none⟩ = some (.int .u64 (wd Q 2 : Nat)) := Fr.out.cell 6
  have cr7 : W1.cell? ⟨gr, 7, none⟩ = some (.int .u64 (wd Q 3 : Nat)) := Fr.out.cell 7
  have cr8 : W1.cell? ⟨gr, 8, none⟩ = some (.int .u64 (wd G 0 : Nat)) := Fr.out.cell 8
  have cr9 : W1.cell? ⟨gr, 9, none⟩ = some (.int .u64 (wd G 1 : Nat)) := Fr.out.cell 9
  have cr10 : W1.cell? ⟨gr, 10, none⟩ = some (.int .u64 (wd G 2 : Nat)) := Fr.out.cell 10
  have cr11 : W1.cell? ⟨gr, 11, none⟩ = some (.int .u64 (wd G 3 : Nat)) := Fr.out.cell 11
  have cr12 : W1.cell? ⟨gr, 12, none⟩ = some (.int .u64 (wd H 0 : Nat)) := Fr.out.cell 12
  have cr13 : W1.cell? ⟨gr, 13, none⟩ = some (.int .u64 (wd H 1 : Nat)) := Fr.out.cell 13
  have cr14 : W1.cell? ⟨gr, 14, none⟩ = some (.int .u64 (wd H 2 : Nat)) := Fr.out.cell 14
  have cr15 : W1.cell? ⟨gr, 15, none⟩ = some (.int .u64 (wd H 3 : Nat)) := Fr.out.cell 15
  have La := Fa.out.lt
  have ca0 := Fa.out.c0
  have ca1 := Fa.out.c1
  have ca2 := Fa.out.c2
  have ca3 := Fa.out.c3
  go_wp2
  go_ret
  exact ⟨rfl, BW.out⟩
 ·rw [decide_eq_false h0] at eqz
  have HC := Lib.hid (fun w => cmp_any A P hA hP w)
  have HK : mayB P A = decide (cmpN A P < 0) := by
   by_cases h : A < P
   ·simp [mayB, h0, h, cmpN_lt0b h]
   ·simp only [mayB, h, cmpN_nlt0 h, decide_false, Bool.and_false]
  rw [HK]
  clear h0 hP hA HK
  generalize cmpN A P = k at *
  obtain ⟨V, hV⟩ : ∃ V, V = decide (k < 0) := ⟨_, rfl⟩
  rw [← hV]
  have HV := Lib.hid hV
  clear hV
  go_enter Try.func37, Try.ntmps37
  have BW := Lib.hid (Below.refl w.heap.size w)
  go_upto_region 1 with fail
  generalize hW1 : ((w.alloc (.cells #[.int .u64 (wd P 0 : Nat), .int .u64 (wd P 1 : Nat), .int .u64 (wd P 2 : Nat), .int .u64 (wd P 3 : Nat), .int .u64 (wd Q 0 : Nat), .int .u64 (wd Q 1 : Nat), .int .u64 (wd Q 2 : Nat), .int .u64 (wd Q 3 : Nat), .int .u64 (wd G 0 : Nat), .int .u64 (wd G 1 : Nat), .int .u64 (wd G 2 : Nat), .int .u64 (wd G 3 : Nat), .int .u64 (wd H 0 : Nat), .int .u64 (wd H 1 : Nat), .int .u64 (wd H 2 : Nat), .int .u64 (wd H 3 : Nat)] 35)).alloc (.cells #[.int .u64 (wd A 0 : Nat), .int .u64 (wd A 1 : Nat), .int .u64 (wd A 2 : Nat), .int .u64 (wd A 3 : Nat)] 24)) = W1 at *
  have Nr : At W1 (w.heap.size) _ _ := at_of hW1 ((At.at_ _ _ _ _ (by simp)).alloc _)
  have Na : At W1 (w.heap.size + 1) _ _ := at_of hW1 (At.at_ _ _ _ _ (by simp))
  have NB := gr_of hW1 (gr_alloc (gr_alloc BW.out _) _)
  clear hW1 BW 
  generalize w.heap.size + 1 = ga at *
  obtain ⟨gr, hg0⟩ : ∃ g, g = w.heap.size := ⟨_, rfl⟩
  rw [← hg0] at Nr ⊢
  clear hg0
  have Fr := Lib.hid Nr
  have Fa := Lib.hid Na
  have BW := Lib.hid NB
  clear NB Nr Na
  have Lr := Fr.out.lt
  have cr0 : W1.cell? ⟨gr, 0, none⟩ = some (.int .u64 (wd P 0 : Nat)) := Fr.out.cell 0
  have cr1 : W1.cell? ⟨gr, 1, none⟩ = some (.int .u64 (wd P 1 : Nat)) := Fr.out.cell 1
  have cr2 : W1.cell? ⟨gr, 2, none⟩ = some (.int .u64 (wd P 2 : Nat)) := Fr.out.cell 2
  have cr3 : W1.cell? ⟨gr, 3, none⟩ = some (.int .u64 (wd P 3 : Nat)) := Fr.out.cell 3
  have cr4 : W1.cell? ⟨gr, 4, none⟩ = some (.int .u64 (wd Q 0 : Nat)) := Fr.out.cell 4
  have cr5 : W1.cell? ⟨gr, 5, none⟩ = some (.int .u64 (wd Q 1 : Nat)) := Fr.out.cell 5
  have cr6 : W1.cell? ⟨gr, 6, none⟩ = some (.int .u64 (wd Q 2 : Nat)) := Fr.out.cell 6
  have cr7 : W1.cell? ⟨gr, 7, none⟩ = some (.int .u64 (wd Q 3 : Nat)) := Fr.out.cell 7
  have cr8 : W1.cell? ⟨gr, 8, none⟩ = some (.int .u64 (wd G 0 : Nat)) := Fr.out.cell 8
  have cr9 : W1.cell? ⟨gr, 9, none⟩ = some (.int .u64 (wd G 1 : Nat)) := Fr.out.cell 9
  have cr10 : W1.cell? ⟨gr, 10, none⟩ = some (.int .u64 (wd G 2 : Nat)) := Fr.out.cell 10
  have cr11 : W1.cell? ⟨gr, 11, none⟩ = some (.int .u64 (wd G 3 : Nat)) := Fr.out.cell 11
  have cr12 : W1.cell? ⟨gr, 12, none⟩ = some (.int .u64 (wd H 0 : Nat)) := Fr.out.cell 12
  have cr13 : W1.cell? ⟨gr, 13, none⟩ = some (.int .u64 (wd H 1 : Nat)) := Fr.out.cell 13
  have cr14 : W1.cell? ⟨gr, 14, none⟩ = some (.int .u64 (wd H 2 : Nat)) := Fr.out.cell 14
  have cr15 : W1.cell? ⟨gr, 15, none⟩ = some (.int .u64 (wd H 3 : Nat)) := Fr.out.cell 15
  have La := Fa.out.lt
  have ca0 := Fa.out.c0
  have ca1 := Fa.out.c1
  have ca2 := Fa.out.c2
  have ca3 := Fa.out.c3
  go_wp2_with fail
  clear Lr cr0 cr1 cr2 cr3 cr4 cr5 cr6 cr7 cr8 cr9 cr10 cr11 cr12 cr13 cr14 cr15 La ca0 ca1 ca2 ca3
  clear eqz
  refine (HC.out _).mono ?_
  rintro e v2 ⟨rfl, z2⟩
  have Nr := Lib.hid (Fr.out.on z2)
  have Na := Lib.hid (Fa.out.on z2)
  have NB := Lib.hid (bel_tr BW.out z2)
  clear BW z2 Fr Fa
  have Fr := Nr
  have Fa := Na
  have BW := NB
  clear NB Nr Na
  by_cases hk : k < 0
  ·go_wp2
   go_ret
   exact ⟨by rw [HV.out, decide_eq_true hk]; rfl, BW.out⟩
  ·go_wp2
   go_ret
   exact ⟨by rw [HV.out, decide_eq_false (by omega)]; rfl, BW.out⟩

end Go.Proofs.Ytbggihkigblnfaa

/-
 groups: what is answered, walked.
-/
namespace Go.Proofs.Ytbggihkigblnfaa
set_option maxRecDepth 100000
open Go.RowKit
set_option linter.unusedSimpArgs false
set_option linter.unusedVariables false
attribute [local go_sem ↓] Go.wp_at_zero Go.wp_at_succ

set_option maxRecDepth 100000 in
set_option maxHeartbeats 8000000 in
theorem ginv_bad (P Q G H A : Nat)
  (c1 : ∀ w, Calls Try.prog 37 #[grp P Q G H, num A] w fun e w' => e = .returned (.bool false) ∧ Below w.heap.size w w')
  (w : World) : Calls Try.prog 15 #[grp P Q G H, num A] w fun e w' => e = .returned (.tuple #[num 0, .int .i64 1]) ∧ Below w.heap.size w w' := by
 have Hc1 := Lib.hid c1
 clear c1
 go_enter Try.func15, Try.ntmps15
 go_wp2_with fail
 have BW := Lib.hid (Below.refl w.heap.size w)
 have Eo : w.heap.size ≤ w.heap.size + 1 + 1 := by have := BW.out.size; omega
 have Dro : w.heap.size ≠ w.heap.size + 1 + 1 := by omega
 have Dao : w.heap.size + 1 ≠ w.heap.size + 1 + 1 := by omega
 generalize hW1 : (((w.alloc (.cells #[.int .u64 (wd P 0 : Nat), .int .u64 (wd P 1 : Nat), .int .u64 (wd P 2 : Nat), .int .u64 (wd P 3 : Nat), .int .u64 (wd Q 0 : Nat), .int .u64 (wd Q 1 : Nat), .int .u64 (wd Q 2 : Nat), .int .u64 (wd Q 3 : Nat), .int .u64 (wd G 0 : Nat), .int .u64 (wd G 1 : Nat), .int .u64 (wd G 2 : Nat), .int .u64 (wd G 3 : Nat), .int .u64 (wd H 0 : Nat), .int .u64 (wd H 1 : Nat), .int .u64 (wd H 2 : Nat), .int .u64 (wd H 3 : Nat)] 35)).alloc (.cells #[.int .u64 (wd A 0 : Nat), .int .u64 (wd A 1 : Nat), .int .u64 (wd A 2 : Nat), .int .u64 (wd A 3 : Nat)] 24)).alloc (.cells #[.int .u64 0, .int .u64 0, .int .u64 0, .int .u64 0] 24)) = W1 at *
 have Nr : At W1 (w.heap.size) _ _ := at_of hW1 (((At.at_ _ _ _ _ (by simp)).alloc _).alloc _)
 have Na : At W1 (w.heap.size + 1) _ _ := at_of hW1 ((At.at_ _ _ _ _ (by simp)).alloc _)
 have No : At W1 (w.heap.size + 1 + 1) _ _ := at_of hW1 (At.at_ _ _ _ _ (by simp))
 have NB := gr_of hW1 (gr_alloc (gr_alloc (gr_alloc BW.out _) _) _)
 clear hW1 BW 
 generalize w.heap.size + 1 + 1 = go at *
 generalize w.heap.size + 1 = ga at *
 obtain ⟨gr, hg0⟩ : ∃ g, g = w.heap.size := ⟨_, rfl⟩
 rw [← hg0] at Nr ⊢
 rw [← hg0] at Dro
 clear hg0
 have Fr := Lib.hid Nr
 have Fa := Lib.hid Na
 have Fo := Lib.hid No
 have BW := Lib.hid NB
 clear NB Nr Na No
 refine (Hc1.out _).mono ?_
 rintro e v2 ⟨rfl, z2⟩
 have Nr := Lib.hid (Fr.out.on z2)
 have Na := Lib.hid (Fa.out.on z2)
 have No := Lib.hid (Fo.out.on z2)
 have NB := Lib.hid (bel_tr BW.out z2)
 clear BW z2 Fr Fa Fo
 have Fr := Nr
 have Fa := Na
 have Fo := No
 have BW := NB
 clear NB Nr Na No
 have Lo := Fo.out.lt
 have co0 := Fo.out.c0
 have co1 := Fo.out.c1
 have co2 := Fo.out.c2
 have co3 := Fo.out.c3
 have fo0 : v2.frozen? ⟨go, 0, none⟩ = false := Fo.out.frozen 0
 have fo1 : v2.frozen? ⟨go, 1, none⟩ = false := Fo.out.frozen 1
 have fo2 : v2.frozen? ⟨go, 2, none⟩ = false := Fo.out.frozen 2
 have fo3 : v2.frozen? ⟨go, 3, none⟩ = false := Fo.out.frozen 3
 go_wp2_with fail
 clear Lo co0 co1 co2 co3 fo0 fo1 fo2 fo3
 generalize hW3 : ((((v2.setCell ⟨go, 0, none⟩ (.int .u64 0)).setCell ⟨go, 1, none⟩ (.int .u64 0)).setCell ⟨go, 2, none⟩ (.int .u64 0)).setCell ⟨go, 3, none⟩ (.int .u64 0)) = W3 at *
 have Nr := at_of hW3 ((Fr.out).far4 Dro _ _ _ _)
 have Na := at_of hW3 ((Fa.out).far4 Dao _ _ _ _)
 have No := at_of hW3 ((Fo.out).put4 _ _ _ _)
 have NB := gr_of hW3 (((((BW.out).setCell Eo _).setCell Eo _).setCell Eo _).setCell Eo _)
 clear hW3 BW Fr Fa Fo
 have Fr := Lib.hid Nr
 have Fa := Lib.hid Na
 have Fo := Lib.hid No
 have BW := Lib.hid NB
 clear NB Nr Na No
 have Lo := Fo.out.lt
 have co0 := Fo.out.c0
 have co1 := Fo.out.c1
 have co2 := Fo.out.c2
 have co3 := Fo.out.c3
 refine bodyPost_ret (v := .tuple #[.agg #[.int .u64 0, .int .u64 0, .int .u64 0, .int .u64 0], .int .i64 1]) (by simp [results, Try.results15, go_sem, *]) rfl ⟨rfl, BW.out⟩

set_option maxRecDepth 100000 in
set_option maxHeartbeats 8000000 in
theorem ginv_good (P Q G H A V : Nat) (er : Int)
  (c1 : ∀ w, Calls Try.prog 37 #[grp P Q G H, num A] w fun e w' => e = .returned (.bool true) ∧ Below w.heap.size w w')
  (c3 : ∀ w, Calls Try.prog 30 #[num A, num P] w fun e w' => e = .returned (.tuple #[num V, .int .i64 er]) ∧ Below w.heap.size w w')
  (w : World) : Calls Try.prog 15 #[grp P Q G H, num A] w fun e w' => e = .returned (.tuple #[num V, .int .i64 er]) ∧ Below w.heap.size w w' := by
 have Hc1 := Lib.hid c1
 have Hc3 := Lib.hid c3
 clear c1 c3
 go_enter Try.func15, Try.ntmps15
 go_wp2_with fail
 have BW := Lib.hid (Below.refl w.heap.size w)
 have Eo : w.heap.size ≤ w.heap.size + 1 + 1 := by have := BW.out.size; omega
 have Dro : w.heap.size ≠ w.heap.size + 1 + 1 := by omega
 have Dao : w.heap.size + 1 ≠ w.heap.size + 1 + 1 := by omega
 generalize hW1 : (((w.alloc (.cells #[.int .u64 (wd P 0 : Nat), .int .u64 (wd P 1 : Nat), .int .u64 (wd P 2 : Nat), .int .u64 (wd P 3 : Nat), .int .u64 (wd Q 0 : Nat), .int .u64 (wd Q 1 : Nat), .int .u64 (wd Q 2 : Nat), .int .u64 (wd Q 3 : Nat), .int .u64 (wd G 0 : Nat), .int .u64 (wd G 1 : Nat), .int .u64 (wd G 2 : Nat), .int .u64 (wd G 3 : Nat), .int .u64 (wd H 0 : Nat), .int .u64 (wd H 1 : Nat), .int .u64 (wd H 2 : Nat), .int .u64 (wd H 3 : Nat)] 35)).alloc (.cells #[.int .u64 (wd A 0 : Nat), .int .u64 (wd A 1 : Nat), .int .u64 (wd A 2 : Nat), .int .u64 (wd A 3 : Nat)] 24)).alloc (.cells #[.int .u64 0, .int .u64 0, .int .u64 0, .int .u64 0] 24)) = W1 at *
 have Nr : At W1 (w.heap.size) _ _ := at_of hW1 (((At.at_ _ _ _ _ (by simp)).alloc _).alloc _)
 have Na : At W1 (w.heap.size + 1) _ _ := at_of hW1 ((At.at_ _ _ _ _ (by simp)).alloc _)
 have No : At W1 (w.heap.size + 1 + 1) _ _ := at_of hW1 (At.at_ _ _ _ _ (by simp))
 have NB := gr_of hW1 (gr_alloc (gr_alloc (gr_alloc BW.out _) _) _)
 clear hW1 BW 
 generalize w.heap.size + 1 + 1 = go at *
 generalize w.heap.size + 1 = ga at *
 obtain ⟨gr, hg0⟩ : ∃ g, g = w.heap.size := ⟨_, rfl⟩
 rw [← hg0] at Nr ⊢
 rw [← hg0] at Dro
 clear hg0
 have Fr := Lib.hid Nr
 have Fa := Lib.hid Na
 have Fo := Lib.hid No
 have BW := Lib.hid NB
 clear NB Nr Na No
 refine (Hc1.out _).mono ?_
 rintro e v2 ⟨rfl, z2⟩
 have Nr := Lib.hid (Fr.out.on z2)
 have Na := Lib.hid (Fa.out.on z2)
 have No := Lib.hid (Fo.out.on z2)
 have NB := Lib.hid (bel_tr BW.out z2)
 clear BW z2 Fr Fa Fo
 have Fr := Nr
 have Fa := Na
 have Fo := No
 have BW := NB
 clear NB Nr Na No
 have La := Fa.out.lt
 have ca0 := Fa.out.c0
 have ca1 := Fa.out.c1
 have ca2 := Fa.out.c2
 have ca3 := Fa.out.c3
 have Lr := Fr.out.lt
 have cr0 : v2.cell? ⟨gr, 0, none⟩ = some (.int .u64 (wd P 0 : Nat)) := Fr.out.cell 0
 have cr1 : v2.cell? ⟨gr, 1, none⟩ = some (.int .u64 (wd P 1 : Nat)) := Fr.out.cell 1
 have cr2 : v2.cell? ⟨gr, 2, none⟩ = some (.int .u64 (wd P 2 : Nat)) := Fr.out.cell 2
 have cr3 : v2.cell? ⟨gr, 3, none⟩ = some (.int .u64 (wd P 3 : Nat)) := Fr.out.cell 3
 have cr4 : v2.cell? ⟨gr, 4, none⟩ = some (.int .u64 (wd Q 0 : Nat)) := Fr.out.cell 4
 have cr5 : v2.cell? ⟨gr, 5, none⟩ = some (.int .u64 (wd Q 1 : Nat)) := Fr.out.cell 5
 have cr6 : v2.cell? ⟨gr, 6, none⟩ = some (.int .u64 (wd Q 2 : Nat)) := Fr.out.cell 6
 have cr7 : v2.cell? ⟨gr, 7, none⟩ = some (.int .u64 (wd Q 3 : Nat)) := Fr.out.cell 7
 have cr8 : v2.cell? ⟨gr, 8, none⟩ = some (.int .u64 (wd G 0 : Nat)) := Fr.out.cell 8
 have cr9 : v2.cell? ⟨gr, 9, none⟩ = some (.int .u64 (wd G 1 : Nat)) := Fr.out.cell 9
 have cr10 : v2.cell? ⟨gr, 10, none⟩ = some (.int .u64 (wd G 2 : Nat)) := Fr.out.cell 10
 have cr11 : v2.cell? ⟨gr, 11, none⟩ = some (.int .u64 (wd G 3 : Nat)) := Fr.out.cell 11
 have cr12 : v2.cell? ⟨gr, 12, none⟩ = some (.int .u64 (wd H 0 : Nat)) := Fr.out.cell 12
 have cr13 : v2.cell? ⟨gr, 13, none⟩ = some (.int .u64 (wd H 1 : Nat)) := Fr.out.cell 13
 have cr14 : v2.cell? ⟨gr, 14, none⟩ = some (.int .u64 (wd H 2 : Nat)) := Fr.out.cell 14
 have cr15 : v2.cell? ⟨gr, 15, none⟩ = some (.int .u64 (wd H 3 : Nat)) := Fr.out.cell 15
 go_wp2_with fail
 clear La ca0 ca1 ca2 ca3 Lr cr0 cr1 cr2 cr3 cr4 cr5 cr6 cr7 cr8 cr9 cr10 cr11 cr12 cr13 cr14 cr15
 refine (Hc3.out _).mono ?_
 rintro e v3 ⟨rfl, z3⟩
 have Nr := Lib.hid (Fr.out.on z3)
 have Na := Lib.hid (Fa.out.on z3)
 have No := Lib.hid (Fo.out.on z3)
 have NB := Lib.hid (bel_tr BW.out z3)
 clear BW z3 Fr Fa Fo
 have Fr := Nr
 have Fa := Na
 have Fo := No
 have BW := NB
 clear NB Nr Na No
 have Lo := Fo.out.lt
 have co0 := Fo.out.c0
 have co1 := Fo.out.c1
 have co2 := Fo.out.c2
 have co3 := Fo.out.c3
 have fo0 : v3.frozen? ⟨go, 0, none⟩ = false := Fo.out.frozen 0
 have fo1 : v3.frozen? ⟨go, 1, none⟩ = false := Fo.out.frozen 1
 have fo2 : v3.frozen? ⟨go, 2, none⟩ = false := Fo.out.frozen 2
 have fo3 : v3.frozen? ⟨go, 3, none⟩ = false := Fo.out.frozen 3
 go_wp2_with fail
 clear Lo co0 co1 co2 co3 fo0 fo1 fo2 fo3
 generalize hW4 : ((((v3.setCell ⟨go, 0, none⟩ (.int .u64 (wd V 0 : Nat))).setCell ⟨go, 1, none⟩ (.int .u64 (wd V 1 : Nat))).setCell ⟨go, 2, none⟩ (.int .u64 (wd V 2 : Nat))).setCell ⟨go, 3, none⟩ (.int .u64 (wd V 3 : Nat))) = W4 at *
 have Nr := at_of hW4 ((Fr.out).far4 Dro _ _ _ _)
 have Na := at_of hW4 ((Fa.out).far4 Dao _ _ _ _)
 have No := at_of hW4 ((Fo.out).put4 _ _ _ _)
 have NB := gr_of hW4 (((((BW.out).setCell Eo _).setCell Eo _).setCell Eo _).setCell Eo _)
 clear hW4 BW Fr Fa Fo
 have Fr := Lib.hid Nr
 have Fa := Lib.hid Na
 have Fo := Lib.hid No
 have BW := Lib.hid NB
 clear NB Nr Na No
 have Lo := Fo.out.lt
 have co0 := Fo.out.c0
 have co1 := Fo.out.c1
 have co2 := Fo.out.c2
 have co3 := Fo.out.c3
 refine bodyPost_ret (v := .tuple #[num V, .int .i64 er]) (by simp [results, Try.results15, go_sem, *]) rfl ⟨rfl, BW.out⟩

end Go.Proofs.Ytbggihkigblnfaa
