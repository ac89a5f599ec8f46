/-
  Blocks of api.Reason, nine cells: fields' addresses, loads, among the operations of a region that draws its order.
-/
import Derived.Deep.Cut
import Derived.Test.YtodlpmepoakdlaaWMod11
import Derived.Test.YtodlpmepoakdlaaWMult
import Derived.Test.YtodlpmepoakdlaaWShort
import Derived.Test.YtodlpmepoakdlaaWTree
namespace Go.Proofs.Ytodlpmepoakdlaa
set_option maxRecDepth 100000
open Go.RowKit
set_option linter.unusedSimpArgs false
set_option linter.unusedVariables false
attribute [local go_sem ↓] Go.wp_at_zero Go.wp_at_succ

section
variable (x : Operand) (dst : Option Tmp) (ty : TypeId) (pos : String) (after : Array Edge) (guard : Option (Nat × Bool)) (ρ : Operand → Value) (w : World) (g : Nat) (u0 u1 u2 u3 u4 u5 u6 u7 u8 : Value)
theorem buildZ : (execOp ρ ⟨dst, .build 24 #[], ty, pos, after, guard⟩).run Try.prog w = .ok (.value (.agg #[.int .u64 0, .int .u64 0, .int .u64 0, .int .u64 0])) w := by
  simp [execOp, go_sem]
end
section
variable {P : Program} {ops : Array Oper} {Q : Exit → Act → World → Prop} {md : Region.Mode} {S : World → Prop} {a : Act} {W : World} {cores : List Core}
end
end Go.Proofs.Ytodlpmepoakdlaa

/-
  Blocks of api.Group, sixteen cells: fields' addresses, loads, among the operations of a region that draws its order.
-/
namespace Go.Proofs.Ytodlpmepoakdlaa
set_option maxRecDepth 100000
open Go.RowKit
set_option linter.unusedSimpArgs false
set_option linter.unusedVariables false
attribute [local go_sem ↓] Go.wp_at_zero Go.wp_at_succ

abbrev grp (P Q G H : Nat) : Value := .agg #[.int .u64 (wd P 0 : Nat), .int .u64 (wd P 1 : Nat), .int .u64 (wd P 2 : Nat), .int .u64 (wd P 3 : Nat), .int .u64 (wd Q 0 : Nat), .int .u64 (wd Q 1 : Nat), .int .u64 (wd Q 2 : Nat), .int .u64 (wd Q 3 : Nat), .int .u64 (wd G 0 : Nat), .int .u64 (wd G 1 : Nat), .int .u64 (wd G 2 : Nat), .int .u64 (wd G 3 : Nat), .int .u64 (wd H 0 : Nat), .int .u64 (wd H 1 : Nat), .int .u64 (wd H 2 : Nat), .int .u64 (wd H 3 : Nat)]
section
variable (x : Operand) (dst : Option Tmp) (ty : TypeId) (pos : String) (after : Array Edge) (guard : Option (Nat × Bool)) (ρ : Operand → Value) (w : World) (g : Nat) (u0 u1 u2 u3 u4 u5 u6 u7 u8 u9 u10 u11 u12 u13 u14 u15 : Value)
theorem fieldG1 (hx : ρ x = .pointer (some ⟨g, 0, none⟩)) : (execOp ρ ⟨dst, .fieldAddr 35 x 1, ty, pos, after, guard⟩).run Try.prog w = .ok (.value (.pointer (some ⟨g, 4, none⟩))) w := by
  simp [execOp, hx, go_sem]
theorem loadG1 (hx : ρ x = .pointer (some ⟨g, 4, none⟩)) (h : At w g 35 #[u0, u1, u2, u3, u4, u5, u6, u7, u8, u9, u10, u11, u12, u13, u14, u15]) :
    (execOp ρ ⟨dst, .load 24 x, ty, pos, after, guard⟩).run Try.prog w = .ok (.value (.agg #[u4, u5, u6, u7])) w := by
  have c0 : w.cell? ⟨g, 4, none⟩ = some u4 := h.cell 4
  have c1 : w.cell? ⟨g, 5, none⟩ = some u5 := h.cell 5
  have c2 : w.cell? ⟨g, 6, none⟩ = some u6 := h.cell 6
  have c3 : w.cell? ⟨g, 7, none⟩ = some u7 := h.cell 7
  simp [execOp, hx, go_sem, c0, c1, c2, c3]
theorem loadG (hx : ρ x = .pointer (some ⟨g, 0, none⟩)) (h : At w g 35 #[u0, u1, u2, u3, u4, u5, u6, u7, u8, u9, u10, u11, u12, u13, u14, u15]) :
    (execOp ρ ⟨dst, .load 35 x, ty, pos, after, guard⟩).run Try.prog w = .ok (.value (.agg #[u0, u1, u2, u3, u4, u5, u6, u7, u8, u9, u10, u11, u12, u13, u14, u15])) w := by
  have c0 : w.cell? ⟨g, 0, none⟩ = some u0 := h.cell 0
  have c1 : w.cell? ⟨g, 1, none⟩ = some u1 := h.cell 1
  have c2 : w.cell? ⟨g, 2, none⟩ = some u2 := h.cell 2
  have c3 : w.cell? ⟨g, 3, none⟩ = some u3 := h.cell 3
  have c4 : w.cell? ⟨g, 4, none⟩ = some u4 := h.cell 4
  have c5 : w.cell? ⟨g, 5, none⟩ = some u5 := h.cell 5
  have c6 : w.cell? ⟨g, 6, none⟩ = some u6 := h.cell 6
  have c7 : w.cell? ⟨g, 7, none⟩ = some u7 := h.cell 7
  have c8 : w.cell? ⟨g, 8, none⟩ = some u8 := h.cell 8
  have c9 : w.cell? ⟨g, 9, none⟩ = some u9 := h.cell 9
  have c10 : w.cell? ⟨g, 10, none⟩ = some u10 := h.cell 10
  have c11 : w.cell? ⟨g, 11, none⟩ = some u11 := h.cell 11
  have c12 : w.cell? ⟨g, 12, none⟩ = some u12 := h.cell 12
  have c13 : w.cell? ⟨g, 13, none⟩ = some u13 := h.cell 13
  have c14 : w.cell? ⟨g, 14, none⟩ = some u14 := h.cell 14
  have c15 : w.cell? ⟨g, 15, none⟩ = some u15 := h.cell 15
  simp [execOp, hx, go_sem, c0, c1, c2, c3, c4, c5, c6, c7, c8, c9, c10, c11, c12, c13, c14, c15]
end
end Go.Proofs.Ytodlpmepoakdlaa
