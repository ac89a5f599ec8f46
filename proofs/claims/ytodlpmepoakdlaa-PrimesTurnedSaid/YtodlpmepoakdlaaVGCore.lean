/-
  Blocks of api.Reason, nine cells: fields' addresses, loads, among the operations of a region that draws its order.
-/
import Derived.Deep.Cut
import Derived.Test.YtodlpmepoakdlaaVMod11
import Derived.Test.YtodlpmepoakdlaaVMult
import Derived.Test.YtodlpmepoakdlaaVSmall
import Derived.Test.YtodlpmepoakdlaaVTree
namespace Go.Proofs.Ytodlpmepoakdlaa
set_option maxRecDepth 100000
open Go.RowKit
set_option linter.unusedSimpArgs false
set_option linter.unusedVariables false
attribute [local go_sem ↓] Go.wp_at_zero Go.wp_at_succ

section
variable (x : Operand) (dst : Option Tmp) (ty : TypeId) (pos : String) (after : Array Edge) (guard : Option (Nat × Bool)) (ρ : Operand → Value) (w : World) (g : Nat) (u0 u1 u2 u3 u4 u5 u6 u7 u8 : Value)
theorem fieldR0 (hx : ρ x = .pointer (some ⟨g, 0, none⟩)) : (execOp ρ ⟨dst, .fieldAddr 27 x 0, ty, pos, after, guard⟩).run Try.prog w = .ok (.value (.pointer (some ⟨g, 0, none⟩))) w := by
  simp [execOp, hx, go_sem]
theorem fieldR1 (hx : ρ x = .pointer (some ⟨g, 0, none⟩)) : (execOp ρ ⟨dst, .fieldAddr 27 x 1, ty, pos, after, guard⟩).run Try.prog w = .ok (.value (.pointer (some ⟨g, 4, none⟩))) w := by
  simp [execOp, hx, go_sem]
theorem fieldR2 (hx : ρ x = .pointer (some ⟨g, 0, none⟩)) : (execOp ρ ⟨dst, .fieldAddr 27 x 2, ty, pos, after, guard⟩).run Try.prog w = .ok (.value (.pointer (some ⟨g, 8, none⟩))) w := by
  simp [execOp, hx, go_sem]
theorem loadR0 (hx : ρ x = .pointer (some ⟨g, 0, none⟩)) (h : At w g 27 #[u0, u1, u2, u3, u4, u5, u6, u7, u8]) :
    (execOp ρ ⟨dst, .load 24 x, ty, pos, after, guard⟩).run Try.prog w = .ok (.value (.agg #[u0, u1, u2, u3])) w := by
  have c0 : w.cell? ⟨g, 0, none⟩ = some u0 := h.cell 0
  have c1 : w.cell? ⟨g, 1, none⟩ = some u1 := h.cell 1
  have c2 : w.cell? ⟨g, 2, none⟩ = some u2 := h.cell 2
  have c3 : w.cell? ⟨g, 3, none⟩ = some u3 := h.cell 3
  simp [execOp, hx, go_sem, c0, c1, c2, c3]
theorem loadR1 (hx : ρ x = .pointer (some ⟨g, 4, none⟩)) (h : At w g 27 #[u0, u1, u2, u3, u4, u5, u6, u7, u8]) :
    (execOp ρ ⟨dst, .load 24 x, ty, pos, after, guard⟩).run Try.prog w = .ok (.value (.agg #[u4, u5, u6, u7])) w := by
  have c4 : w.cell? ⟨g, 4, none⟩ = some u4 := h.cell 4
  have c5 : w.cell? ⟨g, 5, none⟩ = some u5 := h.cell 5
  have c6 : w.cell? ⟨g, 6, none⟩ = some u6 := h.cell 6
  have c7 : w.cell? ⟨g, 7, none⟩ = some u7 := h.cell 7
  simp [execOp, hx, go_sem, c4, c5, c6, c7]
theorem loadR2 (hx : ρ x = .pointer (some ⟨g, 8, none⟩)) (h : At w g 27 #[u0, u1, u2, u3, u4, u5, u6, u7, u8]) :
    (execOp ρ ⟨dst, .load 25 x, ty, pos, after, guard⟩).run Try.prog w = .ok (.value u8) w := by
  have c8 : w.cell? ⟨g, 8, none⟩ = some u8 := h.cell 8
  simp [execOp, hx, go_sem, c8]
theorem loadR (hx : ρ x = .pointer (some ⟨g, 0, none⟩)) (h : At w g 27 #[u0, u1, u2, u3, u4, u5, u6, u7, u8]) :
    (execOp ρ ⟨dst, .load 27 x, ty, pos, after, guard⟩).run Try.prog w = .ok (.value (.agg #[u0, u1, u2, u3, u4, u5, u6, u7, u8])) w := by
  have c0 : w.cell? ⟨g, 0, none⟩ = some u0 := h.cell 0
  have c1 : w.cell? ⟨g, 1, none⟩ = some u1 := h.cell 1
  have c2 : w.cell? ⟨g, 2, none⟩ = some u2 := h.cell 2
  have c3 : w.cell? ⟨g, 3, none⟩ = some u3 := h.cell 3
  have c4 : w.cell? ⟨g, 4, none⟩ = some u4 := h.cell 4
  have c5 : w.cell? ⟨g, 5, none⟩ = some u5 := h.cell 5
  have c6 : w.cell? ⟨g, 6, none⟩ = some u6 := h.cell 6
  have c7 : w.cell? ⟨g, 7, none⟩ = some u7 := h.cell 7
  have c8 : w.cell? ⟨g, 8, none⟩ = some u8 := h.cell 8
  simp [execOp, hx, go_sem, c0, c1, c2, c3, c4, c5, c6, c7, c8]
end
section
variable {P : Program} {ops : Array Oper} {Q : Exit → Act → World → Prop} {md : Region.Mode} {S : World → Prop} {a : Act} {W : World} {cores : List Core}
/-- a guarded operation of one operand that may read memory of which S tells -/
theorem coreG_held (c : Core) (op : Op) (ty : TypeId) (pos : String) (after : Array Edge) (gd : Option (Nat × Bool)) (u : Value) (x : Operand) (xv : Value)
    (ho : ops[c.i]? = some ⟨some c.d, op, ty, pos, after, gd⟩) (hk : c.kind = Kind.val u) (hg : Wants ops a cores c.pre gd true) (hx : Known a cores c.pre x xv)
    (h : ∀ (ρ : Operand → Value) (w : World), ρ x = xv → S w → (execOp ρ ⟨some c.d, op, ty, pos, after, gd⟩).run P w = .ok (.value u) w) : PureOK P ops S a W cores c :=
  coreG_pure c _ ty pos after gd u ho hk hg fun vs w hl hp w' hS => h _ w' (hx vs w hl hp) hS
end
end Go.Proofs.Ytodlpmepoakdlaa

/-
  Blocks of api.Group, sixteen cells: fields' addresses, loads, among the operations of a region that draws its order.
-/
namespace Go.Proofs.Ytodlpmepoakdlaa
set_option maxRecDepth 100000
open Go.RowKit
set_option linter.unusedSimpArgs false
set_option linter.unusedVariables false
attribute [local go_sem ↓] Go.wp_at_zero Go.wp_at_succ

abbrev grp (P Q G H : Nat) : Value := .agg #[.int .u64 (wd P 0 : Nat), .int .u64 (wd P 1 : Nat), .int .u64 (wd P 2 : Nat), .int .u64 (wd P 3 : Nat), .int .u64 (wd Q 0 : Nat), .int .u64 (wd Q 1 : Nat), .int .u64 (wd Q 2 : Nat), .int .u64 (wd Q 3 : Nat), .int .u64 (wd G 0 : Nat), .int .u64 (wd G 1 : Nat), .int .u64 (wd G 2 : Nat), .int .u64 (wd G 3 : Nat), .int .u64 (wd H 0 : Nat), .int .u64 (wd H 1 : Nat), .int .u64 (wd H 2 : Nat), .int .u64 (wd H 3 : Nat)]
section
variable (x : Operand) (dst : Option Tmp) (ty : TypeId) (pos : String) (after : Array Edge) (guard : Option (Nat × Bool)) (ρ : Operand → Value) (w : World) (g : Nat) (u0 u1 u2 u3 u4 u5 u6 u7 u8 u9 u10 u11 u12 u13 u14 u15 : Value)
end
end Go.Proofs.Ytodlpmepoakdlaa

/-
  A guarded call, of a function whose contract wants what was there ahead of the region.
-/
namespace Go.Proofs.Ytodlpmepoakdlaa
set_option maxRecDepth 100000
open Go.RowKit
set_option linter.unusedSimpArgs false
set_option linter.unusedVariables false
section
variable {P : Program} {ops : Array Oper} {Q : Exit → Act → World → Prop} {md : Region.Mode} {S : World → Prop} {a : Act} {W : World} {cores : List Core}
end
end Go.Proofs.Ytodlpmepoakdlaa
