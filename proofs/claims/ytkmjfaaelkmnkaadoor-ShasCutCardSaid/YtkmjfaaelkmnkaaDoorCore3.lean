/-
  One rule more for a region that draws its order: an operation of three operands.
-/
import Derived.Test.YtkmjfaaelkmnkaaDoorCore
namespace Go.Proofs.YtkmjfaaelkmnkaaDoor
open Go.RowKit
set_option linter.unusedSimpArgs false
set_option linter.unusedVariables false

section
variable {P : Program} {ops : Array Oper} {Q : Exit → Act → World → Prop} {md : Region.Mode} {S : World → Prop} {a : Act} {W : World} {cores : List Core}
theorem core_held3C (c : Core) (op : Op) (ty : TypeId) (pos : String) (after : Array Edge) (u : Value) (x y z : Operand) (xv yv zv : Value)
    (ho : ops[c.i]? = some ⟨some c.d, op, ty, pos, after, none⟩) (hk : c.kind = Kind.val u) (hx : Known a cores c.pre x xv) (hy : Known a cores c.pre y yv) (hz : Known a cores c.pre z zv)
    (h : ∀ (ρ : Operand → Value) (w : World), ρ x = xv → ρ y = yv → ρ z = zv → S w → (execOp ρ ⟨some c.d, op, ty, pos, after, none⟩).run P w = .ok (.value u) w) : PureOK P ops S a W cores c := by
  intro _
  refine ⟨by rw [hk]; rfl, fun vs w hl _ hp o ho' => ?_⟩
  rw [ho] at ho'
  obtain rfl := Option.some.inj ho'
  exact ⟨u, by rw [hk]; exact rfl, Or.inl ⟨rfl, fun w' hS => h _ w' (hx vs w hl hp) (hy vs w hl hp) (hz vs w hl hp) hS⟩⟩
end
end Go.Proofs.YtkmjfaaelkmnkaaDoor
