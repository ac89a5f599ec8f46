/-
  Operations over numbers, groups, pairs of numbers, one rule each.
-/
import Derived.Deep.Cut
import Derived.Test.YtodlpmepoakdlaaVShift
import Derived.Test.YtodlpmepoakdlaaVSmall
import Derived.Test.YtodlpmepoakdlaaVSx
namespace Go.Proofs.Ytodlpmepoakdlaa
set_option maxRecDepth 100000
open Go.RowKit
set_option linter.unusedSimpArgs false
set_option linter.unusedVariables false
attribute [local go_sem ↓] Go.wp_at_zero Go.wp_at_succ

abbrev ncs (X : Nat) : Array Value := #[.int .u64 (wd X 0 : Nat), .int .u64 (wd X 1 : Nat), .int .u64 (wd X 2 : Nat), .int .u64 (wd X 3 : Nat)]
abbrev gcs (P Q G H : Nat) : Array Value := #[.int .u64 (wd P 0 : Nat), .int .u64 (wd P 1 : Nat), .int .u64 (wd P 2 : Nat), .int .u64 (wd P 3 : Nat), .int .u64 (wd Q 0 : Nat), .int .u64 (wd Q 1 : Nat), .int .u64 (wd Q 2 : Nat), .int .u64 (wd Q 3 : Nat), .int .u64 (wd G 0 : Nat), .int .u64 (wd G 1 : Nat), .int .u64 (wd G 2 : Nat), .int .u64 (wd G 3 : Nat), .int .u64 (wd H 0 : Nat), .int .u64 (wd H 1 : Nat), .int .u64 (wd H 2 : Nat), .int .u64 (wd H 3 : Nat)]
abbrev acs (X Y : Nat) : Array Value := #[.int .u64 (wd X 0 : Nat), .int .u64 (wd X 1 : Nat), .int .u64 (wd X 2 : Nat), .int .u64 (wd X 3 : Nat), .int .u64 (wd Y 0 : Nat), .int .u64 (wd Y 1 : Nat), .int .u64 (wd Y 2 : Nat), .int .u64 (wd Y 3 : Nat)]
abbrev rows1 (X : Nat) : Array Value := #[.int .u64 (wd X 0 : Nat), .int .u64 (wd X 1 : Nat), .int .u64 (wd X 2 : Nat), .int .u64 (wd X 3 : Nat)]
abbrev rows2 (X Y : Nat) : Array Value := #[.int .u64 (wd X 0 : Nat), .int .u64 (wd X 1 : Nat), .int .u64 (wd X 2 : Nat), .int .u64 (wd X 3 : Nat), .int .u64 (wd Y 0 : Nat), .int .u64 (wd Y 1 : Nat), .int .u64 (wd Y 2 : Nat), .int .u64 (wd Y 3 : Nat)]
abbrev arr2 (X Y : Nat) : Value := .agg #[.int .u64 (wd X 0 : Nat), .int .u64 (wd X 1 : Nat), .int .u64 (wd X 2 : Nat), .int .u64 (wd X 3 : Nat), .int .u64 (wd Y 0 : Nat), .int .u64 (wd Y 1 : Nat), .int .u64 (wd Y 2 : Nat), .int .u64 (wd Y 3 : Nat)]
section
variable {x y z : Operand} {dst : Option Tmp} {ty : TypeId} {pos : String} {after : Array Edge} {guard : Option (Nat × Bool)} {ρ : Operand → Value} {w : World} {g o : Nat} {P : Program}
theorem o_move {v : Value} (hx : ρ x = v) : (execOp ρ ⟨dst, .move x, ty, pos, after, guard⟩).run P w = .ok (.value v) w := by simp only [execOp, hx]; rfl
theorem o_assign {v : Value} (hx : ρ x = v) : (execOp ρ ⟨dst, .assign x, ty, pos, after, guard⟩).run P w = .ok (.value v) w := by simp only [execOp, hx]; rfl
theorem o_pick {b : Bool} {u v r : Value} (hx : ρ x = .bool b) (hy : ρ y = u) (hz : ρ z = v) (hr : (if b then u else v) = r) : (execOp ρ ⟨dst, .pick x y z, ty, pos, after, guard⟩).run P w = .ok (.value r) w := by
  subst hr
  cases b <;> simp [execOp, hx, hy, hz, go_sem]
theorem o_not {T : TypeId} {b r : Bool} (hx : ρ x = .bool b) (hr : (!b) = r) : (execOp ρ ⟨dst, .unOp .not T x, ty, pos, after, guard⟩).run P w = .ok (.value (.bool r)) w := by
  subst hr; simp [execOp, hx, go_sem]
theorem o_bin {b : BinOp} {T T2 : TypeId} {u v r : Value} (h : ∀ ρ : Operand → Value, ρ x = u → ρ y = v → (execOp ρ ⟨dst, .binOp b T x y T2, ty, pos, after, guard⟩).run P w = .ok (.value r) w) (hx : ρ x = u) (hy : ρ y = v) : (execOp ρ ⟨dst, .binOp b T x y T2, ty, pos, after, guard⟩).run P w = .ok (.value r) w := h ρ hx hy
end
end Go.Proofs.Ytodlpmepoakdlaa
