/-
  Function values, arrays of them, and reasons, one rule each.
-/
import Derived.Deep.Cut
import Derived.Test.YtodlpmepoakdlaaVGCore
import Derived.Test.YtodlpmepoakdlaaVSmall
import Derived.Test.YtodlpmepoakdlaaVSxD
import Derived.Test.YtodlpmepoakdlaaVTree
namespace Go.Proofs.Ytodlpmepoakdlaa
set_option maxRecDepth 100000
open Go.RowKit
set_option linter.unusedSimpArgs false
set_option linter.unusedVariables false
attribute [local go_sem ↓] Go.wp_at_zero Go.wp_at_succ

abbrev rcs (N Y : Nat) (s : Value) : Array Value := #[.int .u64 (wd N 0 : Nat), .int .u64 (wd N 1 : Nat), .int .u64 (wd N 2 : Nat), .int .u64 (wd N 3 : Nat), .int .u64 (wd Y 0 : Nat), .int .u64 (wd Y 1 : Nat), .int .u64 (wd Y 2 : Nat), .int .u64 (wd Y 3 : Nat), s]
section
variable {x y z : Operand} {dst : Option Tmp} {ty : TypeId} {pos : String} {after : Array Edge} {guard : Option (Nat × Bool)} {ρ : Operand → Value} {w : World} {g o : Nat} {P : Program}
theorem o_boxR {N Y : Nat} {s : Value} {pa : Option Addr} {l cap : Nat} (hx : ρ x = rv N Y s) (hs : s = .slice pa l cap) : (execOp ρ ⟨dst, .box 27 x, ty, pos, after, guard⟩).run Try.prog w = .ok (.value (.pointer (some ⟨w.heap.size, 0, none⟩))) (w.alloc (.cells (rcs N Y s) 27)) := by subst hs; simp [execOp, hx, go_sem]
theorem o_allocR : (execOp ρ ⟨dst, .alloc 27, ty, pos, after, guard⟩).run Try.prog w = .ok (.value (.pointer (some ⟨w.heap.size, 0, none⟩))) (w.alloc (.cells (rcs 0 0 (.slice none 0 0)) 27)) := by
  have h : (execOp ρ ⟨dst, .alloc 27, ty, pos, after, guard⟩).run Try.prog w = .ok (.value (.pointer (some ⟨w.heap.size, 0, none⟩))) (w.alloc (.cells #[.int .u64 0, .int .u64 0, .int .u64 0, .int .u64 0, .int .u64 0, .int .u64 0, .int .u64 0, .int .u64 0, .slice none 0 0] 27)) := by simp [execOp, go_sem]
  exact h
theorem o_fieldR0 (hx : ρ x = .pointer (some ⟨g, 0, none⟩)) : (execOp ρ ⟨dst, .fieldAddr 27 x 0, ty, pos, after, guard⟩).run Try.prog w = .ok (.value (.pointer (some ⟨g, 0, none⟩))) w := fieldR0 x _ ty pos after guard ρ w g hx
theorem o_loadR0 {N Y : Nat} {s : Value} (hx : ρ x = .pointer (some ⟨g, 0, none⟩)) (h : At w g 27 (rcs N Y s)) : (execOp ρ ⟨dst, .load 24 x, ty, pos, after, guard⟩).run Try.prog w = .ok (.value (num N)) w := loadR0 x _ ty pos after guard ρ w g _ _ _ _ _ _ _ _ _ hx h
theorem o_loadR {N Y : Nat} {s : Value} (hx : ρ x = .pointer (some ⟨g, 0, none⟩)) (h : At w g 27 (rcs N Y s)) : (execOp ρ ⟨dst, .load 27 x, ty, pos, after, guard⟩).run Try.prog w = .ok (.value (rv N Y s)) w := loadR x _ ty pos after guard ρ w g _ _ _ _ _ _ _ _ _ hx h
theorem o_storeR {N Y N1 Y1 : Nat} {s s1 : Value} {pa : Option Addr} {l cap : Nat} (hx : ρ x = .pointer (some ⟨g, 0, none⟩)) (hy : ρ y = rv N Y s) (h : At w g 27 (rcs N1 Y1 s1)) (hs : s = .slice pa l cap) : (execOp ρ ⟨dst, .store 27 x y, ty, pos, after, guard⟩).run Try.prog w = .ok .skip (puts w g 0 [.int .u64 (wd N 0 : Nat), .int .u64 (wd N 1 : Nat), .int .u64 (wd N 2 : Nat), .int .u64 (wd N 3 : Nat), .int .u64 (wd Y 0 : Nat), .int .u64 (wd Y 1 : Nat), .int .u64 (wd Y 2 : Nat), .int .u64 (wd Y 3 : Nat), s]) := by
  subst hs
  have c0 : w.cell? ⟨g, 0, none⟩ = some (.int .u64 (wd N1 0 : Nat)) := h.cell 0
  have k0 : w.frozen? ⟨g, 0, none⟩ = false := h.frozen 0
  have c1 : w.cell? ⟨g, 1, none⟩ = some (.int .u64 (wd N1 1 : Nat)) := h.cell 1
  have k1 : w.frozen? ⟨g, 1, none⟩ = false := h.frozen 1
  have c2 : w.cell? ⟨g, 2, none⟩ = some (.int .u64 (wd N1 2 : Nat)) := h.cell 2
  have k2 : w.frozen? ⟨g, 2, none⟩ = false := h.frozen 2
  have c3 : w.cell? ⟨g, 3, none⟩ = some (.int .u64 (wd N1 3 : Nat)) := h.cell 3
  have k3 : w.frozen? ⟨g, 3, none⟩ = false := h.frozen 3
  have c4 : w.cell? ⟨g, 4, none⟩ = some (.int .u64 (wd Y1 0 : Nat)) := h.cell 4
  have k4 : w.frozen? ⟨g, 4, none⟩ = false := h.frozen 4
  have c5 : w.cell? ⟨g, 5, none⟩ = some (.int .u64 (wd Y1 1 : Nat)) := h.cell 5
  have k5 : w.frozen? ⟨g, 5, none⟩ = false := h.frozen 5
  have c6 : w.cell? ⟨g, 6, none⟩ = some (.int .u64 (wd Y1 2 : Nat)) := h.cell 6
  have k6 : w.frozen? ⟨g, 6, none⟩ = false := h.frozen 6
  have c7 : w.cell? ⟨g, 7, none⟩ = some (.int .u64 (wd Y1 3 : Nat)) := h.cell 7
  have k7 : w.frozen? ⟨g, 7, none⟩ = false := h.frozen 7
  have c8 : w.cell? ⟨g, 8, none⟩ = some (s1) := h.cell 8
  have k8 : w.frozen? ⟨g, 8, none⟩ = false := h.frozen 8
  simp [execOp, hx, hy, go_sem, puts, c0, k0, c1, k1, c2, k2, c3, k3, c4, k4, c5, k5, c6, k6, c7, k7, c8, k8]
end
end Go.Proofs.Ytodlpmepoakdlaa
