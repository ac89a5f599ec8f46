/-
 Operations over numbers, groups, pairs of numbers, one rule each.
-/
import Derived.Deep.Cut
import Derived.Test.YtodlpmepoakdlaaMShiftN
import Derived.Test.YtodlpmepoakdlaaMSx
import Derived.Test.YtodlpmepoakdlaaMTree
namespace Go.Proofs.Ytodlpmepoakdlaa
set_option maxRecDepth 100000
open Go.RowKit
set_option linter.unusedSimpArgs false
set_option linter.unusedVariables false
attribute [local go_sem ↓] Go.wp_at_zero Go.wp_at_succ

abbrev ncs (X : Nat) : Array Value := #[.int .u64 (wd X 0 : Nat), .int .u64 (wd X 1 : Nat), .int .u64 (wd X 2 : Nat), .int .u64 (wd X 3 : Nat)]
abbrev gcs (P Q G H : Nat) : Array Value := #[.int .u64 (wd P 0 : Nat), .int .u64 (wd P 1 : Nat), .int .u64 (wd P 2 : Nat), .int .u64 (wd P 3 : Nat), .int .u64 (wd Q 0 : Nat), .int .u64 (wd Q 1 : Nat), .int .u64 (wd Q 2 : Nat), .int .u64 (wd Q 3 : Nat), .int .u64 (wd G 0 : Nat), .int .u64 (wd G 1 : Nat), .int .u64 (wd G 2 : Nat), .int .u64 (wd G 3 : Nat), .int .u64 (wd H 0 : Nat), .int .u64 (wd H 1 : Nat), .int .u64 (wd H 2 : Nat), .int .u64 (wd H 3 : Nat)]
abbrev acs (X Y : Nat) : Array Value := #[.int .u64 (wd X 0 : Nat), .int .u64 (wd X 1 : Nat), .int .u64 (wd X 2 : Nat), .int .u64 (wd X 3 : Nat), .int .u64 (wd Y 0 : Nat), .int .u64 (wd Y 1 : Nat), .int .u64 (wd Y 2 : Nat), .int .u64 (wd Y 3 : Nat)]
abbrev rows1 (X : Nat) : Array Value := #[.int .u64 (wd X 0 : Nat), .int .u64 (wd X 1 : Nat), .int .u64 (wd X 2 : Nat), .int .u64 (wd X 3 : Nat)]
abbrev rows2 (X Y : Nat) : Array Value := #[.int .u64 (wd X 0 : Nat), .int .u64 (wd X 1 : Nat), .int .u64 (wd X 2 : Nat), .int .u64 (wd X 3 : Nat), .int .u64 (wd Y 0 : Nat), .int .u64 (wd Y 1 : Nat), .int .u64 (wd Y 2 : Nat), .int .u64 (wd Y 3 : Nat)]
abbrev arr2 (X Y : Nat) : Value := .agg #[.int .u64 (wd X 0 : Nat), .int .u64 (wd X 1 : Nat), .int .u64 (wd X 2 : Nat), .int .u64 (wd X 3 : Nat), .int .u64 (wd Y 0 : Nat), .int .u64 (wd Y 1 : Nat), .int .u64 (wd Y 2 : Nat), .int .u64 (wd Y 3 : Nat)]
section
variable {x y z : Operand} {dst : Option Tmp} {ty : TypeId} {pos : String} {after : Array Edge} {guard : Option (Nat × Bool)} {ρ : Operand → Value} {w : World} {g o : Nat} {P : Program}
theorem o_move {v : Value} (hx : ρ x = v) : (execOp ρ ⟨dst, .move x, ty, pos, after, guard⟩).run P w = .ok (.value v) w := by simp only [execOp, hx]; rfl
theorem o_assign {v : Value} (hx : ρ x = v) : (execOp ρ ⟨dst, .assign x, ty, pos, after, guard⟩).run P w = .ok (.value v) w := by simp only [execOp, hx]; rfl
theorem o_extract {us : Array Value} {j : Nat} {u : Value} (hx : ρ x = .tuple us) (hu : us[j]? = some u) : (execOp ρ ⟨dst, .extract x j, ty, pos, after, guard⟩).run P w = .ok (.value u) w := by simp [execOp, hx, go_sem, hu]
theorem o_pick {b : Bool} {u v r : Value} (hx : ρ x = .bool b) (hy : ρ y = u) (hz : ρ z = v) (hr : (if b then u else v) = r) : (execOp ρ ⟨dst, .pick x y z, ty, pos, after, guard⟩).run P w = .ok (.value r) w := by
 subst hr
 cases b <;> simp [execOp, hx, hy, hz, go_sem]
theorem o_bin {b : BinOp} {T T2 : TypeId} {u v r : Value} (h : ∀ ρ : Operand → Value, ρ x = u → ρ y = v → (execOp ρ ⟨dst, .binOp b T x y T2, ty, pos, after, guard⟩).run P w = .ok (.value r) w) (hx : ρ x = u) (hy : ρ y = v) : (execOp ρ ⟨dst, .binOp b T x y T2, ty, pos, after, guard⟩).run P w = .ok (.value r) w := h ρ hx hy
theorem o_boxN {X : Nat} (hx : ρ x = num X) : (execOp ρ ⟨dst, .box 24 x, ty, pos, after, guard⟩).run Try.prog w = .ok (.value (.pointer (some ⟨w.heap.size, 0, none⟩))) (w.alloc (.cells (ncs X) 24)) := by simp [execOp, hx, go_sem]
theorem o_boxG {P Q G H : Nat} (hx : ρ x = grp P Q G H) : (execOp ρ ⟨dst, .box 35 x, ty, pos, after, guard⟩).run Try.prog w = .ok (.value (.pointer (some ⟨w.heap.size, 0, none⟩))) (w.alloc (.cells (gcs P Q G H) 35)) := by simp [execOp, hx, go_sem]
theorem o_boxA {X Y : Nat} (hx : ρ x = arr2 X Y) : (execOp ρ ⟨dst, .box 36 x, ty, pos, after, guard⟩).run Try.prog w = .ok (.value (.pointer (some ⟨w.heap.size, 0, none⟩))) (w.alloc (.cells (acs X Y) 36)) := by simp [execOp, hx, go_sem]
theorem o_allocN : (execOp ρ ⟨dst, .alloc 24, ty, pos, after, guard⟩).run Try.prog w = .ok (.value (.pointer (some ⟨w.heap.size, 0, none⟩))) (w.alloc (.cells (ncs 0) 24)) := alloc_run _ ty pos after guard ρ w
theorem o_build0 : (execOp ρ ⟨dst, .build 24 #[], ty, pos, after, guard⟩).run Try.prog w = .ok (.value (num 0)) w := buildZ _ ty pos after guard ρ w
theorem o_loadN {X : Nat} (hx : ρ x = .pointer (some ⟨g, 0, none⟩)) (h : At w g 24 (ncs X)) : (execOp ρ ⟨dst, .load 24 x, ty, pos, after, guard⟩).run Try.prog w = .ok (.value (num X)) w := load_run x _ ty pos after guard ρ w g _ _ _ _ hx h
theorem o_loadG {P Q G H : Nat} (hx : ρ x = .pointer (some ⟨g, 0, none⟩)) (h : At w g 35 (gcs P Q G H)) : (execOp ρ ⟨dst, .load 35 x, ty, pos, after, guard⟩).run Try.prog w = .ok (.value (grp P Q G H)) w := loadG x _ ty pos after guard ρ w g _ _ _ _ _ _ _ _ _ _ _ _ _ _ _ _ hx h
theorem o_fieldG1 (hx : ρ x = .pointer (some ⟨g, 0, none⟩)) : (execOp ρ ⟨dst, .fieldAddr 35 x 1, ty, pos, after, guard⟩).run Try.prog w = .ok (.value (.pointer (some ⟨g, 4, none⟩))) w := fieldG1 x _ ty pos after guard ρ w g hx
theorem o_loadG1 {P Q G H : Nat} (hx : ρ x = .pointer (some ⟨g, 4, none⟩)) (h : At w g 35 (gcs P Q G H)) : (execOp ρ ⟨dst, .load 24 x, ty, pos, after, guard⟩).run Try.prog w = .ok (.value (num Q)) w := loadG1 x _ ty pos after guard ρ w g _ _ _ _ _ _ _ _ _ _ _ _ _ _ _ _ hx h
theorem o_loadA0 {X Y : Nat} (hx : ρ x = .pointer (some ⟨g, 0, none⟩)) (h : At w g 36 (acs X Y)) : (execOp ρ ⟨dst, .load 24 x, ty, pos, after, guard⟩).run Try.prog w = .ok (.value (num X)) w := by
 have c0 : w.cell? ⟨g, 0, none⟩ = some (.int .u64 (wd X 0 : Nat)) := h.cell 0
 have c1 : w.cell? ⟨g, 1, none⟩ = some (.int .u64 (wd X 1 : Nat)) := h.cell 1
 have c2 : w.cell? ⟨g, 2, none⟩ = some (.int .u64 (wd X 2 : Nat)) := h.cell 2
 have c3 : w.cell? ⟨g, 3, none⟩ = some (.int .u64 (wd X 3 : Nat)) := h.cell 3
 simp [execOp, hx, go_sem, c0, c1, c2, c3]
theorem o_loadA1 {X Y : Nat} (hx : ρ x = .pointer (some ⟨g, 4, none⟩)) (h : At w g 36 (acs X Y)) : (execOp ρ ⟨dst, .load 24 x, ty, pos, after, guard⟩).run Try.prog w = .ok (.value (num Y)) w := by
 have c0 : w.cell? ⟨g, 4, none⟩ = some (.int .u64 (wd Y 0 : Nat)) := h.cell 4
 have c1 : w.cell? ⟨g, 5, none⟩ = some (.int .u64 (wd Y 1 : Nat)) := h.cell 5
 have c2 : w.cell? ⟨g, 6, none⟩ = some (.int .u64 (wd Y 2 : Nat)) := h.cell 6
 have c3 : w.cell? ⟨g, 7, none⟩ = some (.int .u64 (wd Y 3 : Nat)) := h.cell 7
 simp [execOp, hx, go_sem, c0, c1, c2, c3]
theorem o_idxA0 (hx : ρ x = .pointer (some ⟨g, 0, none⟩)) (hy : ρ y = .int .i64 0) : (execOp ρ ⟨dst, .indexAddr 36 x y, ty, pos, after, guard⟩).run Try.prog w = .ok (.value (.pointer (some ⟨g, 0, none⟩))) w := by simp [execOp, hx, hy, go_sem]
theorem o_idxA1 (hx : ρ x = .pointer (some ⟨g, 0, none⟩)) (hy : ρ y = .int .i64 1) : (execOp ρ ⟨dst, .indexAddr 36 x y, ty, pos, after, guard⟩).run Try.prog w = .ok (.value (.pointer (some ⟨g, 4, none⟩))) w := by simp [execOp, hx, hy, go_sem]
theorem o_storeN {X : Nat} {u0 u1 u2 u3 : Value} (hx : ρ x = .pointer (some ⟨g, 0, none⟩)) (hy : ρ y = num X) (h : At w g 24 #[u0, u1, u2, u3]) : (execOp ρ ⟨dst, .store 24 x y, ty, pos, after, guard⟩).run Try.prog w = .ok .skip (puts w g 0 [.int .u64 (wd X 0 : Nat), .int .u64 (wd X 1 : Nat), .int .u64 (wd X 2 : Nat), .int .u64 (wd X 3 : Nat)]) :=
 store_run x y _ ty pos after guard ρ w g _ _ _ _ _ _ _ _ hx hy h
theorem o_eqlN {X Y : Nat} {b : Bool} (hX : X < 2 ^ 256) (hY : Y < 2 ^ 256) (hb : decide (X = Y) = b) (hx : ρ x = num X) (hy : ρ y = num Y) : (execOp ρ ⟨dst, .binOp .eql 24 x y 24, ty, pos, after, guard⟩).run Try.prog w = .ok (.value (.bool b)) w :=
 eql_run b x y _ ty pos after guard _ _ _ _ _ _ _ _ (fun w => by rw [← hb]; exact eqN X Y hX hY w) ρ w hx hy
theorem o_eqlS {X : Nat} (hx : ρ x = num X) (hy : ρ y = num X) : (execOp ρ ⟨dst, .binOp .eql 24 x y 24, ty, pos, after, guard⟩).run Try.prog w = .ok (.value (.bool true)) w :=
 eql_run true x y _ ty pos after guard _ _ _ _ _ _ _ _ (eqY X) ρ w hx hy
end
end Go.Proofs.Ytodlpmepoakdlaa
