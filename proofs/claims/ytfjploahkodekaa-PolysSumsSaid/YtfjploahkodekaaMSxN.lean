/-
  Operations over numbers, groups, pairs of numbers, one rule each.
-/
import Derived.Deep.Cut
import Derived.Test.YtfjploahkodekaaMBitsLN
import Derived.Test.YtfjploahkodekaaMShort
import Derived.Test.YtfjploahkodekaaMSx
namespace Go.Proofs.Ytfjploahkodekaa
set_option maxRecDepth 100000
open Go.RowKit
set_option linter.unusedSimpArgs false
set_option linter.unusedVariables false
attribute [local go_sem ↓] Go.wp_at_zero Go.wp_at_succ

abbrev ncs (X : Nat) : Array Value := #[.int .u64 (wd X 0 : Nat), .int .u64 (wd X 1 : Nat), .int .u64 (wd X 2 : Nat), .int .u64 (wd X 3 : Nat)]
abbrev gcs (P Q G H : Nat) : Array Value := #[.int .u64 (wd P 0 : Nat), .int .u64 (wd P 1 : Nat), .int .u64 (wd P 2 : Nat), .int .u64 (wd P 3 : Nat), .int .u64 (wd Q 0 : Nat), .int .u64 (wd Q 1 : Nat), .int .u64 (wd Q 2 : Nat), .int .u64 (wd Q 3 : Nat), .int .u64 (wd G 0 : Nat), .int .u64 (wd G 1 : Nat), .int .u64 (wd G 2 : Nat), .int .u64 (wd G 3 : Nat), .int .u64 (wd H 0 : Nat), .int .u64 (wd H 1 : Nat), .int .u64 (wd H 2 : Nat), .int .u64 (wd H 3 : Nat)]
abbrev acs (X Y : Nat) : Array Value := #[.int .u64 (wd X 0 : Nat), .int .u64 (wd X 1 : Nat), .int .u64 (wd X 2 : Nat), .int .u64 (wd X 3 : Nat), .int .u64 (wd Y 0 : Nat), .int .u64 (wd Y 1 : Nat), .int .u64 (wd Y 2 : Nat), .int .u64 (wd Y 3 : Nat)]
abbrev rows1 (X : Nat) : Array Value := #[.int .u64 (wd X 0 : Nat), .int .u64 (wd X 1 : Nat), .int .u64 (wd X 2 : Nat), .int .u64 (wd X 3 : Nat)]
abbrev rows2 (X Y : Nat) : Array Value := #[.int .u64 (wd X 0 : Nat), .int .u64 (wd X 1 : Nat), .int .u64 (wd X 2 : Nat), .int .u64 (wd X 3 : Nat), .int .u64 (wd Y 0 : Nat), .int .u64 (wd Y 1 : Nat), .int .u64 (wd Y 2 : Nat), .int .u64 (wd Y 3 : Nat)]
abbrev arr2 (X Y : Nat) : Value := .agg #[.int .u64 (wd X 0 : Nat), .int .u64 (wd X 1 : Nat), .int .u64 (wd X 2 : Nat), .int .u64 (wd X 3 : Nat), .int .u64 (wd Y 0 : Nat), .int .u64 (wd Y 1 : Nat), .int .u64 (wd Y 2 : Nat), .int .u64 (wd Y 3 : Nat)]
section
variable {x y z : Operand} {dst : Option Tmp} {ty : TypeId} {pos : String} {after : Array Edge} {guard : Option (Nat × Bool)} {ρ : Operand → Value} {w : World} {g o : Nat} {P : Program}
theorem o_move {v : Value} (hx : ρ x = v) : (execOp ρ ⟨dst, .move x, ty, pos, after, guard⟩).run P w = .ok (.value v) w := by simp only [execOp, hx]; rfl
theorem o_assign {v : Value} (hx : ρ x = v) : (execOp ρ ⟨dst, .assign x, ty, pos, after, guard⟩).run P w = .ok (.value v) w := by simp only [execOp, hx]; rfl
theorem o_extract {us : Array Value} {j : Nat} {u : Value} (hx : ρ x = .tuple us) (hu : us[j]? = some u) : (execOp ρ ⟨dst, .extract x j, ty, pos, after, guard⟩).run P w = .ok (.value u) w := by simp [execOp, hx, go_sem, hu]
theorem o_pick {b : Bool} {u v r : Value} (hx : ρ x = .bool b) (hy : ρ y = u) (hz : ρ z = v) (hr : (if b then u else v) = r) : (execOp ρ ⟨dst, .pick x y z, ty, pos, after, guard⟩).run P w = .ok (.value r) w := by
  subst hr
  cases b <;> simp [execOp, hx, hy, hz, go_sem]
theorem o_not {T : TypeId} {b r : Bool} (hx : ρ x = .bool b) (hr : (!b) = r) : (execOp ρ ⟨dst, .unOp .not T x, ty, pos, after, guard⟩).run P w = .ok (.value (.bool r)) w := by
  subst hr; simp [execOp, hx, go_sem]
theorem o_bin {b : BinOp} {T T2 : TypeId} {u v r : Value} (h : ∀ ρ : Operand → Value, ρ x = u → ρ y = v → (execOp ρ ⟨dst, .binOp b T x y T2, ty, pos, after, guard⟩).run P w = .ok (.value r) w) (hx : ρ x = u) (hy : ρ y = v) : (execOp ρ ⟨dst, .binOp b T x y T2, ty, pos, after, guard⟩).run P w = .ok (.value r) w := h ρ hx hy
theorem o_boxN {X : Nat} (hx : ρ x = num X) : (execOp ρ ⟨dst, .box 24 x, ty, pos, after, guard⟩).run Try.prog w = .ok (.value (.pointer (some ⟨w.heap.size, 0, none⟩))) (w.alloc (.cells (ncs X) 24)) := by simp [execOp, hx, go_sem]
theorem o_boxG {P Q G H : Nat} (hx : ρ x = grp P Q G H) : (execOp ρ ⟨dst, .box 26 x, ty, pos, after, guard⟩).run Try.prog w = .ok (.value (.pointer (some ⟨w.heap.size, 0, none⟩))) (w.alloc (.cells (gcs P Q G H) 26)) := by simp [execOp, hx, go_sem]
theorem o_boxA {X Y : Nat} (hx : ρ x = arr2 X Y) : (execOp ρ ⟨dst, .box 37 x, ty, pos, after, guard⟩).run Try.prog w = .ok (.value (.pointer (some ⟨w.heap.size, 0, none⟩))) (w.alloc (.cells (acs X Y) 37)) := by simp [execOp, hx, go_sem]
theorem o_allocN : (execOp ρ ⟨dst, .alloc 24, ty, pos, after, guard⟩).run Try.prog w = .ok (.value (.pointer (some ⟨w.heap.size, 0, none⟩))) (w.alloc (.cells (ncs 0) 24)) := alloc_run _ ty pos after guard ρ w
theorem o_allocG : (execOp ρ ⟨dst, .alloc 26, ty, pos, after, guard⟩).run Try.prog w = .ok (.value (.pointer (some ⟨w.heap.size, 0, none⟩))) (w.alloc (.cells (gcs 0 0 0 0) 26)) := by
  have h : (execOp ρ ⟨dst, .alloc 26, ty, pos, after, guard⟩).run Try.prog w = .ok (.value (.pointer (some ⟨w.heap.size, 0, none⟩))) (w.alloc (.cells #[.int .u64 0, .int .u64 0, .int .u64 0, .int .u64 0, .int .u64 0, .int .u64 0, .int .u64 0, .int .u64 0, .int .u64 0, .int .u64 0, .int .u64 0, .int .u64 0, .int .u64 0, .int .u64 0, .int .u64 0, .int .u64 0] 26)) := by simp [execOp, go_sem]
  exact h
theorem o_allocE : (execOp ρ ⟨dst, .alloc 29, ty, pos, after, guard⟩).run Try.prog w = .ok (.value (.pointer (some ⟨w.heap.size, 0, none⟩))) (w.alloc (.cells #[.int .i64 0] 29)) := by simp [execOp, go_sem]
theorem o_storeE {e : Int} {u : Value} (hx : ρ x = .pointer (some ⟨g, 0, none⟩)) (hy : ρ y = .int .i64 e) (h : At w g 29 #[u]) : (execOp ρ ⟨dst, .store 29 x y, ty, pos, after, guard⟩).run Try.prog w = .ok .skip (puts w g 0 [.int .i64 e]) := by
  have c0 : w.cell? ⟨g, 0, none⟩ = some u := h.cell 0
  have f0 : w.frozen? ⟨g, 0, none⟩ = false := h.frozen 0
  simp [execOp, hx, hy, go_sem, puts, c0, f0]
theorem o_len {a : Option Addr} {l cap : Nat} (hx : ρ x = .slice a l cap) : (execOp ρ ⟨dst, .call ⟨.builtin .len, #[x], #[27]⟩, ty, pos, after, guard⟩).run Try.prog w = .ok (.value (.int .i64 (l : Nat))) w := by
  simp [execOp, hx, go_sem]
/-- a number and an error, told from two blocks -/
theorem res_NE {fn : Func} {a : Act} {N : Nat} {L : List (Nat × Value)} {df : List Deferred} (F : Fr a N L df) {s t gs gt X : Nat} {e : Int} (hf : fn.results = #[.cell s 24, .cell t 29]) (h1 : lk L s = some (.pointer (some ⟨gs, 0, none⟩))) (h2 : lk L t = some (.pointer (some ⟨gt, 0, none⟩)))
    (A1 : At w gs 24 (ncs X)) (A2 : At w gt 29 #[.int .i64 e]) : (results fn a.tmps).run Try.prog w = .ok (.tuple #[num X, .int .i64 e]) w := by
  have e1 := F.get s _ h1
  have e2 := F.get t _ h2
  rw [Array.getD_eq_getD_getElem?] at e1 e2
  have c0 : w.cell? ⟨gs, 0, none⟩ = some (.int .u64 (wd X 0 : Nat)) := A1.cell 0
  have c1 : w.cell? ⟨gs, 1, none⟩ = some (.int .u64 (wd X 1 : Nat)) := A1.cell 1
  have c2 : w.cell? ⟨gs, 2, none⟩ = some (.int .u64 (wd X 2 : Nat)) := A1.cell 2
  have c3 : w.cell? ⟨gs, 3, none⟩ = some (.int .u64 (wd X 3 : Nat)) := A1.cell 3
  have d0 : w.cell? ⟨gt, 0, none⟩ = some (.int .i64 e) := A2.cell 0
  simp [results, hf, go_sem, e1, e2, c0, c1, c2, c3, d0]
theorem o_slice1 {X : Nat} (hx : ρ x = num X) : (execOp ρ ⟨dst, .buildSlice 27 1 #[(0, x)], ty, pos, after, guard⟩).run Try.prog w = .ok (.value (.slice (some ⟨w.heap.size, 0, none⟩) 1 1)) (w.alloc (.cells (rows1 X) 24)) := by simp [execOp, hx, go_sem]
theorem o_slice2 {X Y : Nat} (hx : ρ x = num X) (hy : ρ y = num Y) : (execOp ρ ⟨dst, .buildSlice 27 2 #[(0, x), (1, y)], ty, pos, after, guard⟩).run Try.prog w = .ok (.value (.slice (some ⟨w.heap.size, 0, none⟩) 2 2)) (w.alloc (.cells (rows2 X Y) 24)) := by simp [execOp, hx, hy, go_sem]
theorem o_build0 : (execOp ρ ⟨dst, .build 24 #[], ty, pos, after, guard⟩).run Try.prog w = .ok (.value (num 0)) w := buildZ _ ty pos after guard ρ w
theorem o_loadN {X : Nat} (hx : ρ x = .pointer (some ⟨g, 0, none⟩)) (h : At w g 24 (ncs X)) : (execOp ρ ⟨dst, .load 24 x, ty, pos, after, guard⟩).run Try.prog w = .ok (.value (num X)) w := load_run x _ ty pos after guard ρ w g _ _ _ _ hx h
theorem o_loadG {P Q G H : Nat} (hx : ρ x = .pointer (some ⟨g, 0, none⟩)) (h : At w g 26 (gcs P Q G H)) : (execOp ρ ⟨dst, .load 26 x, ty, pos, after, guard⟩).run Try.prog w = .ok (.value (grp P Q G H)) w := loadG x _ ty pos after guard ρ w g _ _ _ _ _ _ _ _ _ _ _ _ _ _ _ _ hx h
theorem o_fieldG0 (hx : ρ x = .pointer (some ⟨g, 0, none⟩)) : (execOp ρ ⟨dst, .fieldAddr 26 x 0, ty, pos, after, guard⟩).run Try.prog w = .ok (.value (.pointer (some ⟨g, 0, none⟩))) w := fieldG0 x _ ty pos after guard ρ w g hx
theorem o_loadG0 {P Q G H : Nat} (hx : ρ x = .pointer (some ⟨g, 0, none⟩)) (h : At w g 26 (gcs P Q G H)) : (execOp ρ ⟨dst, .load 24 x, ty, pos, after, guard⟩).run Try.prog w = .ok (.value (num P)) w := loadG0 x _ ty pos after guard ρ w g _ _ _ _ _ _ _ _ _ _ _ _ _ _ _ _ hx h
theorem o_fieldG1 (hx : ρ x = .pointer (some ⟨g, 0, none⟩)) : (execOp ρ ⟨dst, .fieldAddr 26 x 1, ty, pos, after, guard⟩).run Try.prog w = .ok (.value (.pointer (some ⟨g, 4, none⟩))) w := fieldG1 x _ ty pos after guard ρ w g hx
theorem o_loadG1 {P Q G H : Nat} (hx : ρ x = .pointer (some ⟨g, 4, none⟩)) (h : At w g 26 (gcs P Q G H)) : (execOp ρ ⟨dst, .load 24 x, ty, pos, after, guard⟩).run Try.prog w = .ok (.value (num Q)) w := loadG1 x _ ty pos after guard ρ w g _ _ _ _ _ _ _ _ _ _ _ _ _ _ _ _ hx h
theorem o_fieldG2 (hx : ρ x = .pointer (some ⟨g, 0, none⟩)) : (execOp ρ ⟨dst, .fieldAddr 26 x 2, ty, pos, after, guard⟩).run Try.prog w = .ok (.value (.pointer (some ⟨g, 8, none⟩))) w := fieldG2 x _ ty pos after guard ρ w g hx
theorem o_loadG2 {P Q G H : Nat} (hx : ρ x = .pointer (some ⟨g, 8, none⟩)) (h : At w g 26 (gcs P Q G H)) : (execOp ρ ⟨dst, .load 24 x, ty, pos, after, guard⟩).run Try.prog w = .ok (.value (num G)) w := loadG2 x _ ty pos after guard ρ w g _ _ _ _ _ _ _ _ _ _ _ _ _ _ _ _ hx h
theorem o_fieldG3 (hx : ρ x = .pointer (some ⟨g, 0, none⟩)) : (execOp ρ ⟨dst, .fieldAddr 26 x 3, ty, pos, after, guard⟩).run Try.prog w = .ok (.value (.pointer (some ⟨g, 12, none⟩))) w := fieldG3 x _ ty pos after guard ρ w g hx
theorem o_loadG3 {P Q G H : Nat} (hx : ρ x = .pointer (some ⟨g, 12, none⟩)) (h : At w g 26 (gcs P Q G H)) : (execOp ρ ⟨dst, .load 24 x, ty, pos, after, guard⟩).run Try.prog w = .ok (.value (num H)) w := loadG3 x _ ty pos after guard ρ w g _ _ _ _ _ _ _ _ _ _ _ _ _ _ _ _ hx h
theorem o_loadA0 {X Y : Nat} (hx : ρ x = .pointer (some ⟨g, 0, none⟩)) (h : At w g 37 (acs X Y)) : (execOp ρ ⟨dst, .load 24 x, ty, pos, after, guard⟩).run Try.prog w = .ok (.value (num X)) w := by
  have c0 : w.cell? ⟨g, 0, none⟩ = some (.int .u64 (wd X 0 : Nat)) := h.cell 0
  have c1 : w.cell? ⟨g, 1, none⟩ = some (.int .u64 (wd X 1 : Nat)) := h.cell 1
  have c2 : w.cell? ⟨g, 2, none⟩ = some (.int .u64 (wd X 2 : Nat)) := h.cell 2
  have c3 : w.cell? ⟨g, 3, none⟩ = some (.int .u64 (wd X 3 : Nat)) := h.cell 3
  simp [execOp, hx, go_sem, c0, c1, c2, c3]
theorem o_loadA1 {X Y : Nat} (hx : ρ x = .pointer (some ⟨g, 4, none⟩)) (h : At w g 37 (acs X Y)) : (execOp ρ ⟨dst, .load 24 x, ty, pos, after, guard⟩).run Try.prog w = .ok (.value (num Y)) w := by
  have c0 : w.cell? ⟨g, 4, none⟩ = some (.int .u64 (wd Y 0 : Nat)) := h.cell 4
  have c1 : w.cell? ⟨g, 5, none⟩ = some (.int .u64 (wd Y 1 : Nat)) := h.cell 5
  have c2 : w.cell? ⟨g, 6, none⟩ = some (.int .u64 (wd Y 2 : Nat)) := h.cell 6
  have c3 : w.cell? ⟨g, 7, none⟩ = some (.int .u64 (wd Y 3 : Nat)) := h.cell 7
  simp [execOp, hx, go_sem, c0, c1, c2, c3]
theorem o_idxA0 (hx : ρ x = .pointer (some ⟨g, 0, none⟩)) (hy : ρ y = .int .i64 0) : (execOp ρ ⟨dst, .indexAddr 37 x y, ty, pos, after, guard⟩).run Try.prog w = .ok (.value (.pointer (some ⟨g, 0, none⟩))) w := by simp [execOp, hx, hy, go_sem]
theorem o_idxA1 (hx : ρ x = .pointer (some ⟨g, 0, none⟩)) (hy : ρ y = .int .i64 1) : (execOp ρ ⟨dst, .indexAddr 37 x y, ty, pos, after, guard⟩).run Try.prog w = .ok (.value (.pointer (some ⟨g, 4, none⟩))) w := by simp [execOp, hx, hy, go_sem]
theorem o_storeN {X : Nat} {u0 u1 u2 u3 : Value} (hx : ρ x = .pointer (some ⟨g, 0, none⟩)) (hy : ρ y = num X) (h : At w g 24 #[u0, u1, u2, u3]) : (execOp ρ ⟨dst, .store 24 x y, ty, pos, after, guard⟩).run Try.prog w = .ok .skip (puts w g 0 [.int .u64 (wd X 0 : Nat), .int .u64 (wd X 1 : Nat), .int .u64 (wd X 2 : Nat), .int .u64 (wd X 3 : Nat)]) :=
  store_run x y _ ty pos after guard ρ w g _ _ _ _ _ _ _ _ hx hy h
theorem o_storeG {P Q G H : Nat} {P1 Q1 G1 H1 : Nat} (hx : ρ x = .pointer (some ⟨g, 0, none⟩)) (hy : ρ y = grp P Q G H) (h : At w g 26 (gcs P1 Q1 G1 H1)) : (execOp ρ ⟨dst, .store 26 x y, ty, pos, after, guard⟩).run Try.prog w = .ok .skip (puts w g 0 [.int .u64 (wd P 0 : Nat), .int .u64 (wd P 1 : Nat), .int .u64 (wd P 2 : Nat), .int .u64 (wd P 3 : Nat), .int .u64 (wd Q 0 : Nat), .int .u64 (wd Q 1 : Nat), .int .u64 (wd Q 2 : Nat), .int .u64 (wd Q 3 : Nat), .int .u64 (wd G 0 : Nat), .int .u64 (wd G 1 : Nat), .int .u64 (wd G 2 : Nat), .int .u64 (wd G 3 : Nat), .int .u64 (wd H 0 : Nat), .int .u64 (wd H 1 : Nat), .int .u64 (wd H 2 : Nat), .int .u64 (wd H 3 : Nat)]) := by
  have c0 : w.cell? ⟨g, 0, none⟩ = some (.int .u64 (wd P1 0 : Nat)) := h.cell 0
  have f0 : w.frozen? ⟨g, 0, none⟩ = false := h.frozen 0
  have c1 : w.cell? ⟨g, 1, none⟩ = some (.int .u64 (wd P1 1 : Nat)) := h.cell 1
  have f1 : w.frozen? ⟨g, 1, none⟩ = false := h.frozen 1
  have c2 : w.cell? ⟨g, 2, none⟩ = some (.int .u64 (wd P1 2 : Nat)) := h.cell 2
  have f2 : w.frozen? ⟨g, 2, none⟩ = false := h.frozen 2
  have c3 : w.cell? ⟨g, 3, none⟩ = some (.int .u64 (wd P1 3 : Nat)) := h.cell 3
  have f3 : w.frozen? ⟨g, 3, none⟩ = false := h.frozen 3
  have c4 : w.cell? ⟨g, 4, none⟩ = some (.int .u64 (wd Q1 0 : Nat)) := h.cell 4
  have f4 : w.frozen? ⟨g, 4, none⟩ = false := h.frozen 4
  have c5 : w.cell? ⟨g, 5, none⟩ = some (.int .u64 (wd Q1 1 : Nat)) := h.cell 5
  have f5 : w.frozen? ⟨g, 5, none⟩ = false := h.frozen 5
  have c6 : w.cell? ⟨g, 6, none⟩ = some (.int .u64 (wd Q1 2 : Nat)) := h.cell 6
  have f6 : w.frozen? ⟨g, 6, none⟩ = false := h.frozen 6
  have c7 : w.cell? ⟨g, 7, none⟩ = some (.int .u64 (wd Q1 3 : Nat)) := h.cell 7
  have f7 : w.frozen? ⟨g, 7, none⟩ = false := h.frozen 7
  have c8 : w.cell? ⟨g, 8, none⟩ = some (.int .u64 (wd G1 0 : Nat)) := h.cell 8
  have f8 : w.frozen? ⟨g, 8, none⟩ = false := h.frozen 8
  have c9 : w.cell? ⟨g, 9, none⟩ = some (.int .u64 (wd G1 1 : Nat)) := h.cell 9
  have f9 : w.frozen? ⟨g, 9, none⟩ = false := h.frozen 9
  have c10 : w.cell? ⟨g, 10, none⟩ = some (.int .u64 (wd G1 2 : Nat)) := h.cell 10
  have f10 : w.frozen? ⟨g, 10, none⟩ = false := h.frozen 10
  have c11 : w.cell? ⟨g, 11, none⟩ = some (.int .u64 (wd G1 3 : Nat)) := h.cell 11
  have f11 : w.frozen? ⟨g, 11, none⟩ = false := h.frozen 11
  have c12 : w.cell? ⟨g, 12, none⟩ = some (.int .u64 (wd H1 0 : Nat)) := h.cell 12
  have f12 : w.frozen? ⟨g, 12, none⟩ = false := h.frozen 12
  have c13 : w.cell? ⟨g, 13, none⟩ = some (.int .u64 (wd H1 1 : Nat)) := h.cell 13
  have f13 : w.frozen? ⟨g, 13, none⟩ = false := h.frozen 13
  have c14 : w.cell? ⟨g, 14, none⟩ = some (.int .u64 (wd H1 2 : Nat)) := h.cell 14
  have f14 : w.frozen? ⟨g, 14, none⟩ = false := h.frozen 14
  have c15 : w.cell? ⟨g, 15, none⟩ = some (.int .u64 (wd H1 3 : Nat)) := h.cell 15
  have f15 : w.frozen? ⟨g, 15, none⟩ = false := h.frozen 15
  simp [execOp, hx, hy, go_sem, puts, c0, f0, c1, f1, c2, f2, c3, f3, c4, f4, c5, f5, c6, f6, c7, f7, c8, f8, c9, f9, c10, f10, c11, f11, c12, f12, c13, f13, c14, f14, c15, f15]
theorem o_eqlN {X Y : Nat} {b : Bool} (hX : X < 2 ^ 256) (hY : Y < 2 ^ 256) (hb : decide (X = Y) = b) (hx : ρ x = num X) (hy : ρ y = num Y) : (execOp ρ ⟨dst, .binOp .eql 24 x y 24, ty, pos, after, guard⟩).run Try.prog w = .ok (.value (.bool b)) w :=
  eql_run b x y _ ty pos after guard _ _ _ _ _ _ _ _ (fun w => by rw [← hb]; exact eqN X Y hX hY w) ρ w hx hy
theorem o_neqN {X Y : Nat} {b : Bool} (hX : X < 2 ^ 256) (hY : Y < 2 ^ 256) (hb : decide (X = Y) = b) (hx : ρ x = num X) (hy : ρ y = num Y) : (execOp ρ ⟨dst, .binOp .neq 24 x y 24, ty, pos, after, guard⟩).run Try.prog w = .ok (.value (.bool (!b))) w :=
  neq_run b x y dst ty pos after guard _ _ _ _ _ _ _ _ (fun w => by rw [← hb]; exact eqN X Y hX hY w) ρ w hx hy
theorem o_eqlS {X : Nat} (hx : ρ x = num X) (hy : ρ y = num X) : (execOp ρ ⟨dst, .binOp .eql 24 x y 24, ty, pos, after, guard⟩).run Try.prog w = .ok (.value (.bool true)) w :=
  eql_run true x y _ ty pos after guard _ _ _ _ _ _ _ _ (eqY X) ρ w hx hy
theorem o_neqS {X : Nat} (hx : ρ x = num X) (hy : ρ y = num X) : (execOp ρ ⟨dst, .binOp .neq 24 x y 24, ty, pos, after, guard⟩).run Try.prog w = .ok (.value (.bool false)) w :=
  neq_run true x y dst ty pos after guard _ _ _ _ _ _ _ _ (eqY X) ρ w hx hy
end
end Go.Proofs.Ytfjploahkodekaa
