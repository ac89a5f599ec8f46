/-
  A long number stored into a block that is just its words: one step.
-/
import Derived.Test.YtmhmdbjjmmmgkaaSet
import Derived.Test.YtmhmdbjjmmmgkaaCmp
namespace Go.Proofs.Ytmhmdbjjmmmgkaa
open Go.RowKit
set_option linter.unusedSimpArgs false
set_option linter.unusedVariables false

/-- block g holds four words now -/
def put4 (w : World) (g : Nat) (a b c d : Value) : World := (((w.setCell ⟨g, 0, none⟩ a).setCell ⟨g, 1, none⟩ b).setCell ⟨g, 2, none⟩ c).setCell ⟨g, 3, none⟩ d

theorem store_run (x y : Operand) (dst : Option Tmp) (ty : TypeId) (pos : String) (after : Array Edge) (guard : Option (Nat × Bool)) (ρ : Operand → Value) (w : World) (g : Nat) (u0 u1 u2 u3 : Value) (a b c d : Int)
    (hx : ρ x = .pointer (some ⟨g, 0, none⟩)) (hy : ρ y = .agg #[.int .u64 a, .int .u64 b, .int .u64 c, .int .u64 d]) (h : At w g 24 #[u0, u1, u2, u3]) :
    (execOp ρ ⟨dst, .store 24 x y, ty, pos, after, guard⟩).run Try.prog w = .ok .skip (put4 w g (.int .u64 a) (.int .u64 b) (.int .u64 c) (.int .u64 d)) := by
  have c0 : w.cell? ⟨g, 0, none⟩ = some u0 := h.cell 0
  have c1 : w.cell? ⟨g, 1, none⟩ = some u1 := h.cell 1
  have c2 : w.cell? ⟨g, 2, none⟩ = some u2 := h.cell 2
  have c3 : w.cell? ⟨g, 3, none⟩ = some u3 := h.cell 3
  have f0 : w.frozen? ⟨g, 0, none⟩ = false := h.frozen 0
  have f1 : w.frozen? ⟨g, 1, none⟩ = false := h.frozen 1
  have f2 : w.frozen? ⟨g, 2, none⟩ = false := h.frozen 2
  have f3 : w.frozen? ⟨g, 3, none⟩ = false := h.frozen 3
  unfold put4
  simp [execOp, hx, hy, go_sem, c0, c1, c2, c3, f0, f1, f2, f3]

theorem load_run (x : Operand) (dst : Option Tmp) (ty : TypeId) (pos : String) (after : Array Edge) (guard : Option (Nat × Bool)) (ρ : Operand → Value) (w : World) (g : Nat) (u0 u1 u2 u3 : Value)
    (hx : ρ x = .pointer (some ⟨g, 0, none⟩)) (h : At w g 24 #[u0, u1, u2, u3]) :
    (execOp ρ ⟨dst, .load 24 x, ty, pos, after, guard⟩).run Try.prog w = .ok (.value (.agg #[u0, u1, u2, u3])) w := by
  have c0 : w.cell? ⟨g, 0, none⟩ = some u0 := h.cell 0
  have c1 : w.cell? ⟨g, 1, none⟩ = some u1 := h.cell 1
  have c2 : w.cell? ⟨g, 2, none⟩ = some u2 := h.cell 2
  have c3 : w.cell? ⟨g, 3, none⟩ = some u3 := h.cell 3
  simp [execOp, hx, go_sem, c0, c1, c2, c3]

theorem alloc_run (dst : Option Tmp) (ty : TypeId) (pos : String) (after : Array Edge) (guard : Option (Nat × Bool)) (ρ : Operand → Value) (w : World) :
    (execOp ρ ⟨dst, .alloc 24, ty, pos, after, guard⟩).run Try.prog w = .ok (.value (.pointer (some ⟨w.heap.size, 0, none⟩))) (w.alloc (.cells #[.int .u64 0, .int .u64 0, .int .u64 0, .int .u64 0] 24)) := by
  simp [execOp, go_sem]

section
variable {P : Program} {o : Oper} {a : Act} {K : Act → World → Prop} {Q : Exit → Act → World → Prop} {w w' : World}
theorem wp_of_run_value {v : Value} (h : (execOp a.eval o).run P w = .ok (.value v) w') (hK : K (a.put o.dst v) w') : Oper.wp P o a w K Q := by
  unfold Oper.wp; rw [h]; exact hK
theorem wp_of_run_skip (h : (execOp a.eval o).run P w = .ok .skip w') (hK : K (a.put o.dst undef) w') : Oper.wp P o a w K Q := by
  unfold Oper.wp; rw [h]; exact hK
theorem want_none {ops : Array Oper} {t : Array Value} {p q : Prop} (ho : o.guard = none) (h : p) : if Region.wanted o (yielded ops t) = true then p else q := by
  rw [if_pos]; exact h
  unfold Region.wanted; rw [ho]
end
theorem put4_at {w : World} {g : Nat} {t : TypeId} {a b c d : Value} (h : At w g t #[a, b, c, d]) (a' b' c' d' : Value) : At (put4 w g a' b' c' d') g t #[a', b', c', d'] := h.put4 _ _ _ _
theorem put4_far {w : World} {g g' : Nat} {t : TypeId} {cs : Array Value} (h : At w g t cs) (hne : g ≠ g') (a' b' c' d' : Value) : At (put4 w g' a' b' c' d') g t cs := h.far4 hne _ _ _ _
theorem put4_below {W w : World} {n g : Nat} (h : Below n W w) (hg : n ≤ g) (a b c d : Value) : Below n W (put4 w g a b c d) :=
  (((h.setCell hg _).setCell hg _).setCell hg _).setCell hg _
end Go.Proofs.Ytmhmdbjjmmmgkaa
