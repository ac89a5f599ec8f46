/-
  Reasons in a slice: their cells, among the operations of a region that draws its order.
-/
import Derived.Test.YtodlpmepoakdlaaVGCore
import Derived.Test.YtodlpmepoakdlaaVWitn
namespace Go.Proofs.Ytodlpmepoakdlaa
set_option maxRecDepth 100000
open Go.RowKit
set_option linter.unusedSimpArgs false
set_option linter.unusedVariables false
attribute [local go_sem ↓] Go.wp_at_zero Go.wp_at_succ

/-- nine cells that tell a reason -/
def C9 (w : World) (g o n y : Nat) (s : Value) : Prop :=
  w.cell? ⟨g, o, none⟩ = some (.int .u64 (wd n 0 : Nat)) ∧ w.cell? ⟨g, o + 1, none⟩ = some (.int .u64 (wd n 1 : Nat)) ∧ w.cell? ⟨g, o + 2, none⟩ = some (.int .u64 (wd n 2 : Nat)) ∧ w.cell? ⟨g, o + 3, none⟩ = some (.int .u64 (wd n 3 : Nat)) ∧
  w.cell? ⟨g, o + 4, none⟩ = some (.int .u64 (wd y 0 : Nat)) ∧ w.cell? ⟨g, o + 5, none⟩ = some (.int .u64 (wd y 1 : Nat)) ∧ w.cell? ⟨g, o + 6, none⟩ = some (.int .u64 (wd y 2 : Nat)) ∧ w.cell? ⟨g, o + 7, none⟩ = some (.int .u64 (wd y 3 : Nat)) ∧ w.cell? ⟨g, o + 8, none⟩ = some s
theorem C9.on {w w' : World} {g o n y : Nat} {s : Value} (h : C9 w g o n y s) (hb : Below w.heap.size w w') : C9 w' g o n y s := by
  obtain ⟨h0, h1, h2, h3, h4, h5, h6, h7, h8⟩ := h
  exact ⟨cell_on hb h0, cell_on hb h1, cell_on hb h2, cell_on hb h3, cell_on hb h4, cell_on hb h5, cell_on hb h6, cell_on hb h7, cell_on hb h8⟩
/-- the i-th part of a slice, for all worlds that have grown -/
theorem Sl.c9 {w : World} {a : Option Addr} {cap : Nat} {ps : List Pr.Rsn} (h : Sl w a cap ps) {i : Nat} (hi : i < ps.length) : ∃ g off a' cap' q y l', a = some ⟨g, off, none⟩ ∧ (ps[i]).n = q ∧ (ps[i]).w = y ∧ (ps[i]).ps.length = l' ∧ q < 2 ^ 256 ∧ y < 2 ^ 256 ∧ Sl w a' cap' (ps[i]).ps ∧
    ∀ u, Below w.heap.size w u → C9 u g (off + i * 9) q y (.slice a' l' cap') := by
  obtain ⟨g, off, a', cap', q, y, l', ha, h1, h2, h3, h4, h5, h6, h7⟩ := h.cells hi
  exact ⟨g, off, a', cap', q, y, l', ha, h1, h2, h3, h4, h5, h6, fun u hb => C9.on h7 hb⟩
section
variable (x y : Operand) (dst : Option Tmp) (ty : TypeId) (pos : String) (after : Array Edge) (guard : Option (Nat × Bool)) (ρ : Operand → Value) (w : World) (g o : Nat)
theorem idxR (i l cap : Nat) (hi : i < l) (hx : ρ x = .slice (some ⟨g, o, none⟩) l cap) (hy : ρ y = .int .i64 (i : Nat)) :
    (execOp ρ ⟨dst, .indexAddr 25 x y, ty, pos, after, guard⟩).run Try.prog w = .ok (.value (.pointer (some ⟨g, o + i * 9, none⟩))) w := by
  have h1 : (i : Int) < (l : Int) := by omega
  simp [execOp, hx, hy, go_sem, h1]
theorem loadC (n v : Nat) (s : Value) (hx : ρ x = .pointer (some ⟨g, o, none⟩)) (h : C9 w g o n v s) :
    (execOp ρ ⟨dst, .load 27 x, ty, pos, after, guard⟩).run Try.prog w = .ok (.value (rv n v s)) w := by
  obtain ⟨h0, h1, h2, h3, h4, h5, h6, h7, h8⟩ := h
  simp [execOp, hx, go_sem, h0, h1, h2, h3, h4, h5, h6, h7, h8]
theorem lenR (a : Option Addr) (l cap : Nat) (hx : ρ x = .slice a l cap) :
    (execOp ρ ⟨dst, .call ⟨.builtin .len, #[x], #[25]⟩, ty, pos, after, guard⟩).run Try.prog w = .ok (.value (.int .i64 (l : Nat))) w := by
  simp [execOp, hx, go_sem]
end
section
variable {P : Program} {ops : Array Oper} {Q : Exit → Act → World → Prop} {md : Region.Mode} {S : World → Prop} {a : Act} {W : World} {cores : List Core}
end
end Go.Proofs.Ytodlpmepoakdlaa
