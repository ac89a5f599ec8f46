/-
  How the statements' arguments are read: a number and how many times, in a struct.
-/
import Derived.ChangeMaps5
import Derived.ChangeSame
import Derived.Test.YtkmjfaaelkmnkaaDoorMLawHNumber
import Derived.Test.YtkmjfaaelkmnkaaDoorMNuShort
namespace Go.Proofs.YtkmjfaaelkmnkaaDoor
set_option linter.unusedSimpArgs false
set_option linter.unusedVariables false
set_option maxRecDepth 100000
open Go.ChangeShapes Go.WideShapes Go.ChangeAt Go.RowKit

section
variable {H : Type} {enc : TypeId × Value → H} {w : World} {held : Bool}
theorem cellsTimes : Tryd.prog.cellsOf 50 = 5 := by kernel_rfl
theorem cells16 : Tryd.prog.cellsOf 23 = 1 := by kernel_rfl
theorem okWide_str {base : Nat} {t : TypeId} {fs : Array Field} {v : Value} (ht : Tryd.prog.underlying t = some (.struct fs)) (h : Value.okWide Tryd.prog w .any base t v) : ∃ cs, v = .agg cs ∧ cs.size = Tryd.prog.cellsOf t := by
  simp only [Value.okWide, ht] at h
  obtain ⟨cs, h1, h2, _⟩ := h
  exact ⟨cs, h1, h2⟩
theorem open_times {base : Nat} {v : Value} {d : DataW H} {p : List MemPlace} (hv : Value.okWide Tryd.prog w .any base 50 v) (h : DataW.Trod enc Tryd.prog w 0 (fun _ => true) held 50 v d p) :
    ∃ X y : Nat, X < 2 ^ 256 ∧ y < 65536 ∧ v = .agg (tm X y).toArray := by
  obtain ⟨cs, rfl, hsz⟩ := okWide_str Tryd.underlying50 hv
  obtain ⟨fuel, hf⟩ := h
  rw [cellsTimes] at hsz
  obtain ⟨cs⟩ := cs
  match cs, hsz with
  | [c0, c1, c2, c3, c4], _ =>
    simp [Value.cells] at hf
    obtain ⟨y0, y1, m, hx, hl, h0, h1⟩ := trod_struct2 Tryd.underlying50 hf
    rw [cellsNum] at h0
    rw [cells16] at h1
    simp at h0 h1
    obtain ⟨X, hX, rfl, rfl, rfl, rfl⟩ := open_four h0
    obtain ⟨q, e, _, hw⟩ := DataW.trod_int Tryd.underlying23 h1
    have bd := bounds_u16 hw
    simp at e
    exact ⟨X, q.toNat, hX, by omega, by rw [e]; simp [tm, Int.toNat_of_nonneg bd.1]⟩
end
end Go.Proofs.YtkmjfaaelkmnkaaDoor
