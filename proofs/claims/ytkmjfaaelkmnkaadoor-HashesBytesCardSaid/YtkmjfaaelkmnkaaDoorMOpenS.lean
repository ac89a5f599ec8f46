/-
  How the statements' arguments are read: two texts, in an array; a number and how many times, in a struct.
-/
import Derived.ChangeMaps5
import Derived.Test.YtkmjfaaelkmnkaaDoorMNuShort
namespace Go.Proofs.YtkmjfaaelkmnkaaDoor
set_option linter.unusedSimpArgs false
set_option linter.unusedVariables false
set_option maxRecDepth 100000
open Go.ChangeShapes Go.WideShapes Go.ChangeAt Go.RowKit

theorem cellsStrs : Tryd.prog.cellsOf 45 = 2 := by kernel_rfl
theorem cellsStr : Tryd.prog.cellsOf 9 = 1 := by kernel_rfl
section
variable {H : Type} {enc : TypeId × Value → H} {w : World} {held : Bool}
theorem open_str1 {fuel : Nat} {c : Value} {x : DataW H × List MemPlace} (h : DataW.trod enc Tryd.prog w 0 (fun _ => true) held fuel 9 [c] = some x) : ∃ s : ByteArray, c = .string s ∧ s.size ≤ 9223372036854775807 := by
  obtain ⟨s, e, _, hs⟩ := DataW.trod_string Tryd.underlying9 h
  simp at e
  exact ⟨s, e, by unfold maxLen at hs; omega⟩
theorem open_strs {base : Nat} {v : Value} {d : DataW H} {p : List MemPlace} (hv : Value.okWide Tryd.prog w .any base 45 v) (h : DataW.Trod enc Tryd.prog w 0 (fun _ => true) held 45 v d p) :
    ∃ s u : ByteArray, s.size ≤ 9223372036854775807 ∧ u.size ≤ 9223372036854775807 ∧ v = .agg #[.string s, .string u] := by
  obtain ⟨cs, rfl, hsz⟩ := okWide_arr Tryd.underlying45 hv
  obtain ⟨fuel, hf⟩ := h
  rw [cellsStrs] at hsz
  obtain ⟨cs⟩ := cs
  match cs, hsz with
  | [c0, c1], _ =>
    simp [Value.cells] at hf
    obtain ⟨xs, m, rfl, hx, hl, hn, he⟩ := DataW.trod_array Tryd.underlying45 hf
    rw [cellsStr] at he
    match xs, hn with
    | [x0, x1], _ =>
      have e0 := he 0 (by omega)
      have e1 := he 1 (by omega)
      simp at e0 e1
      obtain ⟨s, rfl, hs⟩ := open_str1 e0
      obtain ⟨u, rfl, hu⟩ := open_str1 e1
      exact ⟨s, u, hs, hu, rfl⟩
end
end Go.Proofs.YtkmjfaaelkmnkaaDoor
