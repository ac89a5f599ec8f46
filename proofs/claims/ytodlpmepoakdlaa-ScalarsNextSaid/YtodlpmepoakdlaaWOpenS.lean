/-
  How an argument api.Group is opened.
-/
import Derived.Test.YtodlpmepoakdlaaWBits
import Derived.Test.YtodlpmepoakdlaaWGCore
import Derived.Test.YtodlpmepoakdlaaWSc
import Derived.Test.YtodlpmepoakdlaaWTree
namespace Go.Proofs.Ytodlpmepoakdlaa
set_option maxRecDepth 100000
set_option linter.unusedSimpArgs false
set_option linter.unusedVariables false
open Go.RowKit Go.WideShapes Go.ChangeShapes Go.ChangeAt

theorem Try.cellsG : Try.prog.cellsOf 35 = 16 := by kernel_rfl
section
variable {H : Type} {enc : TypeId × Value → H} {w : World} {held : Bool}
/-- a group -/
theorem open_group {base : Nat} {v : Value} {d : DataW H} {p : List MemPlace} (hv : Value.okWide Try.prog w .any base 35 v) (h : DataW.Trod enc Try.prog w 0 (fun _ => true) held 35 v d p) :
    ∃ P Q G H' : Nat, v = grp P Q G H' ∧ P < 2 ^ 256 ∧ Q < 2 ^ 256 ∧ G < 2 ^ 256 ∧ H' < 2 ^ 256 := by
  obtain ⟨cs, rfl, hsz⟩ : ∃ cs, v = .agg cs ∧ cs.size = Try.prog.cellsOf 35 := by
    simp only [Value.okWide, Try.underlying35] at hv
    obtain ⟨cs, h1, h2, _⟩ := hv
    exact ⟨cs, h1, h2⟩
  obtain ⟨fuel, hf⟩ := h
  obtain ⟨xs, m, hm, _, hl, hlen, hf⟩ := DataW.trod_struct Try.underlying35 hf
  rw [Try.cellsG] at hsz
  obtain ⟨cs⟩ := cs
  match cs, hsz with
  | [c0, c1, c2, c3, c4, c5, c6, c7, c8, c9, c10, c11, c12, c13, c14, c15], _ =>
    match xs, hlen with
    | [y0, y1, y2, y3], _ =>
      simp only [Value.cells] at hf
      have h0 : DataW.trod enc Try.prog w 0 (fun _ => true) held m 24 [c0, c1, c2, c3] = some y0 := by simpa [Try.cells24] using hf 0 _ rfl
      have h1 : DataW.trod enc Try.prog w 0 (fun _ => true) held m 24 [c4, c5, c6, c7] = some y1 := by simpa [Try.cells24] using hf 1 _ rfl
      have h2 : DataW.trod enc Try.prog w 0 (fun _ => true) held m 24 [c8, c9, c10, c11] = some y2 := by simpa [Try.cells24] using hf 2 _ rfl
      have h3 : DataW.trod enc Try.prog w 0 (fun _ => true) held m 24 [c12, c13, c14, c15] = some y3 := by simpa [Try.cells24] using hf 3 _ rfl
      obtain ⟨P, hP, rfl, rfl, rfl, rfl⟩ := open_four h0
      obtain ⟨Q, hQ, rfl, rfl, rfl, rfl⟩ := open_four h1
      obtain ⟨G, hG, rfl, rfl, rfl, rfl⟩ := open_four h2
      obtain ⟨K, hK, rfl, rfl, rfl, rfl⟩ := open_four h3
      exact ⟨P, Q, G, K, rfl, hP, hQ, hG, hK⟩
end
end Go.Proofs.Ytodlpmepoakdlaa

/-
  How an argument [4]api.Num is opened; whole numbers.
-/
namespace Go.Proofs.Ytodlpmepoakdlaa
set_option maxRecDepth 100000
set_option linter.unusedSimpArgs false
set_option linter.unusedVariables false
open Go.RowKit Go.WideShapes Go.ChangeShapes Go.ChangeAt

theorem Try.cellsArr4 : Try.prog.cellsOf 47 = 16 := by kernel_rfl
section
variable {H : Type} {enc : TypeId × Value → H} {w : World} {held : Bool}
theorem open_arr4 {base : Nat} {v : Value} {d : DataW H} {p : List MemPlace} (hv : Value.okWide Try.prog w .any base 47 v) (h : DataW.Trod enc Try.prog w 0 (fun _ => true) held 47 v d p) :
    ∃ X Y Z V : Nat, X < 2 ^ 256 ∧ Y < 2 ^ 256 ∧ Z < 2 ^ 256 ∧ V < 2 ^ 256 ∧ v = arr4 X Y Z V := by
  obtain ⟨cs, rfl, hsz⟩ := okWide_arr Try.underlying47 hv
  obtain ⟨fuel, hf⟩ := h
  obtain ⟨xs, m, rfl, hx, hl, hn, he⟩ := DataW.trod_array Try.underlying47 hf
  rw [Try.cellsArr4] at hsz
  rw [Try.cells24] at he
  match xs, hn with
  | [x0, x1, x2, x3], _ =>
    have e0 := he 0 (by omega)
    have e1 := he 1 (by omega)
    have e2 := he 2 (by omega)
    have e3 := he 3 (by omega)
    obtain ⟨cs⟩ := cs
    match cs, hsz with
    | [c0, c1, c2, c3, c4, c5, c6, c7, c8, c9, c10, c11, c12, c13, c14, c15], _ =>
      simp [Value.cells] at e0 e1 e2 e3
      obtain ⟨X, hX, rfl, rfl, rfl, rfl⟩ := open_four e0
      obtain ⟨Y, hY, rfl, rfl, rfl, rfl⟩ := open_four e1
      obtain ⟨Z, hZ, rfl, rfl, rfl, rfl⟩ := open_four e2
      obtain ⟨V, hV, rfl, rfl, rfl, rfl⟩ := open_four e3
      exact ⟨X, Y, Z, V, hX, hY, hZ, hV, rfl⟩
end
end Go.Proofs.Ytodlpmepoakdlaa
