/-
  How the statements' arguments are read: a long number, three of them in an array.
-/
import Derived.Test.YtnphoelbbgmehaaRows
import Derived.Test.YtnphoelbbgmehaaNum
import Derived.ProofKit
import Derived.OpenShut
import Derived.ShutString
import Derived.ChangeOld
import Derived.SizedLaws
import Derived.Below
namespace Go.Proofs.Ytnphoelbbgmehaa
set_option maxRecDepth 100000
set_option linter.unusedSimpArgs false
set_option linter.unusedVariables false
open Go.ChangeShapes Go.WideShapes Go.ChangeAt Go.RowKit

theorem own : ownKnob Try.prog.godebug = none := by kernel_rfl
theorem laidOut : laidOutB Try.prog = true := by kernel_rfl
theorem Try.cells24 : Try.prog.cellsOf 25 = 4 := by kernel_rfl
theorem Try.cells22 : Try.prog.cellsOf 22 = 1 := by kernel_rfl

section
variable {H : Type} {enc : TypeId × Value → H} {w : World} {held : Bool}

theorem open_word {fuel : Nat} {c : Value} {x : DataW H × List MemPlace} (h : DataW.trod enc Try.prog w 0 (fun _ => true) held fuel 22 [c] = some x) :
    ∃ n : Nat, c = .int .u64 (n : Int) ∧ n < 18446744073709551616 := by
  obtain ⟨n, e, _, hw⟩ := DataW.trod_int Try.underlying22 h
  have bd := bounds_u64 hw
  simp at e
  exact ⟨n.toNat, by rw [e, Int.toNat_of_nonneg bd.1], by omega⟩

theorem open_four {fuel : Nat} {c0 c1 c2 c3 : Value} {x : DataW H × List MemPlace} (h : DataW.trod enc Try.prog w 0 (fun _ => true) held fuel 25 [c0, c1, c2, c3] = some x) :
    ∃ X : Nat, X < 2 ^ 256 ∧ c0 = .int .u64 (wd X 0 : Nat) ∧ c1 = .int .u64 (wd X 1 : Nat) ∧ c2 = .int .u64 (wd X 2 : Nat) ∧ c3 = .int .u64 (wd X 3 : Nat) := by
  obtain ⟨xs, m, rfl, hx, hl, hn, he⟩ := DataW.trod_array Try.underlying25 h
  rw [Try.cells22] at he
  match xs, hn with
  | [x0, x1, x2, x3], _ =>
    have e0 := he 0 (by omega)
    have e1 := he 1 (by omega)
    have e2 := he 2 (by omega)
    have e3 := he 3 (by omega)
    simp at e0 e1 e2 e3
    obtain ⟨a, rfl, wa⟩ := open_word e0
    obtain ⟨b, rfl, wb⟩ := open_word e1
    obtain ⟨p, rfl, wp⟩ := open_word e2
    obtain ⟨q, rfl, wq⟩ := open_word e3
    obtain ⟨X, hX⟩ : ∃ X, X = a + 18446744073709551616 * b + 340282366920938463463374607431768211456 * p + 6277101735386680763835789423207666416102355444464034512896 * q := ⟨_, rfl⟩
    obtain ⟨f0, f1, f2, f3⟩ := wd_of a b p q wa wb wp wq X hX
    exact ⟨X, by omega, by rw [f0], by rw [f1], by rw [f2], by rw [f3]⟩

theorem okWide_arr {base n : Nat} {t e : TypeId} {v : Value} (ht : Try.prog.underlying t = some (.array n e)) (h : Value.okWide Try.prog w .any base t v) : ∃ cs, v = .agg cs ∧ cs.size = Try.prog.cellsOf t := by
  simp only [Value.okWide, ht] at h
  obtain ⟨cs, h1, h2, _⟩ := h
  exact ⟨cs, h1, h2⟩

/-- a long number -/
theorem open_num {base : Nat} {v : Value} {d : DataW H} {p : List MemPlace} (hv : Value.okWide Try.prog w .any base 25 v) (h : DataW.Trod enc Try.prog w 0 (fun _ => true) held 25 v d p) :
    ∃ X : Nat, X < 2 ^ 256 ∧ v = num X := by
  obtain ⟨cs, rfl, hsz⟩ := okWide_arr Try.underlying25 hv
  obtain ⟨fuel, hf⟩ := h
  rw [Try.cells24] at hsz
  obtain ⟨cs⟩ := cs
  match cs, hsz with
  | [c0, c1, c2, c3], _ =>
    simp [Value.cells] at hf
    obtain ⟨X, hX, rfl, rfl, rfl, rfl⟩ := open_four hf
    exact ⟨X, hX, rfl⟩

end
end Go.Proofs.Ytnphoelbbgmehaa
