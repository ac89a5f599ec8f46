/-
  How the statements' arguments are read: two long numbers in an array; two words in an array.
-/
import Derived.Test.YtmhmdbjjmmmgkaaOpen
namespace Go.Proofs.Ytmhmdbjjmmmgkaa
set_option linter.unusedSimpArgs false
set_option linter.unusedVariables false
open Go.ChangeShapes Go.WideShapes Go.ChangeAt Go.RowKit

theorem Try.cellsArr2 : Try.prog.cellsOf 43 = 8 := by kernel_rfl
theorem Try.cellsP32 : Try.prog.cellsOf 45 = 2 := by kernel_rfl
theorem Try.cellsP64 : Try.prog.cellsOf 48 = 2 := by kernel_rfl
theorem Try.cells32 : Try.prog.cellsOf 44 = 1 := by kernel_rfl
section
variable {H : Type} {enc : TypeId × Value → H} {w : World} {held : Bool}
theorem open_arr2 {base : Nat} {v : Value} {d : DataW H} {p : List MemPlace} (hv : Value.okWide Try.prog w .any base 43 v) (h : DataW.Trod enc Try.prog w 0 (fun _ => true) held 43 v d p) :
    ∃ X Y : Nat, X < 2 ^ 256 ∧ Y < 2 ^ 256 ∧ v = .agg #[.int .u64 (wd X 0 : Nat), .int .u64 (wd X 1 : Nat), .int .u64 (wd X 2 : Nat), .int .u64 (wd X 3 : Nat), .int .u64 (wd Y 0 : Nat), .int .u64 (wd Y 1 : Nat), .int .u64 (wd Y 2 : Nat), .int .u64 (wd Y 3 : Nat)] := by
  obtain ⟨cs, rfl, hsz⟩ := okWide_arr Try.underlying43 hv
  obtain ⟨fuel, hf⟩ := h
  obtain ⟨xs, m, rfl, hx, hl, hn, he⟩ := DataW.trod_array Try.underlying43 hf
  rw [Try.cellsArr2] at hsz
  rw [Try.cells24] at he
  match xs, hn with
  | [x0, x1], _ =>
    have e0 := he 0 (by omega)
    have e1 := he 1 (by omega)
    obtain ⟨cs⟩ := cs
    match cs, hsz with
    | [c0, c1, c2, c3, c4, c5, c6, c7], _ =>
      simp [Value.cells] at e0 e1
      obtain ⟨X, hX, rfl, rfl, rfl, rfl⟩ := open_four e0
      obtain ⟨Y, hY, rfl, rfl, rfl, rfl⟩ := open_four e1
      exact ⟨X, Y, hX, hY, rfl⟩
theorem open_half {fuel : Nat} {c : Value} {x : DataW H × List MemPlace} (h : DataW.trod enc Try.prog w 0 (fun _ => true) held fuel 44 [c] = some x) :
    ∃ n : Nat, c = .int .u32 (n : Int) ∧ n < 4294967296 := by
  obtain ⟨n, e, _, hw⟩ := DataW.trod_int Try.underlying44 h
  have bd := bounds_u32 hw
  simp at e
  exact ⟨n.toNat, by rw [e, Int.toNat_of_nonneg bd.1], by omega⟩
theorem open_pair32 {base : Nat} {v : Value} {d : DataW H} {p : List MemPlace} (hv : Value.okWide Try.prog w .any base 45 v) (h : DataW.Trod enc Try.prog w 0 (fun _ => true) held 45 v d p) :
    ∃ i j : Nat, i < 4294967296 ∧ j < 4294967296 ∧ v = .agg #[.int .u32 (i : Nat), .int .u32 (j : Nat)] := by
  obtain ⟨cs, rfl, hsz⟩ := okWide_arr Try.underlying45 hv
  obtain ⟨fuel, hf⟩ := h
  obtain ⟨xs, m, rfl, hx, hl, hn, he⟩ := DataW.trod_array Try.underlying45 hf
  rw [Try.cellsP32] at hsz
  rw [Try.cells32] at he
  match xs, hn with
  | [x0, x1], _ =>
    have e0 := he 0 (by omega)
    have e1 := he 1 (by omega)
    obtain ⟨cs⟩ := cs
    match cs, hsz with
    | [c0, c1], _ =>
      simp [Value.cells] at e0 e1
      obtain ⟨i, rfl, hi⟩ := open_half e0
      obtain ⟨j, rfl, hj⟩ := open_half e1
      exact ⟨i, j, hi, hj, rfl⟩
theorem open_pair64 {base : Nat} {v : Value} {d : DataW H} {p : List MemPlace} (hv : Value.okWide Try.prog w .any base 48 v) (h : DataW.Trod enc Try.prog w 0 (fun _ => true) held 48 v d p) :
    ∃ i j : Nat, i < 18446744073709551616 ∧ j < 18446744073709551616 ∧ v = .agg #[.int .u64 (i : Nat), .int .u64 (j : Nat)] := by
  obtain ⟨cs, rfl, hsz⟩ := okWide_arr Try.underlying48 hv
  obtain ⟨fuel, hf⟩ := h
  obtain ⟨xs, m, rfl, hx, hl, hn, he⟩ := DataW.trod_array Try.underlying48 hf
  rw [Try.cellsP64] at hsz
  rw [Try.cells22] at he
  match xs, hn with
  | [x0, x1], _ =>
    have e0 := he 0 (by omega)
    have e1 := he 1 (by omega)
    obtain ⟨cs⟩ := cs
    match cs, hsz with
    | [c0, c1], _ =>
      simp [Value.cells] at e0 e1
      obtain ⟨i, rfl, hi⟩ := open_word e0
      obtain ⟨j, rfl, hj⟩ := open_word e1
      exact ⟨i, j, hi, hj, rfl⟩
end
end Go.Proofs.Ytmhmdbjjmmmgkaa
