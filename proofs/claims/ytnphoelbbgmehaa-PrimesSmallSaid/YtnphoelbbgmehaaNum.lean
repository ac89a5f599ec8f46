/-
  Long numbers as natural numbers below 2^256: their words, and what the words tell. Nothing here speaks of the program.
-/
import Derived.WalkKit
import Derived.Below
import Derived.Deep.QuietTactic
import Derived.BigQuiet
namespace Go.Proofs.Ytnphoelbbgmehaa
set_option maxRecDepth 100000
open Go.RowKit
set_option linter.unusedSimpArgs false
set_option linter.unusedVariables false

/-- word i of X -/
def wd (X i : Nat) : Nat := X / 18446744073709551616 ^ i % 18446744073709551616
/-- a long number, as a value -/
abbrev num (X : Nat) : Value := .agg #[.int .u64 (wd X 0 : Nat), .int .u64 (wd X 1 : Nat), .int .u64 (wd X 2 : Nat), .int .u64 (wd X 3 : Nat)]

theorem wd_lt (X i : Nat) : wd X i < 18446744073709551616 := Nat.mod_lt _ (by decide)
theorem wd_sum (X : Nat) (h : X < 2 ^ 256) : X = wd X 0 + 18446744073709551616 * wd X 1 + 340282366920938463463374607431768211456 * wd X 2 + 6277101735386680763835789423207666416102355444464034512896 * wd X 3 := by
  unfold wd; omega
theorem wd_of (r0 r1 r2 r3 : Nat) (h0 : r0 < 18446744073709551616) (h1 : r1 < 18446744073709551616) (h2 : r2 < 18446744073709551616) (h3 : r3 < 18446744073709551616) (Z : Nat)
    (hZ : Z = r0 + 18446744073709551616 * r1 + 340282366920938463463374607431768211456 * r2 + 6277101735386680763835789423207666416102355444464034512896 * r3) :
    wd Z 0 = r0 ∧ wd Z 1 = r1 ∧ wd Z 2 = r2 ∧ wd Z 3 = r3 := by
  unfold wd; omega
theorem num_of (r0 r1 r2 r3 : Nat) (h0 : r0 < 18446744073709551616) (h1 : r1 < 18446744073709551616) (h2 : r2 < 18446744073709551616) (h3 : r3 < 18446744073709551616) (Z : Nat)
    (hZ : Z = r0 + 18446744073709551616 * r1 + 340282366920938463463374607431768211456 * r2 + 6277101735386680763835789423207666416102355444464034512896 * r3) :
    (.agg #[.int .u64 (r0 : Nat), .int .u64 (r1 : Nat), .int .u64 (r2 : Nat), .int .u64 (r3 : Nat)] : Value) = num Z := by
  obtain ⟨e0, e1, e2, e3⟩ := wd_of r0 r1 r2 r3 h0 h1 h2 h3 Z hZ
  unfold num; rw [e0, e1, e2, e3]
theorem wd_eq (X Y : Nat) (hX : X < 2 ^ 256) (hY : Y < 2 ^ 256) : (wd X 0 = wd Y 0 ∧ wd X 1 = wd Y 1 ∧ wd X 2 = wd Y 2 ∧ wd X 3 = wd Y 3) ↔ X = Y := by
  constructor
  · intro h
    have := wd_sum X hX
    have := wd_sum Y hY
    omega
  · rintro rfl; exact ⟨rfl, rfl, rfl, rfl⟩

/-- one step of a sum of words -/
theorem add_step (x y c : Nat) (hx : x < 18446744073709551616) (hy : y < 18446744073709551616) (hc : c ≤ 1) : ∃ s d : Nat, s < 18446744073709551616 ∧ d ≤ 1 ∧ x + y + c = s + 18446744073709551616 * d ∧ s = (x + y + c) % 18446744073709551616 ∧ d = (x + y + c) / 18446744073709551616 :=
  ⟨_, _, by omega, by omega, by omega, rfl, rfl⟩
/-- one step of a difference of words -/
theorem sub_step (x y c : Nat) (hx : x < 18446744073709551616) (hy : y < 18446744073709551616) (hc : c ≤ 1) : ∃ s d : Nat, s < 18446744073709551616 ∧ d ≤ 1 ∧ x + 18446744073709551616 * d = s + y + c ∧ s = (x + 18446744073709551616 - y - c) % 18446744073709551616 ∧ d = (if x < y + c then 1 else 0) := by
  by_cases h : x < y + c
  · exact ⟨_, _, by omega, by rw [if_pos h]; omega, by rw [if_pos h]; omega, rfl, rfl⟩
  · exact ⟨_, _, by omega, by rw [if_neg h]; omega, by rw [if_neg h]; omega, rfl, rfl⟩

/-- one step of a product of words -/
theorem mul_step (x y c d : Nat) (hx : x < 18446744073709551616) (hy : y < 18446744073709551616) (hc : c < 18446744073709551616) (hd : d < 18446744073709551616) :
    ∃ h l : Nat, h < 18446744073709551616 ∧ l < 18446744073709551616 ∧ x * y + c + d = l + 18446744073709551616 * h := by
  have : x * y ≤ 18446744073709551615 * 18446744073709551615 := Nat.mul_le_mul (by omega) (by omega)
  exact ⟨(x * y + c + d) / 18446744073709551616, (x * y + c + d) % 18446744073709551616, by omega, by omega, by omega⟩

theorem bel_tr {a b c : World} (h : Below a.heap.size a b) (k : Below b.heap.size b c) : Below a.heap.size a c := h.trans (k.mono h.size)
theorem cell_on {W w : World} {a : Addr} {v : Value} (hb : Below W.heap.size W w) (h : W.cell? a = some v) : w.cell? a = some v := (hb.cell (World.block_lt_of_cell? W a h)).trans h
theorem gr_alloc {a b : World} (h : Below a.heap.size a b) (o : Obj) : Below a.heap.size a (b.alloc o) := h.alloc h.size o
theorem gr_drewN {a b : World} (h : Below a.heap.size a b) (n : Nat) : Below a.heap.size a (b.drewN n) := ⟨h.os, h.tape, h.output, h.size, h.block⟩
end Go.Proofs.Ytnphoelbbgmehaa
