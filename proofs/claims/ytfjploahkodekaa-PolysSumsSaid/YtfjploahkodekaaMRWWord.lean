/-
  divides.Common: by Euclid.
-/
import Derived.Laws.BitsAllLaws
import Derived.LoopN
import Derived.Test.YtfjploahkodekaaMBehN
import Derived.Test.YtfjploahkodekaaMBehind
import Derived.Test.YtfjploahkodekaaMBitsLN
import Derived.Test.YtfjploahkodekaaMCell
import Derived.Test.YtfjploahkodekaaMCoreH
import Derived.Test.YtfjploahkodekaaMShort
import Derived.Test.YtfjploahkodekaaMWide
namespace Go.Proofs.Ytfjploahkodekaa
set_option maxRecDepth 100000
open Go.RowKit
set_option linter.unusedSimpArgs false
set_option linter.unusedVariables false
attribute [local go_sem ↓] Go.wp_at_zero Go.wp_at_succ

/-- what a block of words tells -/
def blockVal (w : World) (g : Nat) : Nat := match w.heap[g]? with
  | some (.cells cs _ _) => (intOf (cs.getD 0 undef)).toNat + 18446744073709551616 * (intOf (cs.getD 1 undef)).toNat + 340282366920938463463374607431768211456 * (intOf (cs.getD 2 undef)).toNat + 6277101735386680763835789423207666416102355444464034512896 * (intOf (cs.getD 3 undef)).toNat
  | _ => 0
theorem At.val {w : World} {g X : Nat} {t : TypeId} (hX : X < 2 ^ 256) (h : At w g t #[.int .u64 (wd X 0 : Nat), .int .u64 (wd X 1 : Nat), .int .u64 (wd X 2 : Nat), .int .u64 (wd X 3 : Nat)]) : blockVal w g = X := by
  unfold At at h
  unfold blockVal
  rw [h]
  have := wd_sum X hX
  simp [intOf]
  omega

end Go.Proofs.Ytfjploahkodekaa

/-
  balefireref02.of: a long number out of its sixteen digits.
-/
namespace Go.Proofs.Ytfjploahkodekaa
set_option maxRecDepth 100000
open Go.RowKit
set_option linter.unusedSimpArgs false
set_option linter.unusedVariables false
attribute [local go_sem ↓] Go.wp_at_zero Go.wp_at_succ

/-- one digit more -/
theorem dig_in (P d i q r : Nat) (hi : i < 16) (hq : q = i / 4) (hr : r = i % 4) (hP : P < 65536 ^ i) (hd : d < 65536) :
    wd (P + 65536 ^ i * d) q = wd P q + d * 2 ^ (16 * r) ∧ d * 2 ^ (16 * r) < 18446744073709551616 ∧ wd P q + d * 2 ^ (16 * r) < 18446744073709551616 ∧ ∀ k, k ≠ q → wd (P + 65536 ^ i * d) k = wd P k := by
  have hi4 : i = 4 * q + r := by omega
  have hr4 : r < 4 := by omega
  have ep : (65536 : Nat) ^ i = 18446744073709551616 ^ q * 2 ^ (16 * r) := by
    rw [hi4, Nat.pow_add, Nat.pow_mul, Nat.pow_mul]
  obtain ⟨u, hu⟩ : ∃ u, u = 2 ^ (16 * r) := ⟨_, rfl⟩
  have hu4 : u * 65536 ≤ 18446744073709551616 := by
    have : 2 ^ (16 * r) ≤ 2 ^ 48 := Nat.pow_le_pow_right (by decide) (by omega)
    omega
  have hu0 : 0 < u := by rw [hu]; exact Nat.two_pow_pos _
  rw [← hu] at ep ⊢
  obtain ⟨B, hB⟩ : ∃ B, B = (18446744073709551616 : Nat) ^ q := ⟨_, rfl⟩
  have hB0 : 0 < B := by rw [hB]; exact Nat.pow_pos (by decide)
  rw [← hB] at ep
  rw [ep] at hP ⊢
  have hPq : P / B < u := Nat.div_lt_of_lt_mul hP
  have hdu : d * u < u * 65536 := by rw [Nat.mul_comm]; exact Nat.mul_lt_mul_of_pos_left hd (by omega)
  have hdu2 : d * u + u ≤ u * 65536 := by
    have : (d + 1) * u ≤ 65536 * u := Nat.mul_le_mul_right u hd
    rw [Nat.add_mul] at this; omega
  have e1 : wd P q = P / B := by unfold wd; rw [← hB]; exact Nat.mod_eq_of_lt (by omega)
  have e2 : wd (P + B * u * d) q = P / B + d * u := by
    unfold wd
    rw [← hB, Nat.mul_assoc, Nat.add_mul_div_left _ _ hB0, Nat.mul_comm u d]
    exact Nat.mod_eq_of_lt (by omega)
  refine ⟨by rw [e1, e2], by omega, by rw [e1]; omega, fun k hk => ?_⟩
  unfold wd
  by_cases h : k < q
  · have e3 : B = 18446744073709551616 ^ k * (18446744073709551616 * 18446744073709551616 ^ (q - k - 1)) := by
      rw [hB, ← Nat.pow_succ', ← Nat.pow_add]; congr 1; omega
    rw [e3]
    rw [show 18446744073709551616 ^ k * (18446744073709551616 * 18446744073709551616 ^ (q - k - 1)) * u * d = 18446744073709551616 ^ k * (18446744073709551616 * (18446744073709551616 ^ (q - k - 1) * u * d)) by ac_rfl]
    rw [Nat.add_mul_div_left _ _ (Nat.pow_pos (by decide)), Nat.add_mul_mod_self_left]
  · have hkq : q + 1 ≤ k := by omega
    have lt : ∀ Z, Z < B * 18446744073709551616 → Z / 18446744073709551616 ^ k = 0 := fun Z hZ => Nat.div_eq_of_lt (Nat.lt_of_lt_of_le hZ (by rw [hB, ← Nat.pow_succ]; exact Nat.pow_le_pow_right (by decide) hkq))
    have h1 : P < B * 18446744073709551616 := Nat.lt_of_lt_of_le hP (Nat.mul_le_mul_left B (by omega))
    have h2 : P + B * u * d < B * 18446744073709551616 := by
      have : B * u * d + B * u ≤ B * 18446744073709551616 := by
        rw [Nat.mul_assoc, ← Nat.mul_add]
        exact Nat.mul_le_mul_left B (by rw [Nat.mul_comm u d]; omega)
      omega
    rw [lt _ h1, lt _ h2]

theorem take_lt (M : List Nat) (hb : ∀ x ∈ M, x < 65536) (i : Nat) (hi : i ≤ M.length) : lv 65536 (M.take i) < 65536 ^ i := by
  have := lv_lt 65536 (M.take i) (fun x hx => hb x (List.mem_of_mem_take hx))
  rwa [List.length_take, Nat.min_eq_left hi] at this
theorem take_more (M : List Nat) (i : Nat) (hi : i < M.length) : lv 65536 (M.take (i + 1)) = lv 65536 (M.take i) + 65536 ^ i * M.getD i 0 := by
  rw [List.take_succ_eq_append_getElem hi, lv_append, List.length_take, Nat.min_eq_left (by omega)]
  simp [lv, List.getD, hi]

/-- what memory holds while digits are put together -/
structure OW (wr w : World) (P : Nat) : Prop where
  res : At wr w.heap.size 24 #[.int .u64 0, .int .u64 0, .int .u64 0, .int .u64 0]
  a : At wr (w.heap.size + 1) 24 #[.int .u64 (wd P 0 : Nat), .int .u64 (wd P 1 : Nat), .int .u64 (wd P 2 : Nat), .int .u64 (wd P 3 : Nat)]
  bel : Below w.heap.size w wr

end Go.Proofs.Ytfjploahkodekaa

/-
  balefireref02.Bit.
-/
namespace Go.Proofs.Ytfjploahkodekaa
set_option maxRecDepth 100000
open Go.RowKit
set_option linter.unusedSimpArgs false
set_option linter.unusedVariables false
attribute [local go_sem ↓] Go.wp_at_zero Go.wp_at_succ

theorem arr_at (X q : Nat) (h : q < 16) : (#[.int .u64 (dg X 0 : Nat), .int .u64 (dg X 1 : Nat), .int .u64 (dg X 2 : Nat), .int .u64 (dg X 3 : Nat), .int .u64 (dg X 4 : Nat), .int .u64 (dg X 5 : Nat), .int .u64 (dg X 6 : Nat), .int .u64 (dg X 7 : Nat), .int .u64 (dg X 8 : Nat), .int .u64 (dg X 9 : Nat), .int .u64 (dg X 10 : Nat), .int .u64 (dg X 11 : Nat), .int .u64 (dg X 12 : Nat), .int .u64 (dg X 13 : Nat), .int .u64 (dg X 14 : Nat), .int .u64 (dg X 15 : Nat)] : Array Value)[q]? = some (.int .u64 (dg X q : Nat)) := by
  have := ws_at (ds X) q h
  rw [ds_at X q h] at this
  exact this
theorem lst_at (X q : Nat) (h : q < 16) (h' : q < ([.int .u64 (dg X 0 : Nat), .int .u64 (dg X 1 : Nat), .int .u64 (dg X 2 : Nat), .int .u64 (dg X 3 : Nat), .int .u64 (dg X 4 : Nat), .int .u64 (dg X 5 : Nat), .int .u64 (dg X 6 : Nat), .int .u64 (dg X 7 : Nat), .int .u64 (dg X 8 : Nat), .int .u64 (dg X 9 : Nat), .int .u64 (dg X 10 : Nat), .int .u64 (dg X 11 : Nat), .int .u64 (dg X 12 : Nat), .int .u64 (dg X 13 : Nat), .int .u64 (dg X 14 : Nat), .int .u64 (dg X 15 : Nat)] : List Value).length) : ([.int .u64 (dg X 0 : Nat), .int .u64 (dg X 1 : Nat), .int .u64 (dg X 2 : Nat), .int .u64 (dg X 3 : Nat), .int .u64 (dg X 4 : Nat), .int .u64 (dg X 5 : Nat), .int .u64 (dg X 6 : Nat), .int .u64 (dg X 7 : Nat), .int .u64 (dg X 8 : Nat), .int .u64 (dg X 9 : Nat), .int .u64 (dg X 10 : Nat), .int .u64 (dg X 11 : Nat), .int .u64 (dg X 12 : Nat), .int .u64 (dg X 13 : Nat), .int .u64 (dg X 14 : Nat), .int .u64 (dg X 15 : Nat)] : List Value)[q]'h' = .int .u64 (dg X q : Nat) := by
  have := arr_at X q h
  simp only [List.getElem?_toArray, List.getElem?_eq_getElem h', Option.some.injEq] at this
  exact this
theorem dg_bit (X q r : Nat) (h : r < 16) : dg X q / 2 ^ r % 2 = X / 2 ^ (16 * q + r) % 2 := by
  unfold dg
  have e : (65536 : Nat) = 2 ^ r * 2 ^ (16 - r) := by rw [← Nat.pow_add, show r + (16 - r) = 16 by omega]
  have e2 : (65536 : Nat) ^ q = 2 ^ (16 * q) := by rw [Nat.pow_mul]
  rw [e2]
  conv => lhs; arg 1; arg 1; arg 2; rw [e]
  rw [Nat.mod_mul_right_div_self, Nat.mod_mod_of_dvd _ (Nat.dvd_trans (by decide) (Nat.pow_dvd_pow 2 (show 1 ≤ 16 - r by omega))), Nat.div_div_eq_div_mul, ← Nat.pow_add]

end Go.Proofs.Ytfjploahkodekaa

/-
  balefireref02.RAdd: digit by digit.
-/
namespace Go.Proofs.Ytfjploahkodekaa
set_option maxRecDepth 100000
open Go.RowKit
set_option linter.unusedSimpArgs false
set_option linter.unusedVariables false
attribute [local go_sem ↓] Go.wp_at_zero Go.wp_at_succ

theorem mod_dig (X i : Nat) : X % 65536 ^ (i + 1) = X % 65536 ^ i + 65536 ^ i * dg X i := by unfold dg; rw [Nat.mod_pow_succ]
theorem take_set (M : List Nat) (i v : Nat) (hi : i < M.length) : lv 65536 ((M.set i v).take (i + 1)) = lv 65536 (M.take i) + 65536 ^ i * v := by
  rw [take_more _ i (by simpa using hi), List.take_set, List.set_eq_of_length_le (by simp; omega)]
  simp [List.getD, hi]
theorem radd_num (X Y i c P : Nat) (hc : c ≤ 1) (h : P + 65536 ^ i * c = X % 65536 ^ i + Y % 65536 ^ i) : ∃ n d c' : Nat, n = dg X i + dg Y i + c ∧ d = n % 65536 ∧ c' = n / 65536 ∧ d < 65536 ∧ c' ≤ 1 ∧ n < 131072 ∧
    P + 65536 ^ i * d + 65536 ^ (i + 1) * c' = X % 65536 ^ (i + 1) + Y % 65536 ^ (i + 1) := by
  have hx := dg_lt X i
  have hy := dg_lt Y i
  refine ⟨_, _, _, rfl, rfl, rfl, Nat.mod_lt _ (by decide), by omega, by omega, ?_⟩
  rw [mod_dig, mod_dig, Nat.pow_succ, Nat.mul_assoc]
  obtain ⟨d, hd⟩ : ∃ d, d = (dg X i + dg Y i + c) % 65536 := ⟨_, rfl⟩
  obtain ⟨e, he⟩ : ∃ e, e = (dg X i + dg Y i + c) / 65536 := ⟨_, rfl⟩
  rw [← hd, ← he]
  have key : d + 65536 * e = dg X i + dg Y i + c := by omega
  have k2 := congrArg (65536 ^ i * ·) key
  simp only [Nat.mul_add] at k2
  omega

/-- what the document's call tells -/
def raddRes (X Y : Nat) (e : Ending) : Prop := ∃ S c : Nat, e = .returned (.tuple #[num S, .int .u64 (c : Nat)]) ∧ S + 65536 ^ 16 * c = X + Y ∧ S < 65536 ^ 16 ∧ c ≤ 1
end Go.Proofs.Ytfjploahkodekaa

/-
  balefireref02.RSub: digit by digit.
-/
namespace Go.Proofs.Ytfjploahkodekaa
set_option maxRecDepth 100000
open Go.RowKit
set_option linter.unusedSimpArgs false
set_option linter.unusedVariables false
attribute [local go_sem ↓] Go.wp_at_zero Go.wp_at_succ

theorem rsub_num (X Y i c P : Nat) (hc : c ≤ 1) (h : P + Y % 65536 ^ i = X % 65536 ^ i + 65536 ^ i * c) : ∃ n d c' : Nat, n = dg X i + 65536 - dg Y i - c ∧ d = n % 65536 ∧ c' = 1 - n / 65536 ∧ d < 65536 ∧ c' ≤ 1 ∧ n < 131072 ∧ n / 65536 ≤ 1 ∧
    P + 65536 ^ i * d + Y % 65536 ^ (i + 1) = X % 65536 ^ (i + 1) + 65536 ^ (i + 1) * c' := by
  have hx := dg_lt X i
  have hy := dg_lt Y i
  refine ⟨_, _, _, rfl, rfl, rfl, Nat.mod_lt _ (by decide), by omega, by omega, by omega, ?_⟩
  rw [mod_dig, mod_dig, Nat.pow_succ, Nat.mul_assoc]
  obtain ⟨d, hd⟩ : ∃ d, d = (dg X i + 65536 - dg Y i - c) % 65536 := ⟨_, rfl⟩
  obtain ⟨e, he⟩ : ∃ e, e = 1 - (dg X i + 65536 - dg Y i - c) / 65536 := ⟨_, rfl⟩
  rw [← hd, ← he]
  have key : d + dg Y i + c = dg X i + 65536 * e := by omega
  have k2 := congrArg (65536 ^ i * ·) key
  simp only [Nat.mul_add] at k2
  omega

/-- what the document's call tells -/
def rsubRes (X Y : Nat) (e : Ending) : Prop := ∃ S c : Nat, e = .returned (.tuple #[num S, .int .u64 (c : Nat)]) ∧ S + Y = X + 65536 ^ 16 * c ∧ S < 65536 ^ 16 ∧ c ≤ 1
end Go.Proofs.Ytfjploahkodekaa

/-
  balefireref02.Of, Cmp: digit by digit, from the highest on.
-/
namespace Go.Proofs.Ytfjploahkodekaa
set_option maxRecDepth 100000
open Go.RowKit
set_option linter.unusedSimpArgs false
set_option linter.unusedVariables false
attribute [local go_sem ↓] Go.wp_at_zero Go.wp_at_succ

theorem high_dig (X i : Nat) (hi : i < 16) (hX : X < 2 ^ 256) : X / 65536 ^ i = dg X i + 65536 * (X / 65536 ^ (i + 1)) := by
  unfold dg
  rw [Nat.pow_succ, ← Nat.div_div_eq_div_mul]; omega
theorem high_lt (X Y i : Nat) (h : X / 65536 ^ i < Y / 65536 ^ i) : X < Y := by
  have h0 : 0 < 65536 ^ i := Nat.pow_pos (by decide)
  by_cases hc : X < Y
  · exact hc
  · exfalso
    have : Y / 65536 ^ i ≤ X / 65536 ^ i := Nat.div_le_div_right (by omega)
    omega
end Go.Proofs.Ytfjploahkodekaa

/-
  balefireref03.twice: one bit more.
-/
namespace Go.Proofs.Ytfjploahkodekaa
set_option maxRecDepth 100000
open Go.RowKit
set_option linter.unusedSimpArgs false
set_option linter.unusedVariables false
attribute [local go_sem ↓] Go.wp_at_zero Go.wp_at_succ

theorem even_word (S bit : Nat) (hS : S < 2 ^ 256) (he : S % 2 = 0) (hb : bit ≤ 1) : wd (S + bit) 0 = wd S 0 + bit ∧ wd (S + bit) 1 = wd S 1 ∧ wd (S + bit) 2 = wd S 2 ∧ wd (S + bit) 3 = wd S 3 := by
  unfold wd; omega
end Go.Proofs.Ytfjploahkodekaa

/-
  balefireref03.Word: is it one of 64 bits?
-/
namespace Go.Proofs.Ytfjploahkodekaa
set_option maxRecDepth 100000
open Go.RowKit
set_option linter.unusedSimpArgs false
set_option linter.unusedVariables false
attribute [local go_sem ↓] Go.wp_at_zero Go.wp_at_succ

end Go.Proofs.Ytfjploahkodekaa

/-
  balefireref03.Div: bit by bit; of one word at once.
-/
namespace Go.Proofs.Ytfjploahkodekaa
set_option maxRecDepth 100000
open Go.RowKit
set_option linter.unusedSimpArgs false
set_option linter.unusedVariables false
attribute [local go_sem ↓] Go.wp_at_zero Go.wp_at_succ

end Go.Proofs.Ytfjploahkodekaa

/-
  balefireref02.Bits.
-/
namespace Go.Proofs.Ytfjploahkodekaa
set_option maxRecDepth 100000
open Go.RowKit
set_option linter.unusedSimpArgs false
set_option linter.unusedVariables false
attribute [local go_sem ↓] Go.wp_at_zero Go.wp_at_succ

theorem bl_is (X i : Nat) (hX : X < 2 ^ 256) (h : ∀ k : Nat, i ≤ k → k < 256 → bt X (k : Int) = 0) (hi : i = 0 ∨ bt X ((i : Int) - 1) = 1) : Go.bitLen X = i := by
  have hl := bl_le X hX
  have h1 : Go.bitLen X ≤ i := by
    by_cases hb : Go.bitLen X = 0
    · omega
    · have ht := bl_top X hb
      by_cases hc : i ≤ Go.bitLen X - 1
      · rw [h _ hc (by omega)] at ht; omega
      · omega
  rcases hi with hi | hi
  · omega
  · by_cases h0 : i = 0
    · omega
    · have e : (i : Int) - 1 = ((i - 1 : Nat) : Int) := by omega
      rw [e] at hi
      have := bl_bit X (i - 1) hi
      omega

end Go.Proofs.Ytfjploahkodekaa

/-
  balefireref03.Wide, of more than one word: bit by bit.
-/
namespace Go.Proofs.Ytfjploahkodekaa
set_option maxRecDepth 100000
open Go.RowKit
set_option linter.unusedSimpArgs false
set_option linter.unusedVariables false
attribute [local go_sem ↓] Go.wp_at_zero Go.wp_at_succ

theorem bit_down (X M i : Nat) (hM : 0 < M) : (2 * (X / 2 ^ (i + 1) % M) + X / 2 ^ i % 2) % M = X / 2 ^ i % M := by
  rw [show X / 2 ^ i = 2 * (X / 2 ^ (i + 1)) + X / 2 ^ i % 2 from wide_half X i]
  have e : (2 * (X / 2 ^ (i + 1)) + X / 2 ^ i % 2) % 2 = X / 2 ^ i % 2 := by omega
  rw [e]
  conv => rhs; rw [Nat.add_mod, Nat.mul_mod]
  conv => lhs; rw [Nat.add_mod, Nat.mul_mod, Nat.mod_mod]
end Go.Proofs.Ytfjploahkodekaa

/-
  math/bits.LeadingZeros64.
-/
namespace Go.Proofs.Ytfjploahkodekaa
set_option maxRecDepth 100000
open Go.RowKit
set_option linter.unusedSimpArgs false
set_option linter.unusedVariables false
attribute [local go_sem ↓] Go.wp_at_zero Go.wp_at_succ

end Go.Proofs.Ytfjploahkodekaa

/-
  One digit of a division of two digits by two (to the base 2^32), as math/bits.Div64 reckons it: a first guess, lowered till it fits. Nothing here speaks of the program.
-/
namespace Go.Proofs.Ytfjploahkodekaa
set_option maxRecDepth 100000
set_option linter.unusedSimpArgs false
set_option linter.unusedVariables false

/-- the guess fits -/
theorem kn_le (u d q r y1 y0 : Nat) (hr : u = q * y1 + r) (hq : q * y0 ≤ 4294967296 * r + d) : q * (y1 * 4294967296 + y0) ≤ u * 4294967296 + d := by
  rw [hr, Nat.mul_add, ← Nat.mul_assoc]
  generalize q * y1 = m
  generalize q * y0 = k at *
  omega
/-- the guess is too great -/
theorem kn_gt (u d q r y1 y0 : Nat) (hr : u = q * y1 + r) (hq : 4294967296 * r + d < q * y0) : u * 4294967296 + d < q * (y1 * 4294967296 + y0) := by
  rw [hr, Nat.mul_add, ← Nat.mul_assoc]
  generalize q * y1 = m
  generalize q * y0 = k at *
  omega
theorem kn_small (u d y : Nat) (hd : d < 4294967296) (hu : u < y) : (u * 4294967296 + d) / y < 4294967296 := by
  refine Nat.div_lt_of_lt_mul ?_
  have : (u + 1) * 4294967296 ≤ y * 4294967296 := Nat.mul_le_mul_right _ hu
  rw [Nat.add_mul] at this; omega
/-- the first guess is not too small, and at most one above 2^32 -/
theorem kn_first (u d y1 y0 : Nat) (h1 : 2147483648 ≤ y1) (h0 : y0 < 4294967296) (hd : d < 4294967296) (hu : u < y1 * 4294967296 + y0) : (u * 4294967296 + d) / (y1 * 4294967296 + y0) ≤ u / y1 ∧ u / y1 ≤ 4294967297 := by
  have hy1 : 0 < y1 := by omega
  refine ⟨?_, ?_⟩
  · have hle : (u * 4294967296 + d) / (y1 * 4294967296 + y0) ≤ (u * 4294967296 + d) / (y1 * 4294967296) := Nat.div_le_div_left (by omega) (by omega)
    refine Nat.le_trans hle ?_
    rw [Nat.mul_comm y1, ← Nat.div_div_eq_div_mul]
    refine Nat.div_le_div_right ?_
    omega
  · rw [Nat.div_le_iff_le_mul_add_pred hy1]
    omega
/-- a round of the loop: where it goes on, the guess is above the digit -/
theorem kn_down (u d q r y1 y0 : Nat) (hd : d < 4294967296) (hu : u < y1 * 4294967296 + y0) (hr : u = q * y1 + r) (h : 4294967296 ≤ q ∨ 4294967296 * r + d < q * y0) : (u * 4294967296 + d) / (y1 * 4294967296 + y0) < q := by
  rcases h with h | h
  · exact Nat.lt_of_lt_of_le (kn_small u d _ hd hu) h
  · have := kn_gt u d q r y1 y0 hr h
    exact Nat.div_lt_of_lt_mul (Nat.lt_of_lt_of_eq this (Nat.mul_comm _ _))
/-- where it ends, the guess is the digit -/
theorem kn_end (u d q r y1 y0 : Nat) (hy : 0 < y1 * 4294967296 + y0) (hr : u = q * y1 + r) (hq : q * y0 ≤ 4294967296 * r + d) (hge : (u * 4294967296 + d) / (y1 * 4294967296 + y0) ≤ q) : q = (u * 4294967296 + d) / (y1 * 4294967296 + y0) := by
  have := kn_le u d q r y1 y0 hr hq
  have h2 : q ≤ (u * 4294967296 + d) / (y1 * 4294967296 + y0) := (Nat.le_div_iff_mul_le hy).2 this
  omega
/-- where the rest is 2^32 or more, the guess is the digit -/
theorem kn_over (u d q r y1 y0 : Nat) (hy : 0 < y1 * 4294967296 + y0) (h0 : y0 < 4294967296) (hr : u = q * y1 + r) (hq : q ≤ 4294967296) (hro : 4294967296 ≤ r) (hge : (u * 4294967296 + d) / (y1 * 4294967296 + y0) ≤ q) : q = (u * 4294967296 + d) / (y1 * 4294967296 + y0) := by
  refine kn_end u d q r y1 y0 hy hr ?_ hge
  have : q * y0 ≤ 4294967296 * 4294967296 := Nat.mul_le_mul hq (by omega)
  omega
end Go.Proofs.Ytfjploahkodekaa

/-
  math/bits.Div64: two digits to the base 2^32, each by a guess that is lowered till it fits.
-/
namespace Go.Proofs.Ytfjploahkodekaa
set_option maxRecDepth 100000
open Go.RowKit
set_option linter.unusedSimpArgs false
set_option linter.unusedVariables false
attribute [local go_sem ↓] Go.wp_at_zero Go.wp_at_succ

end Go.Proofs.Ytfjploahkodekaa

/-
  math/bits.Div64: how often a number of two words goes into one of one word, and what is left.
-/
namespace Go.Proofs.Ytfjploahkodekaa
set_option maxRecDepth 100000
open Go.RowKit
set_option linter.unusedSimpArgs false
set_option linter.unusedVariables false
attribute [local go_sem ↓] Go.wp_at_zero Go.wp_at_succ

set_option maxRecDepth 100000 in
theorem two_digits (U D d1 d0 m1 m0 R1 R0 : Nat) (hD : D = d1 * 4294967296 + d0) (a : U * 4294967296 + d1 = m1 + R1) (b : R1 * 4294967296 + d0 = m0 + R0) : U * 18446744073709551616 + D = m1 * 4294967296 + m0 + R0 := by
  have e : U * 18446744073709551616 = U * 4294967296 * 4294967296 := by rw [Nat.mul_assoc]
  have f : U * 4294967296 * 4294967296 + d1 * 4294967296 = m1 * 4294967296 + R1 * 4294967296 := by rw [← Nat.add_mul, ← Nat.add_mul, a]
  rw [e, hD, ← Nat.add_assoc, f, Nat.add_assoc, b, ← Nat.add_assoc]
/-- one digit: the first guess, and what is left behind it -/
theorem digit (U d Y y1 y0 : Nat) (h1 : 2147483648 ≤ y1) (h1c : y1 < 4294967296) (h0 : y0 < 4294967296) (hd : d < 4294967296) (hY : Y = y1 * 4294967296 + y0) (hU : U < Y) :
    (U * 4294967296 + d) / Y ≤ U / y1 ∧ U / y1 ≤ 4294967297 ∧ (U * 4294967296 + d) % Y < Y ∧ (U * 4294967296 + d) / Y < 4294967296 ∧ U * 4294967296 + d = (U * 4294967296 + d) / Y * Y + (U * 4294967296 + d) % Y ∧ U = U / y1 * y1 + U % y1 ∧ U % y1 < y1 ∧ U / y1 * y1 ≤ U := by
  obtain ⟨a, b⟩ := kn_first U d y1 y0 h1 h0 hd (by omega)
  rw [← hY] at a
  refine ⟨a, b, Nat.mod_lt _ (by omega), kn_small U d Y hd hU, ?_, ?_, Nat.mod_lt _ (by omega), Nat.div_mul_le_self _ _⟩
  · rw [Nat.mul_comm _ Y]; exact (Nat.div_add_mod _ _).symm
  · rw [Nat.mul_comm _ y1]; exact (Nat.div_add_mod _ _).symm

end Go.Proofs.Ytfjploahkodekaa

/-
  balefireref03.Wide, of one word: word by word.
-/
namespace Go.Proofs.Ytfjploahkodekaa
set_option maxRecDepth 100000
open Go.RowKit
set_option linter.unusedSimpArgs false
set_option linter.unusedVariables false
attribute [local go_sem ↓] Go.wp_at_zero Go.wp_at_succ

theorem word_step (T M j r w : Nat) (hM : 0 < M) (hr : r = T / 18446744073709551616 ^ (j + 1) % M) (hw : w = T / 18446744073709551616 ^ j % 18446744073709551616) : (r * 18446744073709551616 + w) % M = T / 18446744073709551616 ^ j % M := by
  have e : T / 18446744073709551616 ^ j = T / 18446744073709551616 ^ (j + 1) * 18446744073709551616 + w := by
    rw [hw, Nat.pow_succ, ← Nat.div_div_eq_div_mul, Nat.mul_comm _ 18446744073709551616]; exact (Nat.div_add_mod _ _).symm
  rw [e, hr, Nat.add_mod, Nat.mul_mod, Nat.mod_mod, ← Nat.mul_mod, ← Nat.add_mod]
theorem wide_hi (R A k : Nat) (hA : A < 2 ^ 256) : wide R A / 18446744073709551616 ^ (k + 4) % 18446744073709551616 = wd R k := by
  unfold wide wd
  rw [Nat.pow_add, Nat.mul_comm (18446744073709551616 ^ k), ← Nat.div_div_eq_div_mul, show (18446744073709551616 : Nat) ^ 4 = 2 ^ 256 from rfl, Nat.mul_comm R, Nat.mul_add_div (by decide), Nat.div_eq_of_lt hA, Nat.add_zero]
theorem wide_lo (R A k : Nat) (hk : k < 4) : wide R A / 18446744073709551616 ^ k % 18446744073709551616 = wd A k := by
  unfold wide wd
  have e : R * 2 ^ 256 = 18446744073709551616 ^ k * (R * 18446744073709551616 ^ (3 - k) * 18446744073709551616) := by
    rw [show (2 : Nat) ^ 256 = 18446744073709551616 ^ k * (18446744073709551616 ^ (3 - k) * 18446744073709551616) by rw [← Nat.pow_succ, ← Nat.pow_add, show k + (3 - k + 1) = 4 by omega]]
    ac_rfl
  rw [e, Nat.mul_add_div (Nat.pow_pos (by decide)), Nat.add_comm, Nat.add_mul_mod_self_right]
end Go.Proofs.Ytfjploahkodekaa

/-
  balefireref03.Common: by Euclid, over what the document's Div tells.
-/
namespace Go.Proofs.Ytfjploahkodekaa
set_option maxRecDepth 100000
open Go.RowKit
set_option linter.unusedSimpArgs false
set_option linter.unusedVariables false
attribute [local go_sem ↓] Go.wp_at_zero Go.wp_at_succ

end Go.Proofs.Ytfjploahkodekaa
