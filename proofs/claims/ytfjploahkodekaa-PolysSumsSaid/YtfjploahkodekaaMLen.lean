/-
  limbs.Shift: what it answers, as a number.
-/
import Derived.Lib.BitFns
import Derived.Test.YtfjploahkodekaaMMulW
import Derived.Test.YtfjploahkodekaaMShift
namespace Go.Proofs.Ytfjploahkodekaa
set_option maxRecDepth 100000
open Go.RowKit
set_option linter.unusedSimpArgs false
set_option linter.unusedVariables false

/-- a number, n places higher -/
def shN (X : Nat) (n : Int) : Nat := if 0 ≤ n then X * 2 ^ n.toNat % 2 ^ 256 else X / 2 ^ (-n).toNat
/-- bit k of X, none below 0 -/
def tb (X : Nat) (k : Int) : Bool := decide (0 ≤ k) && X.testBit k.toNat

theorem wd_tb (X i j : Nat) : (wd X i).testBit j = (decide (j < 64) && X.testBit (64 * i + j)) := by
  unfold wd
  rw [B_pow, show (18446744073709551616 : Nat) = 2 ^ 64 by decide, Nat.testBit_mod_two_pow, Nat.testBit_div_two_pow]
  rw [Nat.add_comm]
theorem wi_tb (X : Nat) (y : Int) (j : Nat) : (wi X y).testBit j = (decide (j < 64) && tb X (64 * y + j)) := by
  unfold wi tb
  by_cases h : y < 0
  · rw [if_pos h, Nat.zero_testBit]
    by_cases hj : j < 64
    · have : ¬ 0 ≤ 64 * y + (j : Int) := by omega
      simp [this]
    · simp [hj]
  · rw [if_neg h, wd_tb]
    by_cases hj : j < 64
    · have h1 : 0 ≤ 64 * y + (j : Int) := by omega
      have h2 : 64 * y.toNat + j = (64 * y + (j : Int)).toNat := by omega
      simp [h1, h2]
    · simp [hj]
theorem sh_tb (X : Nat) (hX : X < 2 ^ 256) (n : Int) (m : Nat) : (shN X n).testBit m = (decide (m < 256) && tb X (m - n)) := by
  unfold shN tb
  by_cases h : 0 ≤ n
  · rw [if_pos h, Nat.testBit_mod_two_pow, Nat.testBit_mul_two_pow]
    by_cases h1 : n.toNat ≤ m
    · have h2 : 0 ≤ (m : Int) - n := by omega
      have h3 : ((m : Int) - n).toNat = m - n.toNat := by omega
      rw [decide_eq_true h2, decide_eq_true h1, h3]
    · have h2 : ¬ 0 ≤ (m : Int) - n := by omega
      rw [decide_eq_false h2, decide_eq_false h1]; simp
  · rw [if_neg h, Nat.testBit_div_two_pow]
    have h2 : 0 ≤ (m : Int) - n := by omega
    have h3 : ((m : Int) - n).toNat = m + (-n).toNat := by omega
    by_cases h1 : m < 256
    · rw [decide_eq_true h2, decide_eq_true h1, h3]; simp
    · have h4 : X.testBit (m + (-n).toNat) = false := Nat.testBit_lt_two_pow (Nat.lt_of_lt_of_le hX (Nat.pow_le_pow_right (by decide) (by omega)))
      simp [h1, h4]
theorem sh_lt (X : Nat) (hX : X < 2 ^ 256) (n : Int) : shN X n < 2 ^ 256 := by
  unfold shN
  split
  · exact Nat.mod_lt _ (by decide)
  · exact Nat.lt_of_le_of_lt (Nat.div_le_self _ _) hX

theorem word_sh (X : Nat) (hX : X < 2 ^ 256) (n q : Int) (p r k : Nat) (y y' : Int) (hk : k < 4) (hn : n = 64 * q + p) (hp : p < 64) (hr : r = 64 - p) (hy : y = k - q) (hy' : y' = k - q - 1) :
    bits .or .u64 (IntKind.u64.wrap ((wi X y : Nat) * 2 ^ p)) ((wi X y' : Nat) / 2 ^ r) = (wd (shN X n) k : Nat) := by
  have e1 : IntKind.u64.wrap ((wi X y : Nat) * 2 ^ p) = ((wi X y * 2 ^ p % 2 ^ 64 : Nat) : Int) := by
    rw [IntKind.wrap_u64]; simp
  have e2 : ((wi X y' : Nat) : Int) / 2 ^ r = ((wi X y' / 2 ^ r : Nat) : Int) := by simp
  rw [e1, e2, bits_or_u64_nat _ _ (Nat.mod_lt _ (by decide)) (Nat.lt_of_le_of_lt (Nat.div_le_self _ _) (wi_lt _ _))]
  congr 1
  refine Nat.eq_of_testBit_eq fun j => ?_
  rw [Nat.testBit_or, show (18446744073709551616 : Nat) = 2 ^ 64 by decide, Nat.testBit_mod_two_pow, Nat.testBit_mul_two_pow, Nat.testBit_div_two_pow, wi_tb, wi_tb, wd_tb, sh_tb X hX]
  by_cases hj : j < 64
  · have h256 : 64 * k + j < 256 := by omega
    by_cases hpj : p ≤ j
    · have g1 : j - p < 64 := by omega
      have g2 : ¬ j + r < 64 := by omega
      have g3 : 64 * y + ((j - p : Nat) : Int) = ((64 * k + j : Nat) : Int) - n := by omega
      simp only [hj, hpj, g1, g2, g3, h256]; simp
    · have g2 : j + r < 64 := by omega
      have g3 : 64 * y' + ((j + r : Nat) : Int) = ((64 * k + j : Nat) : Int) - n := by omega
      simp only [hj, hpj, g2, g3, h256]; simp
  · have g2 : ¬ j + r < 64 := by omega
    simp [hj, g2]

/-- limbs.Shift -/
theorem shift_any (X : Nat) (hX : X < 2 ^ 256) (n : Int) (hn : -9223372036854775808 ≤ n) (hn' : n ≤ 9223372036854775807) (w : World) :
    Calls Try.prog 57 #[num X, .int .i64 n] w fun e w' => e = .returned (num (shN X n)) ∧ Below w.heap.size w w' := by
  obtain ⟨p, hp⟩ : ∃ p : Nat, n % 64 = p := ⟨(n % 64).toNat, by omega⟩
  have e : n = 64 * (n / 64) + p := by omega
  have wr : ∀ x : Int, -9223372036854775808 ≤ x → x ≤ 9223372036854775807 → IntKind.i64.wrap x = x := fun x h1 h2 => by rw [IntKind.wrap_i64]; omega
  refine shift_words X hX n (n / 64) (0 - n / 64 - 1) (0 - n / 64) (1 - n / 64) (2 - n / 64) (3 - n / 64) p (64 - p) rfl (by rw [and63, hp]) (by omega) (by rw [wr _ (by omega) (by omega)]; omega) (by omega)
    (by rw [wr _ (by omega) (by omega)]; omega) (wr _ (by omega) (by omega)) (wr _ (by omega) (by omega)) (wr _ (by omega) (by omega))
    (wr _ (by omega) (by omega)) (by rw [wr _ (by omega) (by omega)]; omega) (by rw [wr _ (by omega) (by omega)]; omega) (by rw [wr _ (by omega) (by omega)]; omega) _ _ _ _
    (word_sh X hX n _ p _ 0 _ _ (by omega) e (by omega) rfl (by omega) (by omega)) (word_sh X hX n _ p _ 1 _ _ (by omega) e (by omega) rfl (by omega) (by omega))
    (word_sh X hX n _ p _ 2 _ _ (by omega) e (by omega) rfl (by omega) (by omega)) (word_sh X hX n _ p _ 3 _ _ (by omega) e (by omega) rfl (by omega) (by omega)) w
end Go.Proofs.Ytfjploahkodekaa

/-
  limbs.Mul, as numbers; limbs.Bits.
-/
namespace Go.Proofs.Ytfjploahkodekaa
set_option maxRecDepth 100000
open Go.RowKit
set_option linter.unusedSimpArgs false
set_option linter.unusedVariables false
attribute [local go_sem ↓] Go.wp_at_zero Go.wp_at_succ

/-- limbs.Mul -/
theorem mul_ex (X Y : Nat) (hX : X < 2 ^ 256) (hY : Y < 2 ^ 256) : ∃ L H : Nat, L < 2 ^ 256 ∧ H < 2 ^ 256 ∧ X * Y = L + 2 ^ 256 * H ∧
    ∀ w, Calls Try.prog 48 #[num X, num Y] w fun e w' => e = .returned (.tuple #[num L, num H]) ∧ Below w.heap.size w w' := by
  refine ⟨X * Y % 2 ^ 256, X * Y / 2 ^ 256, Nat.mod_lt _ (by decide), ?_, by omega, fun w => (mul_words X Y hX hY w).mono ?_⟩
  · have : X * Y < 2 ^ 256 * 2 ^ 256 := Nat.mul_lt_mul'' hX hY
    exact Nat.div_lt_of_lt_mul this
  rintro e w' ⟨L, hl, hb, hv, rfl, bel⟩
  match L, hl with
  | [l0, l1, l2, l3, l4, l5, l6, l7], _ =>
    simp only [List.mem_cons, List.not_mem_nil, or_false, forall_eq_or_imp, forall_eq] at hb
    obtain ⟨h0, h1, h2, h3, h4, h5, h6, h7⟩ := hb
    simp only [lv, Nat.mul_zero, Nat.add_zero] at hv
    generalize X * Y = P at *
    refine ⟨?_, bel⟩
    have e1 : (.agg (ws ([l0, l1, l2, l3, l4, l5, l6, l7].take 4)) : Value) = num (P % 2 ^ 256) := num_of l0 l1 l2 l3 h0 h1 h2 h3 _ (by omega)
    have e2 : (.agg (ws ([l0, l1, l2, l3, l4, l5, l6, l7].drop 4)) : Value) = num (P / 2 ^ 256) := num_of l4 l5 l6 l7 h4 h5 h6 h7 _ (by omega)
    rw [e1, e2]
end Go.Proofs.Ytfjploahkodekaa

/-
  math/bits.Len64, limbs.Bits.
-/
namespace Go.Proofs.Ytfjploahkodekaa
set_option maxRecDepth 100000
open Go.RowKit
set_option linter.unusedSimpArgs false
set_option linter.unusedVariables false
attribute [local go_sem ↓] Go.wp_at_zero Go.wp_at_succ

theorem len_end (x y : Int) (k : Nat) (h0 : 0 ≤ x) (hx : x < 18446744073709551616) (hk : k ≤ 56) (hy : y.toNat = x.toNat / 2 ^ k) (hy0 : 0 ≤ y) (hy1 : y ≤ 255) (h : k = 0 ∨ 1 ≤ y) : (k : Int) + Lib.len8 y = Lib.bitLen x.toNat ∧ 0 ≤ Lib.len8 y ∧ Lib.len8 y ≤ 8 := by
  have l := Lib.bitLen_le8' y hy0 hy1
  rw [Lib.len8_of y hy0 hy1]
  refine ⟨?_, by omega, by omega⟩
  rw [hy]
  rcases h with rfl | h
  · simp
  · have hp : 0 < 2 ^ k := Nat.two_pow_pos k
    have h1 : 2 ^ k ≤ x.toNat := (Nat.one_le_div_iff hp).1 (by omega)
    rw [Lib.bitLen_shift k x.toNat h1 (by omega)]
    simp

set_option maxRecDepth 100000 in
theorem len64 (x : Int) (h0 : 0 ≤ x) (hx : x < 18446744073709551616) (w : World) : Calls Try.prog 38 #[.int .u64 x] w fun e w' => e = .returned (.int .i64 (Lib.bitLen x.toNat)) ∧ w' = w := by
  by_cases c1 : 4294967296 ≤ x
  · obtain ⟨x1, g1⟩ : ∃ x1, x / 4294967296 = x1 := ⟨_, rfl⟩
    by_cases c2 : 65536 ≤ x1
    · obtain ⟨x2, g2⟩ : ∃ x2, x1 / 65536 = x2 := ⟨_, rfl⟩
      by_cases c3 : 256 ≤ x2
      · obtain ⟨x3, g3⟩ : ∃ x3, x2 / 256 = x3 := ⟨_, rfl⟩
        have q0 : 0 ≤ x3 := by omega
        have q1 : x3 ≤ 255 := by omega
        have q2 : x3.toNat = x.toNat / 2 ^ 56 := by rw [show (2 : Nat) ^ 56 = 72057594037927936 by decide]; omega
        obtain ⟨e1, e2, e3⟩ := len_end x x3 56 h0 hx (by omega) q2 q0 q1 (by omega)
        generalize hL : Lib.len8 x3 = t at *
        have HE := Lib.hid e1
        clear q2 e1 hx
        go_enter Try.func38, Try.ntmps38
        go_wp2
        go_ret
        refine ⟨congrArg Ending.returned (congrArg (Value.int IntKind.i64) ?_), rfl⟩
        rw [← HE.out]
        first | omega | (unfold wrap64; omega)
      · have d3 : x2 < 256 := by omega
        clear c3
        have q0 : 0 ≤ x2 := by omega
        have q1 : x2 ≤ 255 := by omega
        have q2 : x2.toNat = x.toNat / 2 ^ 48 := by rw [show (2 : Nat) ^ 48 = 281474976710656 by decide]; omega
        obtain ⟨e1, e2, e3⟩ := len_end x x2 48 h0 hx (by omega) q2 q0 q1 (by omega)
        generalize hL : Lib.len8 x2 = t at *
        have HE := Lib.hid e1
        clear q2 e1 hx
        go_enter Try.func38, Try.ntmps38
        go_wp2
        go_ret
        refine ⟨congrArg Ending.returned (congrArg (Value.int IntKind.i64) ?_), rfl⟩
        rw [← HE.out]
        first | omega | (unfold wrap64; omega)
    · have d2 : x1 < 65536 := by omega
      clear c2
      by_cases c3 : 256 ≤ x1
      · obtain ⟨x3, g3⟩ : ∃ x3, x1 / 256 = x3 := ⟨_, rfl⟩
        have q0 : 0 ≤ x3 := by omega
        have q1 : x3 ≤ 255 := by omega
        have q2 : x3.toNat = x.toNat / 2 ^ 40 := by rw [show (2 : Nat) ^ 40 = 1099511627776 by decide]; omega
        obtain ⟨e1, e2, e3⟩ := len_end x x3 40 h0 hx (by omega) q2 q0 q1 (by omega)
        generalize hL : Lib.len8 x3 = t at *
        have HE := Lib.hid e1
        clear q2 e1 hx
        go_enter Try.func38, Try.ntmps38
        go_wp2
        go_ret
        refine ⟨congrArg Ending.returned (congrArg (Value.int IntKind.i64) ?_), rfl⟩
        rw [← HE.out]
        first | omega | (unfold wrap64; omega)
      · have d3 : x1 < 256 := by omega
        clear c3
        have q0 : 0 ≤ x1 := by omega
        have q1 : x1 ≤ 255 := by omega
        have q2 : x1.toNat = x.toNat / 2 ^ 32 := by rw [show (2 : Nat) ^ 32 = 4294967296 by decide]; omega
        obtain ⟨e1, e2, e3⟩ := len_end x x1 32 h0 hx (by omega) q2 q0 q1 (by omega)
        generalize hL : Lib.len8 x1 = t at *
        have HE := Lib.hid e1
        clear q2 e1 hx
        go_enter Try.func38, Try.ntmps38
        go_wp2
        go_ret
        refine ⟨congrArg Ending.returned (congrArg (Value.int IntKind.i64) ?_), rfl⟩
        rw [← HE.out]
        first | omega | (unfold wrap64; omega)
  · have d1 : x < 4294967296 := by omega
    clear c1
    by_cases c2 : 65536 ≤ x
    · obtain ⟨x2, g2⟩ : ∃ x2, x / 65536 = x2 := ⟨_, rfl⟩
      by_cases c3 : 256 ≤ x2
      · obtain ⟨x3, g3⟩ : ∃ x3, x2 / 256 = x3 := ⟨_, rfl⟩
        have q0 : 0 ≤ x3 := by omega
        have q1 : x3 ≤ 255 := by omega
        have q2 : x3.toNat = x.toNat / 2 ^ 24 := by rw [show (2 : Nat) ^ 24 = 16777216 by decide]; omega
        obtain ⟨e1, e2, e3⟩ := len_end x x3 24 h0 hx (by omega) q2 q0 q1 (by omega)
        generalize hL : Lib.len8 x3 = t at *
        have HE := Lib.hid e1
        clear q2 e1 hx
        go_enter Try.func38, Try.ntmps38
        go_wp2
        go_ret
        refine ⟨congrArg Ending.returned (congrArg (Value.int IntKind.i64) ?_), rfl⟩
        rw [← HE.out]
        first | omega | (unfold wrap64; omega)
      · have d3 : x2 < 256 := by omega
        clear c3
        have q0 : 0 ≤ x2 := by omega
        have q1 : x2 ≤ 255 := by omega
        have q2 : x2.toNat = x.toNat / 2 ^ 16 := by rw [show (2 : Nat) ^ 16 = 65536 by decide]; omega
        obtain ⟨e1, e2, e3⟩ := len_end x x2 16 h0 hx (by omega) q2 q0 q1 (by omega)
        generalize hL : Lib.len8 x2 = t at *
        have HE := Lib.hid e1
        clear q2 e1 hx
        go_enter Try.func38, Try.ntmps38
        go_wp2
        go_ret
        refine ⟨congrArg Ending.returned (congrArg (Value.int IntKind.i64) ?_), rfl⟩
        rw [← HE.out]
        first | omega | (unfold wrap64; omega)
    · have d2 : x < 65536 := by omega
      clear c2
      by_cases c3 : 256 ≤ x
      · obtain ⟨x3, g3⟩ : ∃ x3, x / 256 = x3 := ⟨_, rfl⟩
        have q0 : 0 ≤ x3 := by omega
        have q1 : x3 ≤ 255 := by omega
        have q2 : x3.toNat = x.toNat / 2 ^ 8 := by rw [show (2 : Nat) ^ 8 = 256 by decide]; omega
        obtain ⟨e1, e2, e3⟩ := len_end x x3 8 h0 hx (by omega) q2 q0 q1 (by omega)
        generalize hL : Lib.len8 x3 = t at *
        have HE := Lib.hid e1
        clear q2 e1 hx
        go_enter Try.func38, Try.ntmps38
        go_wp2
        go_ret
        refine ⟨congrArg Ending.returned (congrArg (Value.int IntKind.i64) ?_), rfl⟩
        rw [← HE.out]
        first | omega | (unfold wrap64; omega)
      · have d3 : x < 256 := by omega
        clear c3
        have q0 : 0 ≤ x := by omega
        have q1 : x ≤ 255 := by omega
        have q2 : x.toNat = x.toNat / 2 ^ 0 := by simp
        obtain ⟨e1, e2, e3⟩ := len_end x x 0 h0 hx (by omega) q2 q0 q1 (by omega)
        generalize hL : Lib.len8 x = t at *
        have HE := Lib.hid e1
        clear q2 e1 hx
        go_enter Try.func38, Try.ntmps38
        go_wp2
        go_ret
        refine ⟨congrArg Ending.returned (congrArg (Value.int IntKind.i64) ?_), rfl⟩
        rw [← HE.out]
        first | omega | (unfold wrap64; omega)
end Go.Proofs.Ytfjploahkodekaa
