/-
  math/bits.Div64: how often a number of two words goes into one of one word, and what is left.
-/
import Derived.Laws.BitsAllLaws
import Derived.LoopN
import Derived.Test.YtkmjfaaelkmnkaaDoorMNuBehN
import Derived.Test.YtkmjfaaelkmnkaaDoorMNuDiv64
import Derived.Test.YtkmjfaaelkmnkaaDoorMNuRWide
import Derived.Test.YtkmjfaaelkmnkaaDoorMNuShort
namespace Go.Proofs.YtkmjfaaelkmnkaaDoor.Nu
set_option maxRecDepth 100000
open Go.RowKit
set_option linter.unusedSimpArgs false
set_option linter.unusedVariables false
attribute [local go_sem ↓] Go.wp_at_zero Go.wp_at_succ

set_option maxRecDepth 100000 in
theorem two_digits (U D d1 d0 m1 m0 R1 R0 : Nat) (hD : D = d1 * 4294967296 + d0) (a : U * 4294967296 + d1 = m1 + R1) (b : R1 * 4294967296 + d0 = m0 + R0) : U * 18446744073709551616 + D = m1 * 4294967296 + m0 + R0 := by
  have e : U * 18446744073709551616 = U * 4294967296 * 4294967296 := by rw [Nat.mul_assoc]
  have f : U * 4294967296 * 4294967296 + d1 * 4294967296 = m1 * 4294967296 + R1 * 4294967296 := by rw [← Nat.add_mul, ← Nat.add_mul, a]
  rw [e, hD, ← Nat.add_assoc, f, Nat.add_assoc, b, ← Nat.add_assoc]
/-- one digit: the first guess, and what is left behind it -/
theorem digit (U d Y y1 y0 : Nat) (h1 : 2147483648 ≤ y1) (h1c : y1 < 4294967296) (h0 : y0 < 4294967296) (hd : d < 4294967296) (hY : Y = y1 * 4294967296 + y0) (hU : U < Y) :
    (U * 4294967296 + d) / Y ≤ U / y1 ∧ U / y1 ≤ 4294967297 ∧ (U * 4294967296 + d) % Y < Y ∧ (U * 4294967296 + d) / Y < 4294967296 ∧ U * 4294967296 + d = (U * 4294967296 + d) / Y * Y + (U * 4294967296 + d) % Y ∧ U = U / y1 * y1 + U % y1 ∧ U % y1 < y1 ∧ U / y1 * y1 ≤ U := by
  obtain ⟨a, b⟩ := kn_first U d y1 y0 h1 h0 hd (by omega)
  rw [← hY] at a
  refine ⟨a, b, Nat.mod_lt _ (by omega), kn_small U d Y hd hU, ?_, ?_, Nat.mod_lt _ (by omega), Nat.div_mul_le_self _ _⟩
  · rw [Nat.mul_comm _ Y]; exact (Nat.div_add_mod _ _).symm
  · rw [Nat.mul_comm _ y1]; exact (Nat.div_add_mod _ _).symm

set_option maxHeartbeats 1000000 in
theorem div64_long (h l y s : Nat) (h0 : 0 < h) (hy : h < y) (hy2 : y < 18446744073709551616) (hl : l < 18446744073709551616) (hs : s + Go.bitLen y = 64) (w : World) :
    Calls Tryd.prog 58 #[.int .u64 (h : Nat), .int .u64 (l : Nat), .int .u64 (y : Nat)] w fun e w' => e = .returned (.tuple #[.int .u64 (((h * 18446744073709551616 + l) / y : Nat) : Int), .int .u64 (((h * 18446744073709551616 + l) % y : Nat) : Int)]) ∧ w' = w := by
  have bs := Go.bitLen_spec y
  have bl0 := bl_pos y (by omega)
  have s63 : s ≤ 63 := by omega
  have hP : 0 < 2 ^ s := Nat.two_pow_pos s
  have hY64 : y * 2 ^ s < 18446744073709551616 := by
    have : y * 2 ^ s < 2 ^ Go.bitLen y * 2 ^ s := (Nat.mul_lt_mul_right hP).2 bs.1
    rw [← Nat.pow_add, show Go.bitLen y + s = 64 by omega] at this; exact this
  have hY63 : 9223372036854775808 ≤ y * 2 ^ s := by
    have : 2 ^ (Go.bitLen y - 1) * 2 ^ s ≤ y * 2 ^ s := Nat.mul_le_mul_right _ (bs.2 (by omega))
    rw [← Nat.pow_add, show Go.bitLen y - 1 + s = 63 by omega] at this; exact this
  have hhs : h * 2 ^ s + 2 ^ s ≤ y * 2 ^ s := by
    have : (h + 1) * 2 ^ s ≤ y * 2 ^ s := Nat.mul_le_mul_right _ hy
    rw [Nat.add_mul] at this; omega
  have h64 : 2 ^ (64 - s) * 2 ^ s = 18446744073709551616 := by rw [← Nat.pow_add, show 64 - s + s = 64 by omega]
  have hlh : l / 2 ^ (64 - s) < 2 ^ s := by
    refine Nat.div_lt_of_lt_mul ?_
    rw [h64]; exact hl
  have hor : h * 2 ^ s ||| l / 2 ^ (64 - s) = h * 2 ^ s + l / 2 ^ (64 - s) := nat_join s _ _ (Nat.mul_mod_left _ _) hlh
  have hsp : ((2 : Int) ^ s) = ((2 ^ s : Nat) : Int) := by simp
  have hsp2 : ((2 : Int) ^ (64 - s)) = ((2 ^ (64 - s) : Nat) : Int) := by simp
  -- the low word, moved, and what falls off it
  obtain ⟨D, hD⟩ : ∃ D, D = l * 2 ^ s % 18446744073709551616 := ⟨_, rfl⟩
  have hlD : l * 2 ^ s = l / 2 ^ (64 - s) * 18446744073709551616 + D := by
    have e : l * 2 ^ s / 18446744073709551616 = l / 2 ^ (64 - s) := by
      rw [← h64, Nat.mul_div_mul_right _ _ hP]
    have := Nat.div_add_mod (l * 2 ^ s) 18446744073709551616
    rw [e, ← hD] at this
    omega
  have hDlt : D < 18446744073709551616 := by rw [hD]; exact Nat.mod_lt _ (by decide)
  obtain ⟨U, hU⟩ : ∃ U, U = h * 2 ^ s + l / 2 ^ (64 - s) := ⟨_, rfl⟩
  obtain ⟨Y, hYe⟩ : ∃ Y, Y = y * 2 ^ s := ⟨_, rfl⟩
  obtain ⟨y1, hy1⟩ : ∃ y1, y1 = Y / 4294967296 := ⟨_, rfl⟩
  obtain ⟨y0, hy0⟩ : ∃ y0, y0 = Y % 4294967296 := ⟨_, rfl⟩
  obtain ⟨d1, hd1⟩ : ∃ d1, d1 = D / 4294967296 := ⟨_, rfl⟩
  obtain ⟨d0, hd0⟩ : ∃ d0, d0 = D % 4294967296 := ⟨_, rfl⟩
  have hUY : U < Y := by rw [hU, hYe]; omega
  have hY2 : Y = y1 * 4294967296 + y0 := by omega
  obtain ⟨a1, a2, a3, a4, a5, a6, a7, a8⟩ := digit U d1 Y y1 y0 (by omega) (by omega) (by omega) (by omega) hY2 hUY
  obtain ⟨Q1, hQ1⟩ : ∃ Q, Q = (U * 4294967296 + d1) / Y := ⟨_, rfl⟩
  obtain ⟨R1, hR1⟩ : ∃ R, R = (U * 4294967296 + d1) % Y := ⟨_, rfl⟩
  rw [← hQ1, ← hR1] at a5
  rw [← hQ1] at a1 a4
  rw [← hR1] at a3
  obtain ⟨b1, b2, b3, b4, b5, b6, b7, b8⟩ := digit R1 d0 Y y1 y0 (by omega) (by omega) (by omega) (by omega) hY2 a3
  obtain ⟨Q0, hQ0⟩ : ∃ Q, Q = (R1 * 4294967296 + d0) / Y := ⟨_, rfl⟩
  obtain ⟨R0, hR0⟩ : ∃ R, R = (R1 * 4294967296 + d0) % Y := ⟨_, rfl⟩
  rw [← hQ0, ← hR0] at b5
  rw [← hQ0] at b1 b4
  rw [← hR0] at b3
  -- both digits together
  have tot : (h * 18446744073709551616 + l) * 2 ^ s = (Q1 * 4294967296 + Q0) * Y + R0 := by
    have e1 : (h * 18446744073709551616 + l) * 2 ^ s = U * 18446744073709551616 + D := by
      rw [Nat.add_mul, hlD, hU, Nat.add_mul, Nat.mul_right_comm, Nat.add_assoc]
    have e2 : (Q1 * 4294967296 + Q0) * Y = Q1 * Y * 4294967296 + Q0 * Y := by rw [Nat.add_mul, Nat.mul_right_comm]
    rw [e1, e2]
    exact two_digits U D d1 d0 (Q1 * Y) (Q0 * Y) R1 R0 (by rw [hd1, hd0]; exact (Nat.div_add_mod' _ _).symm) a5 b5
  have hq : (h * 18446744073709551616 + l) / y = Q1 * 4294967296 + Q0 := by
    rw [← Nat.mul_div_mul_right _ y hP, tot, ← hYe, Nat.mul_comm _ Y, Nat.mul_add_div (by omega), Nat.div_eq_of_lt b3, Nat.add_zero]
  have hr : (h * 18446744073709551616 + l) % y * 2 ^ s = R0 := by
    rw [← Nat.mul_mod_mul_right, tot, ← hYe, Nat.mul_comm _ Y, Nat.mul_add_mod, Nat.mod_eq_of_lt b3]
  have hr2 : R0 / 2 ^ s = (h * 18446744073709551616 + l) % y := by rw [← hr]; exact Nat.mul_div_cancel _ hP
  have LZ := lz_any y s hy2 hs
  rw [hq, ← hr2]
  obtain ⟨m1, hm1⟩ : ∃ m, m = Q1 * Y := ⟨_, rfl⟩
  obtain ⟨m0, hm0⟩ : ∃ m, m = Q0 * Y := ⟨_, rfl⟩
  obtain ⟨ma, hma⟩ : ∃ m, m = U / y1 * y1 := ⟨_, rfl⟩
  obtain ⟨mb, hmb⟩ : ∃ m, m = R1 / y1 * y1 := ⟨_, rfl⟩
  refine dv_walk h l y s Y y1 y0 (h * 2 ^ s) (l / 2 ^ (64 - s)) U D d1 d0 (U / y1) ma (U % y1) (U * 4294967296 % 18446744073709551616) ((U * 4294967296 % 18446744073709551616 + d1) % 18446744073709551616) (m1 % 18446744073709551616) Q1 R1 (R1 / y1) mb (R1 % y1) Q0 R0
    (Q1 * 4294967296) (Q1 * 4294967296 + Q0) (R1 * 4294967296 % 18446744073709551616) ((R1 * 4294967296 % 18446744073709551616 + d0) % 18446744073709551616) (m0 % 18446744073709551616) (R0 / 2 ^ s)
    (by omega) (by omega) (by omega) ?_ ?_ ?_ ?_ ?_ ?_ ?_ ?_ ?_ ?_ ?_ ?_ ?_ ?_ (by omega) ?_ ?_ ?_ ?_ ?_ ?_ ?_ ?_ ?_ ?_ ?_ ?_ ?_ ?_ ?_ ?_ s63 (by omega) (by omega) (by omega) (by omega) (by omega) hY2 (by omega) (by omega) hQ1 hQ0 a6 a1 a2 a7 b6 b1 b2 b7 LZ w
  · rw [hsp, ← Int.natCast_mul, ← hYe, IntKind.wrap_u64]; omega
  · omega
  · rw [show (4294967295 : Int) = ((4294967295 : Nat) : Int) from rfl, u64_and_nat _ _ (by omega) (by decide), show (4294967295 : Nat) = 2 ^ 32 - 1 from rfl, Nat.and_two_pow_sub_one_eq_mod]; omega
  · rw [hsp, ← Int.natCast_mul, IntKind.wrap_u64]; omega
  · rw [hsp2]; exact (Int.natCast_ediv _ _).symm
  · rw [u64_or_nat _ _ (by omega) (by omega), hor, hU]
  · rw [hsp, ← Int.natCast_mul, IntKind.wrap_u64]; omega
  · omega
  · rw [show (4294967295 : Int) = ((4294967295 : Nat) : Int) from rfl, u64_and_nat _ _ (by omega) (by decide), show (4294967295 : Nat) = 2 ^ 32 - 1 from rfl, Nat.and_two_pow_sub_one_eq_mod]; omega
  · rw [Int.tdiv_eq_ediv_of_nonneg (by omega)]; exact (Int.natCast_ediv _ _).symm
  · exact (Int.natCast_ediv _ _).symm
  · rw [IntKind.wrap_u64]; omega
  · rw [← Int.natCast_mul, ← hma, IntKind.wrap_u64]; omega
  · rw [IntKind.wrap_u64]; omega
  · rw [IntKind.wrap_u64]; omega
  · rw [IntKind.wrap_u64]; omega
  · rw [← Int.natCast_mul, ← hm1, IntKind.wrap_u64]; omega
  · rw [IntKind.wrap_u64]; omega
  · rw [Int.tdiv_eq_ediv_of_nonneg (by omega)]; exact (Int.natCast_ediv _ _).symm
  · exact (Int.natCast_ediv _ _).symm
  · rw [IntKind.wrap_u64]; omega
  · rw [← Int.natCast_mul, ← hmb, IntKind.wrap_u64]; omega
  · rw [IntKind.wrap_u64]; omega
  · rw [IntKind.wrap_u64]; omega
  · rw [IntKind.wrap_u64]; omega
  · rw [IntKind.wrap_u64]; omega
  · rw [IntKind.wrap_u64]; omega
  · rw [← Int.natCast_mul, ← hm0, IntKind.wrap_u64]; omega
  · rw [IntKind.wrap_u64]; omega
  · rw [hsp]; exact (Int.natCast_ediv _ _).symm

theorem div64_short (l y : Nat) (h0 : 0 < y) (hy2 : y < 18446744073709551616) (hl : l < 18446744073709551616) (w : World) :
    Calls Tryd.prog 58 #[.int .u64 0, .int .u64 (l : Nat), .int .u64 (y : Nat)] w fun e w' => e = .returned (.tuple #[.int .u64 ((l / y : Nat) : Int), .int .u64 ((l % y : Nat) : Int)]) ∧ Below w.heap.size w w' := by
  have y0n : (y : Int) ≠ 0 := by omega
  have hy1 : ¬ (y : Int) ≤ 0 := by omega
  obtain ⟨q, hq⟩ : ∃ q, q = l / y := ⟨_, rfl⟩
  obtain ⟨r, hr⟩ : ∃ r, r = l % y := ⟨_, rfl⟩
  have gq : Int.tdiv (l : Int) (y : Int) = (q : Nat) := by rw [hq, Int.tdiv_eq_ediv_of_nonneg (by omega)]; exact (Int.natCast_ediv _ _).symm
  have gr : Int.tmod (l : Int) (y : Int) = (r : Nat) := by rw [hr, Int.tmod_eq_emod_of_nonneg (by omega)]; exact (Int.natCast_emod _ _).symm
  have gq2 : (l : Int) / (y : Int) = (q : Nat) := by rw [hq]; exact (Int.natCast_ediv _ _).symm
  have gr2 : (l : Int) % (y : Int) = (r : Nat) := by rw [hr]; exact (Int.natCast_emod _ _).symm
  have hql : q ≤ l := by rw [hq]; exact Nat.div_le_self _ _
  have hrl : r ≤ l := by rw [hr]; exact Nat.mod_le _ _
  have gqw : IntKind.u64.wrap (q : Int) = (q : Nat) := by rw [IntKind.wrap_u64]; omega
  have grw : IntKind.u64.wrap (r : Int) = (r : Nat) := by rw [IntKind.wrap_u64]; omega
  rw [← hq, ← hr]
  clear hq hr hql hrl hl hy2
  go_enter Tryd.func58, Tryd.ntmps58
  go_wp2_with fail
  go_region
  all_goals (try go_wp2)
  all_goals (first | go_ret2 | go_ret)
  all_goals exact ⟨by first | rfl | simp [gq, gr, gqw, grw], (Below.refl _ _).drew⟩
theorem div64_any (h l y : Nat) (hy : h < y) (hy2 : y < 18446744073709551616) (hl : l < 18446744073709551616) (w : World) :
    Calls Tryd.prog 58 #[.int .u64 (h : Nat), .int .u64 (l : Nat), .int .u64 (y : Nat)] w fun e w' => e = .returned (.tuple #[.int .u64 (((h * 18446744073709551616 + l) / y : Nat) : Int), .int .u64 (((h * 18446744073709551616 + l) % y : Nat) : Int)]) ∧ Below w.heap.size w w' := by
  by_cases h0 : h = 0
  · subst h0
    rw [Nat.zero_mul, Nat.zero_add]
    exact div64_short l y (by omega) hy2 hl w
  · have hb : Go.bitLen y ≤ 64 := by
      have := Go.bitLen_spec y
      apply Decidable.byContradiction; intro hc
      have h2 := this.2 (by omega)
      have : 2 ^ 64 ≤ 2 ^ (Go.bitLen y - 1) := Nat.pow_le_pow_right (by decide) (by omega)
      omega
    refine (div64_long h l y (64 - Go.bitLen y) (by omega) hy hy2 hl (by omega) w).mono fun e w' ⟨he, hw⟩ => ⟨he, ?_⟩
    rw [hw]; exact Below.refl _ _
end Go.Proofs.YtkmjfaaelkmnkaaDoor.Nu

/-
  balefireref03.Wide, of one word: word by word.
-/
namespace Go.Proofs.YtkmjfaaelkmnkaaDoor.Nu
set_option maxRecDepth 100000
open Go.RowKit
set_option linter.unusedSimpArgs false
set_option linter.unusedVariables false
attribute [local go_sem ↓] Go.wp_at_zero Go.wp_at_succ

set_option maxRecDepth 100000 in
set_option maxHeartbeats 8000000 in
theorem rwide_w (A R M r1 r2 r3 r4 r5 r6 r7 r8 q0 q1 q2 q3 q4 q5 q6 q7 : Nat)
    (EQ : ∀ w, (Op.equalIn 10000 37 (num M) (.agg #[.int .u64 0, .int .u64 0, .int .u64 0, .int .u64 0])).run Tryd.prog w = .ok false w)
    (W : ∀ w, Calls Tryd.prog 57 #[num M] w fun e w' => e = .returned (.bool true) ∧ Below w.heap.size w w')
    (D0 : ∀ w, Calls Tryd.prog 58 #[.int .u64 0, .int .u64 (wd R 3 : Nat), .int .u64 (wd M 0 : Nat)] w fun e w' => e = .returned (.tuple #[.int .u64 (q0 : Nat), .int .u64 (r1 : Nat)]) ∧ Below w.heap.size w w')
    (D1 : ∀ w, Calls Tryd.prog 58 #[.int .u64 (r1 : Nat), .int .u64 (wd R 2 : Nat), .int .u64 (wd M 0 : Nat)] w fun e w' => e = .returned (.tuple #[.int .u64 (q1 : Nat), .int .u64 (r2 : Nat)]) ∧ Below w.heap.size w w')
    (D2 : ∀ w, Calls Tryd.prog 58 #[.int .u64 (r2 : Nat), .int .u64 (wd R 1 : Nat), .int .u64 (wd M 0 : Nat)] w fun e w' => e = .returned (.tuple #[.int .u64 (q2 : Nat), .int .u64 (r3 : Nat)]) ∧ Below w.heap.size w w')
    (D3 : ∀ w, Calls Tryd.prog 58 #[.int .u64 (r3 : Nat), .int .u64 (wd R 0 : Nat), .int .u64 (wd M 0 : Nat)] w fun e w' => e = .returned (.tuple #[.int .u64 (q3 : Nat), .int .u64 (r4 : Nat)]) ∧ Below w.heap.size w w')
    (D4 : ∀ w, Calls Tryd.prog 58 #[.int .u64 (r4 : Nat), .int .u64 (wd A 3 : Nat), .int .u64 (wd M 0 : Nat)] w fun e w' => e = .returned (.tuple #[.int .u64 (q4 : Nat), .int .u64 (r5 : Nat)]) ∧ Below w.heap.size w w')
    (D5 : ∀ w, Calls Tryd.prog 58 #[.int .u64 (r5 : Nat), .int .u64 (wd A 2 : Nat), .int .u64 (wd M 0 : Nat)] w fun e w' => e = .returned (.tuple #[.int .u64 (q5 : Nat), .int .u64 (r6 : Nat)]) ∧ Below w.heap.size w w')
    (D6 : ∀ w, Calls Tryd.prog 58 #[.int .u64 (r6 : Nat), .int .u64 (wd A 1 : Nat), .int .u64 (wd M 0 : Nat)] w fun e w' => e = .returned (.tuple #[.int .u64 (q6 : Nat), .int .u64 (r7 : Nat)]) ∧ Below w.heap.size w w')
    (D7 : ∀ w, Calls Tryd.prog 58 #[.int .u64 (r7 : Nat), .int .u64 (wd A 0 : Nat), .int .u64 (wd M 0 : Nat)] w fun e w' => e = .returned (.tuple #[.int .u64 (q7 : Nat), .int .u64 (r8 : Nat)]) ∧ Below w.heap.size w w')
    (O : ∀ w, Calls Tryd.prog 59 #[.int .u64 (r8 : Nat)] w fun e w' => e = .returned (num r8) ∧ Below w.heap.size w w')
    (w : World) : Calls Tryd.prog 41 #[num A, num R, num M] w fun e w' => e = .returned (.tuple #[num r8, .int .i64 0]) ∧ Below w.heap.size w w' := by
  have HW := Lib.hid W
  have HD0 := Lib.hid D0
  have HD1 := Lib.hid D1
  have HD2 := Lib.hid D2
  have HD3 := Lib.hid D3
  have HD4 := Lib.hid D4
  have HD5 := Lib.hid D5
  have HD6 := Lib.hid D6
  have HD7 := Lib.hid D7
  have HO := Lib.hid O
  clear W D0 D1 D2 D3 D4 D5 D6 D7 O
  go_enter Tryd.func41, Tryd.ntmps41
  go_wp2_with (simp only [EQ])
  clear EQ
  have BW := Lib.hid (Below.refl w.heap.size w)
  generalize hW1 : ((((w.alloc (.cells #[.int .u64 (wd A 0 : Nat), .int .u64 (wd A 1 : Nat), .int .u64 (wd A 2 : Nat), .int .u64 (wd A 3 : Nat)] 37)).alloc (.cells #[.int .u64 (wd R 0 : Nat), .int .u64 (wd R 1 : Nat), .int .u64 (wd R 2 : Nat), .int .u64 (wd R 3 : Nat)] 37)).alloc (.cells #[.int .u64 (wd M 0 : Nat), .int .u64 (wd M 1 : Nat), .int .u64 (wd M 2 : Nat), .int .u64 (wd M 3 : Nat)] 37)).alloc (.cells #[.int .u64 0, .int .u64 0, .int .u64 0, .int .u64 0] 37)) = W1 at *
  have Na : At W1 (w.heap.size) _ _ := at_of hW1 ((((At.at_ _ _ _ _ (by simp)).alloc _).alloc _).alloc _)
  have Nh : At W1 (w.heap.size + 1) _ _ := at_of hW1 (((At.at_ _ _ _ _ (by simp)).alloc _).alloc _)
  have Nm : At W1 (w.heap.size + 1 + 1) _ _ := at_of hW1 ((At.at_ _ _ _ _ (by simp)).alloc _)
  have No : At W1 (w.heap.size + 1 + 1 + 1) _ _ := at_of hW1 (At.at_ _ _ _ _ (by simp))
  have Eo : w.heap.size ≤ w.heap.size + 1 + 1 + 1 := by have := BW.out.size; omega
  have Dao : w.heap.size ≠ w.heap.size + 1 + 1 + 1 := by omega
  have Dho : w.heap.size + 1 ≠ w.heap.size + 1 + 1 + 1 := by omega
  have Dmo : w.heap.size + 1 + 1 ≠ w.heap.size + 1 + 1 + 1 := by omega
  have NB := gr_of hW1 (gr_alloc (gr_alloc (gr_alloc (gr_alloc BW.out _) _) _) _)
  clear BW
  clear hW1
  generalize w.heap.size + 1 + 1 + 1 = go at *
  generalize w.heap.size + 1 + 1 = gm at *
  generalize w.heap.size + 1 = gh at *
  obtain ⟨ga, hg0⟩ : ∃ g, g = w.heap.size := ⟨_, rfl⟩
  rw [← hg0] at Na ⊢
  rw [← hg0] at Dao
  clear hg0
  have Fa := Lib.hid Na
  have Fh := Lib.hid Nh
  have Fm := Lib.hid Nm
  have Fo := Lib.hid No
  have BW := Lib.hid NB
  clear NB Na Nh Nm No
  refine (HW.out _).mono ?_
  rintro e v2 ⟨rfl, z2⟩
  have Na := Lib.hid (Fa.out.on z2)
  have Nh := Lib.hid (Fh.out.on z2)
  have Nm := Lib.hid (Fm.out.on z2)
  have No := Lib.hid (Fo.out.on z2)
  have NB := Lib.hid (bel_tr BW.out z2)
  clear BW z2 Fa Fh Fm Fo
  have Fa := Na
  have Fh := Nh
  have Fm := Nm
  have Fo := No
  have BW := NB
  clear NB Na Nh Nm No
  go_wp2_with fail
  refine wp_loop_rounds 9 ?_
  rw [rounds_succ]
  have Lh := Fh.out.lt
  have ch0 := Fh.out.c0
  have ch1 := Fh.out.c1
  have ch2 := Fh.out.c2
  have ch3 := Fh.out.c3
  have La := Fa.out.lt
  have ca0 := Fa.out.c0
  have ca1 := Fa.out.c1
  have ca2 := Fa.out.c2
  have ca3 := Fa.out.c3
  have Lm := Fm.out.lt
  have cm0 := Fm.out.c0
  have cm1 := Fm.out.c1
  have cm2 := Fm.out.c2
  have cm3 := Fm.out.c3
  go_wp2_with fail
  clear Lh ch0 ch1 ch2 ch3 La ca0 ca1 ca2 ca3 Lm cm0 cm1 cm2 cm3
  refine (HD0.out _).mono ?_
  rintro e v3 ⟨rfl, z3⟩
  have Na := Lib.hid (Fa.out.on z3)
  have Nh := Lib.hid (Fh.out.on z3)
  have Nm := Lib.hid (Fm.out.on z3)
  have No := Lib.hid (Fo.out.on z3)
  have NB := Lib.hid (bel_tr BW.out z3)
  clear BW z3 Fa Fh Fm Fo
  have Fa := Na
  have Fh := Nh
  have Fm := Nm
  have Fo := No
  have BW := NB
  clear NB Na Nh Nm No
  have Lh := Fh.out.lt
  have ch0 := Fh.out.c0
  have ch1 := Fh.out.c1
  have ch2 := Fh.out.c2
  have ch3 := Fh.out.c3
  have La := Fa.out.lt
  have ca0 := Fa.out.c0
  have ca1 := Fa.out.c1
  have ca2 := Fa.out.c2
  have ca3 := Fa.out.c3
  have Lm := Fm.out.lt
  have cm0 := Fm.out.c0
  have cm1 := Fm.out.c1
  have cm2 := Fm.out.c2
  have cm3 := Fm.out.c3
  go_wp2_with fail
  clear Lh ch0 ch1 ch2 ch3 La ca0 ca1 ca2 ca3 Lm cm0 cm1 cm2 cm3
  rw [rounds_succ]
  have Lh := Fh.out.lt
  have ch0 := Fh.out.c0
  have ch1 := Fh.out.c1
  have ch2 := Fh.out.c2
  have ch3 := Fh.out.c3
  have La := Fa.out.lt
  have ca0 := Fa.out.c0
  have ca1 := Fa.out.c1
  have ca2 := Fa.out.c2
  have ca3 := Fa.out.c3
  have Lm := Fm.out.lt
  have cm0 := Fm.out.c0
  have cm1 := Fm.out.c1
  have cm2 := Fm.out.c2
  have cm3 := Fm.out.c3
  go_wp2_with fail
  clear Lh ch0 ch1 ch2 ch3 La ca0 ca1 ca2 ca3 Lm cm0 cm1 cm2 cm3
  refine (HD1.out _).mono ?_
  rintro e v4 ⟨rfl, z4⟩
  have Na := Lib.hid (Fa.out.on z4)
  have Nh := Lib.hid (Fh.out.on z4)
  have Nm := Lib.hid (Fm.out.on z4)
  have No := Lib.hid (Fo.out.on z4)
  have NB := Lib.hid (bel_tr BW.out z4)
  clear BW z4 Fa Fh Fm Fo
  have Fa := Na
  have Fh := Nh
  have Fm := Nm
  have Fo := No
  have BW := NB
  clear NB Na Nh Nm No
  have Lh := Fh.out.lt
  have ch0 := Fh.out.c0
  have ch1 := Fh.out.c1
  have ch2 := Fh.out.c2
  have ch3 := Fh.out.c3
  have La := Fa.out.lt
  have ca0 := Fa.out.c0
  have ca1 := Fa.out.c1
  have ca2 := Fa.out.c2
  have ca3 := Fa.out.c3
  have Lm := Fm.out.lt
  have cm0 := Fm.out.c0
  have cm1 := Fm.out.c1
  have cm2 := Fm.out.c2
  have cm3 := Fm.out.c3
  go_wp2_with fail
  clear Lh ch0 ch1 ch2 ch3 La ca0 ca1 ca2 ca3 Lm cm0 cm1 cm2 cm3
  rw [rounds_succ]
  have Lh := Fh.out.lt
  have ch0 := Fh.out.c0
  have ch1 := Fh.out.c1
  have ch2 := Fh.out.c2
  have ch3 := Fh.out.c3
  have La := Fa.out.lt
  have ca0 := Fa.out.c0
  have ca1 := Fa.out.c1
  have ca2 := Fa.out.c2
  have ca3 := Fa.out.c3
  have Lm := Fm.out.lt
  have cm0 := Fm.out.c0
  have cm1 := Fm.out.c1
  have cm2 := Fm.out.c2
  have cm3 := Fm.out.c3
  go_wp2_with fail
  clear Lh ch0 ch1 ch2 ch3 La ca0 ca1 ca2 ca3 Lm cm0 cm1 cm2 cm3
  refine (HD2.out _).mono ?_
  rintro e v5 ⟨rfl, z5⟩
  have Na := Lib.hid (Fa.out.on z5)
  have Nh := Lib.hid (Fh.out.on z5)
  have Nm := Lib.hid (Fm.out.on z5)
  have No := Lib.hid (Fo.out.on z5)
  have NB := Lib.hid (bel_tr BW.out z5)
  clear BW z5 Fa Fh Fm Fo
  have Fa := Na
  have Fh := Nh
  have Fm := Nm
  have Fo := No
  have BW := NB
  clear NB Na Nh Nm No
  have Lh := Fh.out.lt
  have ch0 := Fh.out.c0
  have ch1 := Fh.out.c1
  have ch2 := Fh.out.c2
  have ch3 := Fh.out.c3
  have La := Fa.out.lt
  have ca0 := Fa.out.c0
  have ca1 := Fa.out.c1
  have ca2 := Fa.out.c2
  have ca3 := Fa.out.c3
  have Lm := Fm.out.lt
  have cm0 := Fm.out.c0
  have cm1 := Fm.out.c1
  have cm2 := Fm.out.c2
  have cm3 := Fm.out.c3
  go_wp2_with fail
  clear Lh ch0 ch1 ch2 ch3 La ca0 ca1 ca2 ca3 Lm cm0 cm1 cm2 cm3
  rw [rounds_succ]
  have Lh := Fh.out.lt
  have ch0 := Fh.out.c0
  have ch1 := Fh.out.c1
  have ch2 := Fh.out.c2
  have ch3 := Fh.out.c3
  have La := Fa.out.lt
  have ca0 := Fa.out.c0
  have ca1 := Fa.out.c1
  have ca2 := Fa.out.c2
  have ca3 := Fa.out.c3
  have Lm := Fm.out.lt
  have cm0 := Fm.out.c0
  have cm1 := Fm.out.c1
  have cm2 := Fm.out.c2
  have cm3 := Fm.out.c3
  go_wp2_with fail
  clear Lh ch0 ch1 ch2 ch3 La ca0 ca1 ca2 ca3 Lm cm0 cm1 cm2 cm3
  refine (HD3.out _).mono ?_
  rintro e v6 ⟨rfl, z6⟩
  have Na := Lib.hid (Fa.out.on z6)
  have Nh := Lib.hid (Fh.out.on z6)
  have Nm := Lib.hid (Fm.out.on z6)
  have No := Lib.hid (Fo.out.on z6)
  have NB := Lib.hid (bel_tr BW.out z6)
  clear BW z6 Fa Fh Fm Fo
  have Fa := Na
  have Fh := Nh
  have Fm := Nm
  have Fo := No
  have BW := NB
  clear NB Na Nh Nm No
  have Lh := Fh.out.lt
  have ch0 := Fh.out.c0
  have ch1 := Fh.out.c1
  have ch2 := Fh.out.c2
  have ch3 := Fh.out.c3
  have La := Fa.out.lt
  have ca0 := Fa.out.c0
  have ca1 := Fa.out.c1
  have ca2 := Fa.out.c2
  have ca3 := Fa.out.c3
  have Lm := Fm.out.lt
  have cm0 := Fm.out.c0
  have cm1 := Fm.out.c1
  have cm2 := Fm.out.c2
  have cm3 := Fm.out.c3
  go_wp2_with fail
  clear Lh ch0 ch1 ch2 ch3 La ca0 ca1 ca2 ca3 Lm cm0 cm1 cm2 cm3
  rw [rounds_succ]
  have Lh := Fh.out.lt
  have ch0 := Fh.out.c0
  have ch1 := Fh.out.c1
  have ch2 := Fh.out.c2
  have ch3 := Fh.out.c3
  have La := Fa.out.lt
  have ca0 := Fa.out.c0
  have ca1 := Fa.out.c1
  have ca2 := Fa.out.c2
  have ca3 := Fa.out.c3
  have Lm := Fm.out.lt
  have cm0 := Fm.out.c0
  have cm1 := Fm.out.c1
  have cm2 := Fm.out.c2
  have cm3 := Fm.out.c3
  go_wp2_with fail
  clear Lh ch0 ch1 ch2 ch3 La ca0 ca1 ca2 ca3 Lm cm0 cm1 cm2 cm3
  refine (HD4.out _).mono ?_
  rintro e v7 ⟨rfl, z7⟩
  have Na := Lib.hid (Fa.out.on z7)
  have Nh := Lib.hid (Fh.out.on z7)
  have Nm := Lib.hid (Fm.out.on z7)
  have No := Lib.hid (Fo.out.on z7)
  have NB := Lib.hid (bel_tr BW.out z7)
  clear BW z7 Fa Fh Fm Fo
  have Fa := Na
  have Fh := Nh
  have Fm := Nm
  have Fo := No
  have BW := NB
  clear NB Na Nh Nm No
  have Lh := Fh.out.lt
  have ch0 := Fh.out.c0
  have ch1 := Fh.out.c1
  have ch2 := Fh.out.c2
  have ch3 := Fh.out.c3
  have La := Fa.out.lt
  have ca0 := Fa.out.c0
  have ca1 := Fa.out.c1
  have ca2 := Fa.out.c2
  have ca3 := Fa.out.c3
  have Lm := Fm.out.lt
  have cm0 := Fm.out.c0
  have cm1 := Fm.out.c1
  have cm2 := Fm.out.c2
  have cm3 := Fm.out.c3
  go_wp2_with fail
  clear Lh ch0 ch1 ch2 ch3 La ca0 ca1 ca2 ca3 Lm cm0 cm1 cm2 cm3
  rw [rounds_succ]
  have Lh := Fh.out.lt
  have ch0 := Fh.out.c0
  have ch1 := Fh.out.c1
  have ch2 := Fh.out.c2
  have ch3 := Fh.out.c3
  have La := Fa.out.lt
  have ca0 := Fa.out.c0
  have ca1 := Fa.out.c1
  have ca2 := Fa.out.c2
  have ca3 := Fa.out.c3
  have Lm := Fm.out.lt
  have cm0 := Fm.out.c0
  have cm1 := Fm.out.c1
  have cm2 := Fm.out.c2
  have cm3 := Fm.out.c3
  go_wp2_with fail
  clear Lh ch0 ch1 ch2 ch3 La ca0 ca1 ca2 ca3 Lm cm0 cm1 cm2 cm3
  refine (HD5.out _).mono ?_
  rintro e v8 ⟨rfl, z8⟩
  have Na := Lib.hid (Fa.out.on z8)
  have Nh := Lib.hid (Fh.out.on z8)
  have Nm := Lib.hid (Fm.out.on z8)
  have No := Lib.hid (Fo.out.on z8)
  have NB := Lib.hid (bel_tr BW.out z8)
  clear BW z8 Fa Fh Fm Fo
  have Fa := Na
  have Fh := Nh
  have Fm := Nm
  have Fo := No
  have BW := NB
  clear NB Na Nh Nm No
  have Lh := Fh.out.lt
  have ch0 := Fh.out.c0
  have ch1 := Fh.out.c1
  have ch2 := Fh.out.c2
  have ch3 := Fh.out.c3
  have La := Fa.out.lt
  have ca0 := Fa.out.c0
  have ca1 := Fa.out.c1
  have ca2 := Fa.out.c2
  have ca3 := Fa.out.c3
  have Lm := Fm.out.lt
  have cm0 := Fm.out.c0
  have cm1 := Fm.out.c1
  have cm2 := Fm.out.c2
  have cm3 := Fm.out.c3
  go_wp2_with fail
  clear Lh ch0 ch1 ch2 ch3 La ca0 ca1 ca2 ca3 Lm cm0 cm1 cm2 cm3
  rw [rounds_succ]
  have Lh := Fh.out.lt
  have ch0 := Fh.out.c0
  have ch1 := Fh.out.c1
  have ch2 := Fh.out.c2
  have ch3 := Fh.out.c3
  have La := Fa.out.lt
  have ca0 := Fa.out.c0
  have ca1 := Fa.out.c1
  have ca2 := Fa.out.c2
  have ca3 := Fa.out.c3
  have Lm := Fm.out.lt
  have cm0 := Fm.out.c0
  have cm1 := Fm.out.c1
  have cm2 := Fm.out.c2
  have cm3 := Fm.out.c3
  go_wp2_with fail
  clear Lh ch0 ch1 ch2 ch3 La ca0 ca1 ca2 ca3 Lm cm0 cm1 cm2 cm3
  refine (HD6.out _).mono ?_
  rintro e v9 ⟨rfl, z9⟩
  have Na := Lib.hid (Fa.out.on z9)
  have Nh := Lib.hid (Fh.out.on z9)
  have Nm := Lib.hid (Fm.out.on z9)
  have No := Lib.hid (Fo.out.on z9)
  have NB := Lib.hid (bel_tr BW.out z9)
  clear BW z9 Fa Fh Fm Fo
  have Fa := Na
  have Fh := Nh
  have Fm := Nm
  have Fo := No
  have BW := NB
  clear NB Na Nh Nm No
  have Lh := Fh.out.lt
  have ch0 := Fh.out.c0
  have ch1 := Fh.out.c1
  have ch2 := Fh.out.c2
  have ch3 := Fh.out.c3
  have La := Fa.out.lt
  have ca0 := Fa.out.c0
  have ca1 := Fa.out.c1
  have ca2 := Fa.out.c2
  have ca3 := Fa.out.c3
  have Lm := Fm.out.lt
  have cm0 := Fm.out.c0
  have cm1 := Fm.out.c1
  have cm2 := Fm.out.c2
  have cm3 := Fm.out.c3
  go_wp2_with fail
  clear Lh ch0 ch1 ch2 ch3 La ca0 ca1 ca2 ca3 Lm cm0 cm1 cm2 cm3
  rw [rounds_succ]
  have Lh := Fh.out.lt
  have ch0 := Fh.out.c0
  have ch1 := Fh.out.c1
  have ch2 := Fh.out.c2
  have ch3 := Fh.out.c3
  have La := Fa.out.lt
  have ca0 := Fa.out.c0
  have ca1 := Fa.out.c1
  have ca2 := Fa.out.c2
  have ca3 := Fa.out.c3
  have Lm := Fm.out.lt
  have cm0 := Fm.out.c0
  have cm1 := Fm.out.c1
  have cm2 := Fm.out.c2
  have cm3 := Fm.out.c3
  go_wp2_with fail
  clear Lh ch0 ch1 ch2 ch3 La ca0 ca1 ca2 ca3 Lm cm0 cm1 cm2 cm3
  refine (HD7.out _).mono ?_
  rintro e v10 ⟨rfl, z10⟩
  have Na := Lib.hid (Fa.out.on z10)
  have Nh := Lib.hid (Fh.out.on z10)
  have Nm := Lib.hid (Fm.out.on z10)
  have No := Lib.hid (Fo.out.on z10)
  have NB := Lib.hid (bel_tr BW.out z10)
  clear BW z10 Fa Fh Fm Fo
  have Fa := Na
  have Fh := Nh
  have Fm := Nm
  have Fo := No
  have BW := NB
  clear NB Na Nh Nm No
  have Lh := Fh.out.lt
  have ch0 := Fh.out.c0
  have ch1 := Fh.out.c1
  have ch2 := Fh.out.c2
  have ch3 := Fh.out.c3
  have La := Fa.out.lt
  have ca0 := Fa.out.c0
  have ca1 := Fa.out.c1
  have ca2 := Fa.out.c2
  have ca3 := Fa.out.c3
  have Lm := Fm.out.lt
  have cm0 := Fm.out.c0
  have cm1 := Fm.out.c1
  have cm2 := Fm.out.c2
  have cm3 := Fm.out.c3
  go_wp2_with fail
  clear Lh ch0 ch1 ch2 ch3 La ca0 ca1 ca2 ca3 Lm cm0 cm1 cm2 cm3
  rw [rounds_succ]
  go_wp2_with fail
  refine (HO.out _).mono ?_
  rintro e v11 ⟨rfl, z11⟩
  have Na := Lib.hid (Fa.out.on z11)
  have Nh := Lib.hid (Fh.out.on z11)
  have Nm := Lib.hid (Fm.out.on z11)
  have No := Lib.hid (Fo.out.on z11)
  have NB := Lib.hid (bel_tr BW.out z11)
  clear BW z11 Fa Fh Fm Fo
  have Fa := Na
  have Fh := Nh
  have Fm := Nm
  have Fo := No
  have BW := NB
  clear NB Na Nh Nm No
  have Lo := Fo.out.lt
  have co0 : v11.cell? ⟨go, 0, none⟩ = some (.int .u64 0) := Fo.out.cell 0
  have co1 : v11.cell? ⟨go, 1, none⟩ = some (.int .u64 0) := Fo.out.cell 1
  have co2 : v11.cell? ⟨go, 2, none⟩ = some (.int .u64 0) := Fo.out.cell 2
  have co3 : v11.cell? ⟨go, 3, none⟩ = some (.int .u64 0) := Fo.out.cell 3
  have fo0 : v11.frozen? ⟨go, 0, none⟩ = false := Fo.out.frozen 0
  have fo1 : v11.frozen? ⟨go, 1, none⟩ = false := Fo.out.frozen 1
  have fo2 : v11.frozen? ⟨go, 2, none⟩ = false := Fo.out.frozen 2
  have fo3 : v11.frozen? ⟨go, 3, none⟩ = false := Fo.out.frozen 3
  go_wp2_with fail
  generalize hW12 : ((((v11.setCell ⟨go, 0, none⟩ (.int .u64 (wd r8 0 : Nat))).setCell ⟨go, 1, none⟩ (.int .u64 (wd r8 1 : Nat))).setCell ⟨go, 2, none⟩ (.int .u64 (wd r8 2 : Nat))).setCell ⟨go, 3, none⟩ (.int .u64 (wd r8 3 : Nat))) = W12 at *
  clear Lo co0 co1 co2 co3 fo0 fo1 fo2 fo3
  have Na_0 := at_of hW12 ((Fa.out).far4 Dao _ _ _ _)
  have Nh_0 := at_of hW12 ((Fh.out).far4 Dho _ _ _ _)
  have Nm_0 := at_of hW12 ((Fm.out).far4 Dmo _ _ _ _)
  have No_0 := at_of hW12 ((Fo.out).put4 _ _ _ _)
  have NB_0 := gr_of hW12 (((((BW.out).setCell Eo _).setCell Eo _).setCell Eo _).setCell Eo _)
  have Na := Na_0
  have Nh := Nh_0
  have Nm := Nm_0
  have No := No_0
  have NB := NB_0
  clear BW Fa Fh Fm Fo Na_0 Nh_0 Nm_0 No_0 NB_0
  clear hW12
  have Fa := Lib.hid Na
  have Fh := Lib.hid Nh
  have Fm := Lib.hid Nm
  have Fo := Lib.hid No
  have BW := Lib.hid NB
  clear NB Na Nh Nm No
  have Lo := Fo.out.lt
  have co0 := Fo.out.c0
  have co1 := Fo.out.c1
  have co2 := Fo.out.c2
  have co3 := Fo.out.c3
  refine bodyPost_ret (v := .tuple #[num r8, .int .i64 0]) (by simp [results, Tryd.results41, go_sem, *]) rfl ⟨rfl, BW.out⟩

theorem word_step (T M j r w : Nat) (hM : 0 < M) (hr : r = T / 18446744073709551616 ^ (j + 1) % M) (hw : w = T / 18446744073709551616 ^ j % 18446744073709551616) : (r * 18446744073709551616 + w) % M = T / 18446744073709551616 ^ j % M := by
  have e : T / 18446744073709551616 ^ j = T / 18446744073709551616 ^ (j + 1) * 18446744073709551616 + w := by
    rw [hw, Nat.pow_succ, ← Nat.div_div_eq_div_mul, Nat.mul_comm _ 18446744073709551616]; exact (Nat.div_add_mod _ _).symm
  rw [e, hr, Nat.add_mod, Nat.mul_mod, Nat.mod_mod, ← Nat.mul_mod, ← Nat.add_mod]
theorem wide_hi (R A k : Nat) (hA : A < 2 ^ 256) : wide R A / 18446744073709551616 ^ (k + 4) % 18446744073709551616 = wd R k := by
  unfold wide wd
  rw [Nat.pow_add, Nat.mul_comm (18446744073709551616 ^ k), ← Nat.div_div_eq_div_mul, show (18446744073709551616 : Nat) ^ 4 = 2 ^ 256 from rfl, Nat.mul_comm R, Nat.mul_add_div (by decide), Nat.div_eq_of_lt hA, Nat.add_zero]
theorem wide_lo (R A k : Nat) (hk : k < 4) : wide R A / 18446744073709551616 ^ k % 18446744073709551616 = wd A k := by
  unfold wide wd
  have e : R * 2 ^ 256 = 18446744073709551616 ^ k * (R * 18446744073709551616 ^ (3 - k) * 18446744073709551616) := by
    rw [show (2 : Nat) ^ 256 = 18446744073709551616 ^ k * (18446744073709551616 ^ (3 - k) * 18446744073709551616) by rw [← Nat.pow_succ, ← Nat.pow_add, show k + (3 - k + 1) = 4 by omega]]
    ac_rfl
  rw [e, Nat.mul_add_div (Nat.pow_pos (by decide)), Nat.add_comm, Nat.add_mul_mod_self_right]
set_option maxHeartbeats 1000000 in
theorem rwide_word (A R M : Nat) (hA : A < 2 ^ 256) (hR : R < 2 ^ 256) (hM : M < 18446744073709551616) (h0 : M ≠ 0) (w : World) :
    Calls Tryd.prog 41 #[num A, num R, num M] w fun e w' => e = .returned (.tuple #[num (wide R A % M), .int .i64 0]) ∧ Below w.heap.size w w' := by
  have hm0 : wd M 0 = M := by unfold wd; rw [Nat.pow_zero, Nat.div_one, Nat.mod_eq_of_lt hM]
  have hM0 : 0 < M := by omega
  obtain ⟨T, hT⟩ : ∃ T, T = wide R A := ⟨_, rfl⟩
  have lt : ∀ x, x % M < M := fun x => Nat.mod_lt _ hM0
  have wl : ∀ x k, wd x k < 18446744073709551616 := fun x k => Nat.mod_lt _ (by decide)
  have top : T / 18446744073709551616 ^ 8 % M = 0 := by
    have : T < 18446744073709551616 ^ 8 := by
      rw [hT]; unfold wide
      have : R * 2 ^ 256 + 2 ^ 256 ≤ 2 ^ 256 * 2 ^ 256 := by rw [← Nat.succ_mul]; exact Nat.mul_le_mul_right _ hR
      have e : (18446744073709551616 : Nat) ^ 8 = 2 ^ 256 * 2 ^ 256 := rfl
      rw [e]; omega
    rw [Nat.div_eq_of_lt this, Nat.zero_mod]
  have hi : ∀ k, wd R k = T / 18446744073709551616 ^ (k + 4) % 18446744073709551616 := fun k => by rw [hT, wide_hi R A k hA]
  have lo : ∀ k, k < 4 → wd A k = T / 18446744073709551616 ^ k % 18446744073709551616 := fun k hk => by rw [hT, wide_lo R A k hk]
  have st : ∀ (j r x : Nat), r = T / 18446744073709551616 ^ (j + 1) % M → x = T / 18446744073709551616 ^ j % 18446744073709551616 → ∀ w, Calls Tryd.prog 58 #[.int .u64 (r : Nat), .int .u64 (x : Nat), .int .u64 (wd M 0 : Nat)] w fun e w' => e = .returned (.tuple #[.int .u64 (((r * 18446744073709551616 + x) / M : Nat) : Int), .int .u64 ((T / 18446744073709551616 ^ j % M : Nat) : Int)]) ∧ Below w.heap.size w w' := fun j r x hr hx w => by
    rw [hm0, ← word_step T M j r x hM0 hr hx]
    exact div64_any r x M (by rw [hr]; exact lt _) hM (by rw [hx]; exact Nat.mod_lt _ (by decide)) w
  have res : wide R A % M = T / 18446744073709551616 ^ 0 % M := by rw [Nat.pow_zero, Nat.div_one, hT]
  rw [res]
  have EW := rword_any M (by omega)
  rw [show decide (M < 18446744073709551616) = true from decide_eq_true hM] at EW
  exact rwide_w A R M _ _ _ _ _ _ _ _ _ _ _ _ _ _ _ _ (fun w => by rw [eqZ M (by omega)]; simp [h0]) EW
    (st 7 0 (wd R 3) top.symm (hi 3)) (st 6 _ (wd R 2) rfl (hi 2)) (st 5 _ (wd R 1) rfl (hi 1)) (st 4 _ (wd R 0) rfl (hi 0)) (st 3 _ (wd A 3) rfl (lo 3 (by decide))) (st 2 _ (wd A 2) rfl (lo 2 (by decide))) (st 1 _ (wd A 1) rfl (lo 1 (by decide))) (st 0 _ (wd A 0) rfl (lo 0 (by decide)))
    (rof1_any _ (Nat.lt_trans (lt _) hM)) w
end Go.Proofs.YtkmjfaaelkmnkaaDoor.Nu
