import Derived.Lib.BitFns
import Derived.Laws.MathBits
import Derived.Test.YtodlpmepoakdlaaGreatMMulW
namespace Go.Proofs.YtodlpmepoakdlaaGreat
set_option maxRecDepth 100000
open Go.RowKit
set_option linter.unusedSimpArgs false
set_option linter.unusedVariables false

def shN (X : Nat) (n : Int) : Nat := if 0 ≤ n then X * 2 ^ n.toNat % 2 ^ 256 else X / 2 ^ (-n).toNat
def tb (X : Nat) (k : Int) : Bool := decide (0 ≤ k) && X.testBit k.toNat

theorem Jec (X i j : Nat) : (wd X i).testBit j = (decide (j < 64) && X.testBit (64 * i + j)) := by
 unfold wd
 rw [Jeu, show (18446744073709551616 : Nat) = 2 ^ 64 by decide, Nat.testBit_mod_two_pow, Nat.testBit_div_two_pow]
 rw [Nat.add_comm]
theorem wi_tb (X : Nat) (y : Int) (j : Nat) : (wi X y).testBit j = (decide (j < 64) && tb X (64 * y + j)) := by
 unfold wi tb
 by_cases h : y < 0
 ·rw [if_pos h, Nat.zero_testBit]
  by_cases hj : j < 64
  ·have : ¬ 0 ≤ 64 * y + (j : Int) := by omega
   simp [this]
  ·simp [hj]
 ·rw [if_neg h, Jec]
  by_cases hj : j < 64
  ·have h1 : 0 ≤ 64 * y + (j : Int) := by omega
   have h2 : 64 * y.toNat + j = (64 * y + (j : Int)).toNat := by omega
   simp [h1, h2]
  ·simp [hj]
theorem sh_tb (X : Nat) (hX : X < 2 ^ 256) (n : Int) (m : Nat) : (shN X n).testBit m = (decide (m < 256) && tb X (m - n)) := by
 unfold shN tb
 by_cases h : 0 ≤ n
 ·rw [if_pos h, Nat.testBit_mod_two_pow, Nat.testBit_mul_two_pow]
  by_cases h1 : n.toNat ≤ m
  ·have h2 : 0 ≤ (m : Int) - n := by omega
   have h3 : ((m : Int) - n).toNat = m - n.toNat := by omega
   rw [decide_eq_true h2, decide_eq_true h1, h3]
  ·have h2 : ¬ 0 ≤ (m : Int) - n := by omega
   rw [decide_eq_false h2, decide_eq_false h1]; simp
 ·rw [if_neg h, Nat.testBit_div_two_pow]
  have h2 : 0 ≤ (m : Int) - n := by omega
  have h3 : ((m : Int) - n).toNat = m + (-n).toNat := by omega
  by_cases h1 : m < 256
  ·rw [decide_eq_true h2, decide_eq_true h1, h3]; simp
  ·have h4 : X.testBit (m + (-n).toNat) = false := Nat.testBit_lt_two_pow (Nat.lt_of_lt_of_le hX (Nat.pow_le_pow_right (by decide) (by omega)))
   simp [h1, h4]
theorem sh_lt (X : Nat) (hX : X < 2 ^ 256) (n : Int) : shN X n < 2 ^ 256 := by
 unfold shN
 split
 ·exact Nat.mod_lt _ (by decide)
 ·exact Nat.lt_of_le_of_lt (Nat.div_le_self _ _) hX

theorem Jcn (X : Nat) (hX : X < 2 ^ 256) (n q : Int) (p r k : Nat) (y y' : Int) (hk : k < 4) (hn : n = 64 * q + p) (hp : p < 64) (hr : r = 64 - p) (hy : y = k - q) (hy' : y' = k - q - 1) :
  bits .or .u64 (IntKind.u64.wrap ((wi X y : Nat) * 2 ^ p)) ((wi X y' : Nat) / 2 ^ r) = (wd (shN X n) k : Nat) := by
 have e1 : IntKind.u64.wrap ((wi X y : Nat) * 2 ^ p) = ((wi X y * 2 ^ p % 2 ^ 64 : Nat) : Int) := by
  rw [IntKind.wrap_u64]; simp
 have e2 : ((wi X y' : Nat) : Int) / 2 ^ r = ((wi X y' / 2 ^ r : Nat) : Int) := by simp
 rw [e1, e2, bits_or_u64_nat _ _ (Nat.mod_lt _ (by decide)) (Nat.lt_of_le_of_lt (Nat.div_le_self _ _) (wi_lt _ _))]
 congr 1
 refine Nat.eq_of_testBit_eq fun j => ?_
 rw [Nat.testBit_or, show (18446744073709551616 : Nat) = 2 ^ 64 by decide, Nat.testBit_mod_two_pow, Nat.testBit_mul_two_pow, Nat.testBit_div_two_pow, wi_tb, wi_tb, Jec, sh_tb X hX]
 by_cases hj : j < 64
 ·have h256 : 64 * k + j < 256 := by omega
  by_cases hpj : p ≤ j
  ·have g1 : j - p < 64 := by omega
   have g2 : ¬ j + r < 64 := by omega
   have g3 : 64 * y + ((j - p : Nat) : Int) = ((64 * k + j : Nat) : Int) - n := by omega
   simp only [hj, hpj, g1, g2, g3, h256]; simp
  ·have g2 : j + r < 64 := by omega
   have g3 : 64 * y' + ((j + r : Nat) : Int) = ((64 * k + j : Nat) : Int) - n := by omega
   simp only [hj, hpj, g2, g3, h256]; simp
 ·have g2 : ¬ j + r < 64 := by omega
  simp [hj, g2]

theorem shift_any (X : Nat) (hX : X < 2 ^ 256) (n : Int) (hn : -9223372036854775808 ≤ n) (hn' : n ≤ 9223372036854775807) (w : World) :
  Calls Tryz.prog 83 #[num X, .int .i64 n] w fun e w' => e = .returned (num (shN X n)) ∧ Below w.heap.size w w' := by
 obtain ⟨p, hp⟩ : ∃ p : Nat, n % 64 = p := ⟨(n % 64).toNat, by omega⟩
 have e : n = 64 * (n / 64) + p := by omega
 have wr : ∀ x : Int, -9223372036854775808 ≤ x → x ≤ 9223372036854775807 → IntKind.i64.wrap x = x := fun x h1 h2 => by rw [IntKind.wrap_i64]; omega
 refine shift_words X hX n (n / 64) (0 - n / 64 - 1) (0 - n / 64) (1 - n / 64) (2 - n / 64) (3 - n / 64) p (64 - p) rfl (by rw [and63, hp]) (by omega) (by rw [wr _ (by omega) (by omega)]; omega) (by omega)
  (by rw [wr _ (by omega) (by omega)]; omega) (wr _ (by omega) (by omega)) (wr _ (by omega) (by omega)) (wr _ (by omega) (by omega))
  (wr _ (by omega) (by omega)) (by rw [wr _ (by omega) (by omega)]; omega) (by rw [wr _ (by omega) (by omega)]; omega) (by rw [wr _ (by omega) (by omega)]; omega) _ _ _ _
  (Jcn X hX n _ p _ 0 _ _ (by omega) e (by omega) rfl (by omega) (by omega)) (Jcn X hX n _ p _ 1 _ _ (by omega) e (by omega) rfl (by omega) (by omega))
  (Jcn X hX n _ p _ 2 _ _ (by omega) e (by omega) rfl (by omega) (by omega)) (Jcn X hX n _ p _ 3 _ _ (by omega) e (by omega) rfl (by omega) (by omega)) w
theorem Xc (X Y : Nat) (hX : X < 2 ^ 256) (hY : Y < 2 ^ 256) : ∃ L H : Nat, L < 2 ^ 256 ∧ H < 2 ^ 256 ∧ X * Y = L + 2 ^ 256 * H ∧
  ∀ w, Calls Tryz.prog 60 #[num X, num Y] w fun e w' => e = .returned (.tuple #[num L, num H]) ∧ Below w.heap.size w w' := by
 refine ⟨X * Y % 2 ^ 256, X * Y / 2 ^ 256, Nat.mod_lt _ (by decide), ?_, by omega, fun w => (mul_words X Y hX hY w).mono ?_⟩
 ·have : X * Y < 2 ^ 256 * 2 ^ 256 := Nat.mul_lt_mul'' hX hY
  exact Nat.div_lt_of_lt_mul this
 rintro e w' ⟨L, hl, hb, hv, rfl, bel⟩
 match L, hl with
 | [l0, l1, l2, l3, l4, l5, l6, l7], _ =>
  simp only [List.mem_cons, List.not_mem_nil, or_false, forall_eq_or_imp, forall_eq] at hb
  obtain ⟨h0, h1, h2, h3, h4, h5, h6, h7⟩ := hb
  simp only [lv, Nat.mul_zero, Nat.add_zero] at hv
  generalize X * Y = P at *
  refine ⟨?_, bel⟩
  have e1 : (.agg (ws ([l0, l1, l2, l3, l4, l5, l6, l7].take 4)) : Value) = num (P % 2 ^ 256) := Jbf l0 l1 l2 l3 h0 h1 h2 h3 _ (by omega)
  have e2 : (.agg (ws ([l0, l1, l2, l3, l4, l5, l6, l7].drop 4)) : Value) = num (P / 2 ^ 256) := Jbf l4 l5 l6 l7 h4 h5 h6 h7 _ (by omega)
  rw [e1, e2]
theorem Xj (x y : Int) (k : Nat) (h0 : 0 ≤ x) (hx : x < 18446744073709551616) (hk : k ≤ 56) (hy : y.toNat = x.toNat / 2 ^ k) (hy0 : 0 ≤ y) (hy1 : y ≤ 255) (h : k = 0 ∨ 1 ≤ y) : (k : Int) + Lib.len8 y = Lib.bitLen x.toNat ∧ 0 ≤ Lib.len8 y ∧ Lib.len8 y ≤ 8 := by
 have l := Lib.bitLen_le8' y hy0 hy1
 rw [Lib.len8_of y hy0 hy1]
 refine ⟨?_, by omega, by omega⟩
 rw [hy]
 rcases h with rfl | h
 ·simp
 ·have hp : 0 < 2 ^ k := Nat.two_pow_pos k
  have h1 : 2 ^ k ≤ x.toNat := (Nat.one_le_div_iff hp).1 (by omega)
  rw [Lib.bitLen_shift k x.toNat h1 (by omega)]
  simp

set_option maxRecDepth 100000 in
theorem Jek (x : Int) (h0 : 0 ≤ x) (hx : x < 18446744073709551616) (w : World) : Calls Tryz.prog 93 #[.int .u64 x] w fun e w' => e = .returned (.int .i64 (Lib.bitLen x.toNat)) ∧ w' = w := by
 by_cases c1 : 4294967296 ≤ x
 ·obtain ⟨x1, g1⟩ : ∃ x1, x / 4294967296 = x1 := ⟨_, rfl⟩
  by_cases c2 : 65536 ≤ x1
  ·obtain ⟨x2, g2⟩ : ∃ x2, x1 / 65536 = x2 := ⟨_, rfl⟩
   by_cases c3 : 256 ≤ x2
   ·obtain ⟨x3, g3⟩ : ∃ x3, x2 / 256 = x3 := ⟨_, rfl⟩
    have q0 : 0 ≤ x3 := by omega
    have q1 : x3 ≤ 255 := by omega
    have q2 : x3.toNat = x.toNat / 2 ^ 56 := by rw [show (2 : Nat) ^ 56 = 72057594037927936 by decide]; omega
    obtain ⟨e1, e2, e3⟩ := Xj x x3 56 h0 hx (by omega) q2 q0 q1 (by omega)
    generalize hL : Lib.len8 x3 = t at *
    have HE := Jfg e1
    clear q2 e1 hx
    go_enter Tryz.func93, Tryz.ntmps93
    go_wp2
    go_ret
    refine ⟨congrArg Ending.returned (congrArg (Value.int IntKind.i64) ?_), rfl⟩
    rw [← HE.out]
    first | omega | (unfold wrap64; omega)
   ·have d3 : x2 < 256 := by omega
    clear c3
    have q0 : 0 ≤ x2 := by omega
    have q1 : x2 ≤ 255 := by omega
    have q2 : x2.toNat = x.toNat / 2 ^ 48 := by rw [show (2 : Nat) ^ 48 = 281474976710656 by decide]; omega
    obtain ⟨e1, e2, e3⟩ := Xj x x2 48 h0 hx (by omega) q2 q0 q1 (by omega)
    generalize hL : Lib.len8 x2 = t at *
    have HE := Jfg e1
    clear q2 e1 hx
    go_enter Tryz.func93, Tryz.ntmps93
    go_wp2
    go_ret
    refine ⟨congrArg Ending.returned (congrArg (Value.int IntKind.i64) ?_), rfl⟩
    rw [← HE.out]
    first | omega | (unfold wrap64; omega)
  ·have d2 : x1 < 65536 := by omega
   clear c2
   by_cases c3 : 256 ≤ x1
   ·obtain ⟨x3, g3⟩ : ∃ x3, x1 / 256 = x3 := ⟨_, rfl⟩
    have q0 : 0 ≤ x3 := by omega
    have q1 : x3 ≤ 255 := by omega
    have q2 : x3.toNat = x.toNat / 2 ^ 40 := by rw [show (2 : Nat) ^ 40 = 1099511627776 by decide]; omega
    obtain ⟨e1, e2, e3⟩ := Xj x x3 40 h0 hx (by omega) q2 q0 q1 (by omega)
    generalize hL : Lib.len8 x3 = t at *
    have HE := Jfg e1
    clear q2 e1 hx
    go_enter Tryz.func93, Tryz.ntmps93
    go_wp2
    go_ret
    refine ⟨congrArg Ending.returned (congrArg (Value.int IntKind.i64) ?_), rfl⟩
    rw [← HE.out]
    first | omega | (unfold wrap64; omega)
   ·have d3 : x1 < 256 := by omega
    clear c3
    have q0 : 0 ≤ x1 := by omega
    have q1 : x1 ≤ 255 := by omega
    have q2 : x1.toNat = x.toNat / 2 ^ 32 := by rw [show (2 : Nat) ^ 32 = 4294967296 by decide]; omega
    obtain ⟨e1, e2, e3⟩ := Xj x x1 32 h0 hx (by omega) q2 q0 q1 (by omega)
    generalize hL : Lib.len8 x1 = t at *
    have HE := Jfg e1
    clear q2 e1 hx
    go_enter Tryz.func93, Tryz.ntmps93
    go_wp2
    go_ret
    refine ⟨congrArg Ending.returned (congrArg (Value.int IntKind.i64) ?_), rfl⟩
    rw [← HE.out]
    first | omega | (unfold wrap64; omega)
 ·have d1 : x < 4294967296 := by omega
  clear c1
  by_cases c2 : 65536 ≤ x
  ·obtain ⟨x2, g2⟩ : ∃ x2, x / 65536 = x2 := ⟨_, rfl⟩
   by_cases c3 : 256 ≤ x2
   ·obtain ⟨x3, g3⟩ : ∃ x3, x2 / 256 = x3 := ⟨_, rfl⟩
    have q0 : 0 ≤ x3 := by omega
    have q1 : x3 ≤ 255 := by omega
    have q2 : x3.toNat = x.toNat / 2 ^ 24 := by rw [show (2 : Nat) ^ 24 = 16777216 by decide]; omega
    obtain ⟨e1, e2, e3⟩ := Xj x x3 24 h0 hx (by omega) q2 q0 q1 (by omega)
    generalize hL : Lib.len8 x3 = t at *
    have HE := Jfg e1
    clear q2 e1 hx
    go_enter Tryz.func93, Tryz.ntmps93
    go_wp2
    go_ret
    refine ⟨congrArg Ending.returned (congrArg (Value.int IntKind.i64) ?_), rfl⟩
    rw [← HE.out]
    first | omega | (unfold wrap64; omega)
   ·have d3 : x2 < 256 := by omega
    clear c3
    have q0 : 0 ≤ x2 := by omega
    have q1 : x2 ≤ 255 := by omega
    have q2 : x2.toNat = x.toNat / 2 ^ 16 := by rw [show (2 : Nat) ^ 16 = 65536 by decide]; omega
    obtain ⟨e1, e2, e3⟩ := Xj x x2 16 h0 hx (by omega) q2 q0 q1 (by omega)
    generalize hL : Lib.len8 x2 = t at *
    have HE := Jfg e1
    clear q2 e1 hx
    go_enter Tryz.func93, Tryz.ntmps93
    go_wp2
    go_ret
    refine ⟨congrArg Ending.returned (congrArg (Value.int IntKind.i64) ?_), rfl⟩
    rw [← HE.out]
    first | omega | (unfold wrap64; omega)
  ·have d2 : x < 65536 := by omega
   clear c2
   by_cases c3 : 256 ≤ x
   ·obtain ⟨x3, g3⟩ : ∃ x3, x / 256 = x3 := ⟨_, rfl⟩
    have q0 : 0 ≤ x3 := by omega
    have q1 : x3 ≤ 255 := by omega
    have q2 : x3.toNat = x.toNat / 2 ^ 8 := by rw [show (2 : Nat) ^ 8 = 256 by decide]; omega
    obtain ⟨e1, e2, e3⟩ := Xj x x3 8 h0 hx (by omega) q2 q0 q1 (by omega)
    generalize hL : Lib.len8 x3 = t at *
    have HE := Jfg e1
    clear q2 e1 hx
    go_enter Tryz.func93, Tryz.ntmps93
    go_wp2
    go_ret
    refine ⟨congrArg Ending.returned (congrArg (Value.int IntKind.i64) ?_), rfl⟩
    rw [← HE.out]
    first | omega | (unfold wrap64; omega)
   ·have d3 : x < 256 := by omega
    clear c3
    have q0 : 0 ≤ x := by omega
    have q1 : x ≤ 255 := by omega
    have q2 : x.toNat = x.toNat / 2 ^ 0 := by simp
    obtain ⟨e1, e2, e3⟩ := Xj x x 0 h0 hx (by omega) q2 q0 q1 (by omega)
    generalize hL : Lib.len8 x = t at *
    have HE := Jfg e1
    clear q2 e1 hx
    go_enter Tryz.func93, Tryz.ntmps93
    go_wp2
    go_ret
    refine ⟨congrArg Ending.returned (congrArg (Value.int IntKind.i64) ?_), rfl⟩
    rw [← HE.out]
    first | omega | (unfold wrap64; omega)
theorem Vp : ∀ x : Nat, x < 2 ^ 64 → Lib.bitLen x = Go.bitLen x := by
 intro x
 induction x using Nat.strongRecOn with
 | _ x ih =>
  intro hx
  by_cases h0 : x = 0
  ·subst h0; decide
  ·rw [Lib.bitLen_half x h0 hx, ih (x / 2) (by omega) (by omega)]
   by_cases h1 : x / 2 = 0
   ·have : x = 1 := by omega
    subst this; decide
   ·have := Go.bitLen_shift x 1 (by simpa using h1)
    simpa using this.symm

theorem Jdb (X j : Nat) (hj : j < 4) (hX : X / 18446744073709551616 ^ (j + 1) = 0) (h : wd X j ≠ 0) : (64 * j + Lib.bitLen (wd X j) : Nat) = Go.bitLen X := by
 have e : wd X j = X / 2 ^ (64 * j) := by
  unfold wd
  rw [Jeu] at *
  refine Nat.mod_eq_of_lt ?_
  have : X / 2 ^ (64 * j) / 18446744073709551616 = 0 := by
   rw [Nat.div_div_eq_div_mul, show (18446744073709551616 : Nat) = 2 ^ 64 by decide, ← Nat.pow_add]
   exact hX
  omega
 rw [Vp _ (by have := Kw X j; omega), e, ← Go.bitLen_shift X (64 * j) (by rw [← e]; exact h)]

theorem bits_3 (a0 a1 a2 a3 : Nat) (w : World) (h : a3 ≠ 0) (hl : a3 < 18446744073709551616) :
  Calls Tryz.prog 76 #[.agg #[.int .u64 a0, .int .u64 a1, .int .u64 a2, .int .u64 a3]] w fun e w' => e = .returned (.int .i64 ((192 + Lib.bitLen a3 : Nat) : Int)) ∧ Below w.heap.size w w' := by
 have C := fun w => Jek (a3 : Int) (by omega) (by omega) w
 simp only [Int.toNat_natCast] at C
 have hne : ((a3 : Int) != 0) = true := by simp; omega
 have hr : Lib.bitLen a3 ≤ 64 := by
  rw [Vp _ (by omega)]
  unfold Go.bitLen
  split
  ·omega
  ·have := (Nat.log2_lt h).2 (show a3 < 2 ^ 64 by omega); omega
 generalize Lib.bitLen a3 = t at *
 go_enter Tryz.func76, Tryz.ntmps76
 go_wp2
 refine wp_loop_rounds 6 ?_
 rw [rounds_succ]
 go_wp2_with (refine (C _).mono ?_; rintro e w1 ⟨rfl, rfl⟩)
 go_ret
 exact ⟨congrArg Ending.returned (congrArg (Value.int IntKind.i64) (by go_num)), by repeat (first | exact Below.refl _ _ | refine gr_alloc ?_ _ | refine Below.drew ?_ | refine Ue ?_ _ | refine bel_tr ?_ (by assumption))⟩

theorem bits_2 (a0 a1 a2 : Nat) (w : World) (h : a2 ≠ 0) (hl : a2 < 18446744073709551616) :
  Calls Tryz.prog 76 #[.agg #[.int .u64 a0, .int .u64 a1, .int .u64 a2, .int .u64 0]] w fun e w' => e = .returned (.int .i64 ((128 + Lib.bitLen a2 : Nat) : Int)) ∧ Below w.heap.size w w' := by
 have C := fun w => Jek (a2 : Int) (by omega) (by omega) w
 simp only [Int.toNat_natCast] at C
 have hne : ((a2 : Int) != 0) = true := by simp; omega
 have hr : Lib.bitLen a2 ≤ 64 := by
  rw [Vp _ (by omega)]
  unfold Go.bitLen
  split
  ·omega
  ·have := (Nat.log2_lt h).2 (show a2 < 2 ^ 64 by omega); omega
 generalize Lib.bitLen a2 = t at *
 go_enter Tryz.func76, Tryz.ntmps76
 go_wp2
 refine wp_loop_rounds 6 ?_
 rw [rounds_succ]
 go_wp2
 rw [rounds_succ]
 go_wp2_with (refine (C _).mono ?_; rintro e w1 ⟨rfl, rfl⟩)
 go_ret
 exact ⟨congrArg Ending.returned (congrArg (Value.int IntKind.i64) (by go_num)), by repeat (first | exact Below.refl _ _ | refine gr_alloc ?_ _ | refine Below.drew ?_ | refine Ue ?_ _ | refine bel_tr ?_ (by assumption))⟩

theorem bits_1 (a0 a1 : Nat) (w : World) (h : a1 ≠ 0) (hl : a1 < 18446744073709551616) :
  Calls Tryz.prog 76 #[.agg #[.int .u64 a0, .int .u64 a1, .int .u64 0, .int .u64 0]] w fun e w' => e = .returned (.int .i64 ((64 + Lib.bitLen a1 : Nat) : Int)) ∧ Below w.heap.size w w' := by
 have C := fun w => Jek (a1 : Int) (by omega) (by omega) w
 simp only [Int.toNat_natCast] at C
 have hne : ((a1 : Int) != 0) = true := by simp; omega
 have hr : Lib.bitLen a1 ≤ 64 := by
  rw [Vp _ (by omega)]
  unfold Go.bitLen
  split
  ·omega
  ·have := (Nat.log2_lt h).2 (show a1 < 2 ^ 64 by omega); omega
 generalize Lib.bitLen a1 = t at *
 go_enter Tryz.func76, Tryz.ntmps76
 go_wp2
 refine wp_loop_rounds 6 ?_
 rw [rounds_succ]
 go_wp2
 rw [rounds_succ]
 go_wp2
 rw [rounds_succ]
 go_wp2_with (refine (C _).mono ?_; rintro e w1 ⟨rfl, rfl⟩)
 go_ret
 exact ⟨congrArg Ending.returned (congrArg (Value.int IntKind.i64) (by go_num)), by repeat (first | exact Below.refl _ _ | refine gr_alloc ?_ _ | refine Below.drew ?_ | refine Ue ?_ _ | refine bel_tr ?_ (by assumption))⟩

theorem bits_0 (a0 : Nat) (w : World) (h : a0 ≠ 0) (hl : a0 < 18446744073709551616) :
  Calls Tryz.prog 76 #[.agg #[.int .u64 a0, .int .u64 0, .int .u64 0, .int .u64 0]] w fun e w' => e = .returned (.int .i64 ((0 + Lib.bitLen a0 : Nat) : Int)) ∧ Below w.heap.size w w' := by
 have C := fun w => Jek (a0 : Int) (by omega) (by omega) w
 simp only [Int.toNat_natCast] at C
 have hne : ((a0 : Int) != 0) = true := by simp; omega
 have hr : Lib.bitLen a0 ≤ 64 := by
  rw [Vp _ (by omega)]
  unfold Go.bitLen
  split
  ·omega
  ·have := (Nat.log2_lt h).2 (show a0 < 2 ^ 64 by omega); omega
 generalize Lib.bitLen a0 = t at *
 go_enter Tryz.func76, Tryz.ntmps76
 go_wp2
 refine wp_loop_rounds 6 ?_
 rw [rounds_succ]
 go_wp2
 rw [rounds_succ]
 go_wp2
 rw [rounds_succ]
 go_wp2
 rw [rounds_succ]
 go_wp2_with (refine (C _).mono ?_; rintro e w1 ⟨rfl, rfl⟩)
 go_ret
 exact ⟨congrArg Ending.returned (congrArg (Value.int IntKind.i64) (by go_num)), by repeat (first | exact Below.refl _ _ | refine gr_alloc ?_ _ | refine Below.drew ?_ | refine Ue ?_ _ | refine bel_tr ?_ (by assumption))⟩

theorem bits_none (w : World) : Calls Tryz.prog 76 #[.agg #[.int .u64 0, .int .u64 0, .int .u64 0, .int .u64 0]] w fun e w' => e = .returned (.int .i64 0) ∧ Below w.heap.size w w' := by
 go_enter Tryz.func76, Tryz.ntmps76
 go_wp2
 refine wp_loop_rounds 6 ?_
 rw [rounds_succ]
 go_wp2
 rw [rounds_succ]
 go_wp2
 rw [rounds_succ]
 go_wp2
 rw [rounds_succ]
 go_wp2
 rw [rounds_succ]
 go_wp2
 go_ret
 exact ⟨rfl, by repeat (first | exact Below.refl _ _ | refine gr_alloc ?_ _ | refine Below.drew ?_ | refine Ue ?_ _ | refine bel_tr ?_ (by assumption))⟩

theorem Jax (X : Nat) (hX : X < 2 ^ 256) (w : World) : Calls Tryz.prog 76 #[num X] w fun e w' => e = .returned (.int .i64 (Go.bitLen X : Nat)) ∧ Below w.heap.size w w' := by
 have hs := Xd X hX
 unfold num
 by_cases h3 : wd X 3 = 0
 ·rw [h3]
  by_cases h2 : wd X 2 = 0
  ·rw [h2]
   by_cases h1 : wd X 1 = 0
   ·rw [h1]
    by_cases h0 : wd X 0 = 0
    ·rw [h0]
     have : X = 0 := by omega
     subst this
     exact bits_none w
    ·rw [← Jdb X 0 (by omega) (Nat.div_eq_of_lt (by have := Kw X 0; omega)) h0]
     exact bits_0 _ w h0 (Kw _ _)
   ·rw [← Jdb X 1 (by omega) (Nat.div_eq_of_lt (by have := Kw X 0; have := Kw X 1; omega)) h1]
    exact bits_1 _ _ w h1 (Kw _ _)
  ·rw [← Jdb X 2 (by omega) (Nat.div_eq_of_lt (by have := Kw X 0; have := Kw X 1; have := Kw X 2; omega)) h2]
   exact bits_2 _ _ _ w h2 (Kw _ _)
 ·rw [← Jdb X 3 (by omega) (Nat.div_eq_of_lt (by omega)) h3]
  exact bits_3 _ _ _ _ w h3 (Kw _ _)
theorem eqY (X : Nat) (w : World) : (Op.equalIn 10000 24 (num X) (num X)).run Tryz.prog w = .ok true w := by rw [eqW]; simp
theorem bt_tb (X : Nat) (i : Nat) : bt X (i : Int) = (if X.testBit i then 1 else 0) := by
 unfold bt
 rw [if_neg (by omega), Int.toNat_natCast, Nat.testBit_eq_decide_div_mod_eq]
 by_cases h : X / 2 ^ i % 2 = 1
 ·simp [h]
 ·have : X / 2 ^ i % 2 = 0 := by omega
  simp [this]
theorem lz_any (x s : Nat) (hx : x < 18446744073709551616) (hs : s + Go.bitLen x = 64) (w : World) : Calls Tryz.prog 79 #[.int .u64 (x : Nat)] w fun e w' => e = .returned (.int .i64 (s : Nat)) ∧ w' = w := by
 have C := Jek (x : Int) (by omega) (by omega)
 have hb : Lib.bitLen ((x : Int)).toNat = (Go.bitLen x : Nat) := by rw [Int.toNat_natCast, Vp x (by omega)]
 rw [hb] at C
 obtain ⟨m, hm⟩ : ∃ m, Go.bitLen x = m := ⟨_, rfl⟩
 rw [hm] at C hs
 have HC := Jfg C
 clear C hb hm
 go_enter Tryz.func79, Tryz.ntmps79
 go_wp2_with fail
 refine (HC.out _).mono ?_
 rintro e v ⟨rfl, rfl⟩
 have e1 : (64 : Int) - (m : Int) = (s : Nat) := by omega
 go_wp2_with fail
 go_ret
 first | exact ⟨rfl, rfl⟩ | (refine ⟨congrArg Ending.returned (congrArg (Value.int IntKind.i64) ?_), rfl⟩; omega)
end Go.Proofs.YtodlpmepoakdlaaGreat
