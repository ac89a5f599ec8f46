/-
  limbs.Of and limbs.Cmp; == of two long numbers.
-/
import Derived.Test.YtmhmdbjjmmmgkaaAdd
namespace Go.Proofs.Ytmhmdbjjmmmgkaa
open Go.RowKit
set_option linter.unusedSimpArgs false
set_option linter.unusedVariables false
attribute [local go_sem ↓] Go.wp_at_zero Go.wp_at_succ

/-- two long numbers, held against each other -/
theorem eqW (a b c d a' b' c' d' : Int) (w : World) : (Op.equalIn 10000 24 (.agg #[.int .u64 a, .int .u64 b, .int .u64 c, .int .u64 d]) (.agg #[.int .u64 a', .int .u64 b', .int .u64 c', .int .u64 d'])).run Try.prog w = .ok (decide (a = a' ∧ b = b' ∧ c = c' ∧ d = d')) w := by
  have u3 := Try.underlying22
  have a3 := Try.isAgg22
  have z3 := Try.sizeOf22
  rw [show (10000 : Nat) = 9999 + 1 from rfl, Op.equalIn]
  simp only [Sem.run_bind, run_underlying Try.underlying24, Result.andThen_ok]
  simp only [Std.Legacy.Range.forIn_eq_forIn_range', Std.Legacy.Range.size, Nat.sub_zero, Nat.add_sub_cancel, Nat.div_one, List.range'_succ, List.range'_zero, List.forIn_cons, List.forIn_nil]
  go_simp
  by_cases h1 : a = a' <;> by_cases h2 : b = b' <;> by_cases h3 : c = c' <;> by_cases h4 : d = d' <;> simp [h1, h2, h3, h4]

theorem eqN (X Y : Nat) (hX : X < 2 ^ 256) (hY : Y < 2 ^ 256) (w : World) : (Op.equalIn 10000 24 (num X) (num Y)).run Try.prog w = .ok (decide (X = Y)) w := by
  rw [eqW]
  congr 1
  rw [decide_eq_decide, ← wd_eq X Y hX hY]
  omega

/-- limbs.Of -/
theorem of_any (x : Nat) (hx : x < 18446744073709551616) (w : World) : Calls Try.prog 54 #[.int .u64 (x : Nat)] w fun e w' => e = .returned (num x) ∧ Below w.heap.size w w' := by
  rw [← num_of x 0 0 0 hx (by omega) (by omega) (by omega) x (by omega)]
  go_enter Try.func54, Try.ntmps54
  go_wp2
  exact bodyPost_ret (v := .agg #[.int .u64 (x : Nat), .int .u64 0, .int .u64 0, .int .u64 0]) (by simp [results, Try.results54, go_sem]) rfl
    ⟨rfl, by repeat (first | exact Below.refl _ _ | refine gr_alloc ?_ _ | refine Below.drew ?_ | refine gr_drewN ?_ _ | refine bel_tr ?_ (by assumption))⟩

/-- what Cmp tells -/
def cmpN (X Y : Nat) : Int := if X < Y then -1 else if X = Y then 0 else 1
theorem cmpN_lt {X Y : Nat} (h : X < Y) : cmpN X Y = -1 := by unfold cmpN; rw [if_pos h]
theorem cmpN_eq (X : Nat) : cmpN X X = 0 := by unfold cmpN; simp
theorem cmpN_gt {X Y : Nat} (h : Y < X) : cmpN X Y = 1 := by unfold cmpN; rw [if_neg (by omega), if_neg (by omega)]

set_option maxHeartbeats 1000000 in
/-- limbs.Cmp -/
theorem cmp_any (X Y : Nat) (hX : X < 2 ^ 256) (hY : Y < 2 ^ 256) (w : World) : Calls Try.prog 27 #[num X, num Y] w fun e w' => e = .returned (.int .i64 (cmpN X Y)) ∧ Below w.heap.size w w' := by
  obtain ⟨S, c, hS, hc, he, C⟩ := sub_ex X Y hX hY
  have C' := Lib.hid C
  rcases Nat.lt_trichotomy X Y with h | h | h
  · rw [cmpN_lt h]
    have h1 : c = 1 := by omega
    subst h1
    have eq : ∀ w, (Op.equalIn 10000 24 (num X) (num Y)).run Try.prog w = .ok false w := fun w => by rw [eqN X Y hX hY]; simp; omega
    clear C he hS hc h
    go_enter Try.func27, Try.ntmps27
    go_wp2_with (first | simp only [eq] | (refine (C'.out _).mono ?_; rintro e w1 ⟨rfl, z1⟩))
    go_ret
    exact ⟨rfl, by repeat (first | exact Below.refl _ _ | refine gr_alloc ?_ _ | refine Below.drew ?_ | refine gr_drewN ?_ _ | refine bel_tr ?_ (by assumption))⟩
  · subst h
    rw [cmpN_eq]
    have eq : ∀ w, (Op.equalIn 10000 24 (num X) (num X)).run Try.prog w = .ok true w := fun w => by rw [eqN X X hX hX]; simp
    go_enter Try.func27, Try.ntmps27
    go_wp2_with (simp only [eq])
    go_ret
    exact ⟨rfl, by repeat (first | exact Below.refl _ _ | refine gr_alloc ?_ _ | refine Below.drew ?_ | refine gr_drewN ?_ _ | refine bel_tr ?_ (by assumption))⟩
  · rw [cmpN_gt h]
    have h1 : c = 0 := by omega
    subst h1
    have eq : ∀ w, (Op.equalIn 10000 24 (num X) (num Y)).run Try.prog w = .ok false w := fun w => by rw [eqN X Y hX hY]; simp; omega
    clear C he hS hc h
    go_enter Try.func27, Try.ntmps27
    go_wp2_with (first | simp only [eq] | (refine (C'.out _).mono ?_; rintro e w1 ⟨rfl, z1⟩))
    go_ret
    exact ⟨rfl, by repeat (first | exact Below.refl _ _ | refine gr_alloc ?_ _ | refine Below.drew ?_ | refine gr_drewN ?_ _ | refine bel_tr ?_ (by assumption))⟩
end Go.Proofs.Ytmhmdbjjmmmgkaa
