/-
  limbs.word, limbs.Bit.
-/
import Derived.Laws.BitsLemmas
import Derived.Test.YtodlpmepoakdlaaWPut
namespace Go.Proofs.Ytodlpmepoakdlaa
set_option maxRecDepth 100000
open Go.RowKit
set_option linter.unusedSimpArgs false
set_option linter.unusedVariables false
attribute [local go_sem ↓] Go.wp_at_zero Go.wp_at_succ

/-- limbs.word: there is none -/
theorem word_none (X : Nat) (i : Int) (h : i < 0 ∨ 4 ≤ i) (w : World) : Calls Try.prog 64 #[num X, .int .i64 i] w fun e w' => e = .returned (.int .u64 0) ∧ w' = w.alloc (.cells #[.int .u64 (wd X 0 : Nat), .int .u64 (wd X 1 : Nat), .int .u64 (wd X 2 : Nat), .int .u64 (wd X 3 : Nat)] 24) := by
  by_cases h0 : i < 0
  · go_enter Try.func64, Try.ntmps64
    go_wp2
    go_ret
    exact ⟨rfl, rfl⟩
  · have h1 : 4 ≤ i := by omega
    have h2 : ¬ i < 0 := h0
    go_enter Try.func64, Try.ntmps64
    go_wp2
    go_ret
    exact ⟨rfl, rfl⟩

/-- limbs.word -/
theorem word_one (X : Nat) (i : Nat) (h : i < 4) (w : World) : Calls Try.prog 64 #[num X, .int .i64 (i : Int)] w fun e w' => e = .returned (.int .u64 (wd X i : Nat)) ∧ w' = w.alloc (.cells #[.int .u64 (wd X 0 : Nat), .int .u64 (wd X 1 : Nat), .int .u64 (wd X 2 : Nat), .int .u64 (wd X 3 : Nat)] 24) := by
  match i, h with
  | 0, _ | 1, _ | 2, _ | 3, _ =>
    go_enter Try.func64, Try.ntmps64
    go_wp2
    go_ret
    exact ⟨rfl, rfl⟩

/-- word i of X, 0 where there is none -/
def wi (X : Nat) (i : Int) : Nat := if i < 0 then 0 else wd X i.toNat
theorem word_any (X : Nat) (hX : X < 2 ^ 256) (i : Int) (w : World) : Calls Try.prog 64 #[num X, .int .i64 i] w fun e w' => e = .returned (.int .u64 (wi X i : Nat)) ∧ w' = w.alloc (.cells #[.int .u64 (wd X 0 : Nat), .int .u64 (wd X 1 : Nat), .int .u64 (wd X 2 : Nat), .int .u64 (wd X 3 : Nat)] 24) := by
  unfold wi
  by_cases h0 : i < 0
  · rw [if_pos h0]; exact word_none X i (Or.inl h0) w
  rw [if_neg h0]
  obtain ⟨n, rfl⟩ : ∃ n : Nat, i = n := ⟨i.toNat, by omega⟩
  by_cases h4 : n < 4
  · exact word_one X n h4 w
  · have e : wd X (n : Int).toNat = 0 := by
      have h : X < 18446744073709551616 ^ n := Nat.lt_of_lt_of_le (show X < 18446744073709551616 ^ 4 by omega) (Nat.pow_le_pow_right (by decide) (by omega))
      unfold wd
      rw [Int.toNat_natCast, Nat.div_eq_of_lt h]
    rw [e]; exact word_none X n (Or.inr (by omega)) w
end Go.Proofs.Ytodlpmepoakdlaa

/-
  limbs.Bit.
-/
namespace Go.Proofs.Ytodlpmepoakdlaa
set_option maxRecDepth 100000
open Go.RowKit
set_option linter.unusedSimpArgs false
set_option linter.unusedVariables false
attribute [local go_sem ↓] Go.wp_at_zero Go.wp_at_succ

theorem and63 (n : Int) : bits .and .i64 n 63 = n % 64 := by
  have h63 : (BitVec.ofInt 64 63).toNat = 2 ^ 6 - 1 := by decide
  have key : (BitVec.ofInt 64 n &&& BitVec.ofInt 64 63).toNat = (n % ((2 ^ 64 : Nat) : Int)).toNat % 2 ^ 6 := by
    rw [BitVec.toNat_and, BitVec.toNat_ofInt, h63, Nat.and_two_pow_sub_one_eq_mod]
  show IntKind.i64.wrap ((BitVec.ofInt 64 n &&& BitVec.ofInt 64 63).toNat : Nat) = n % 64
  rw [key, IntKind.wrap_i64]
  omega
theorem and1 (a : Nat) (ha : a < 18446744073709551616) : bits .and .u64 (a : Int) 1 = ((a % 2 : Nat) : Int) := by
  have h := bits_and_u64_nat a 1 ha (by omega)
  have e : a &&& 1 = a % 2 := Nat.and_two_pow_sub_one_eq_mod a 1
  rw [e] at h
  exact h

/-- bit i of X, 0 where there is none -/
def bt (X : Nat) (i : Int) : Nat := if i < 0 then 0 else X / 2 ^ i.toNat % 2
theorem B_pow (q : Nat) : 18446744073709551616 ^ q = 2 ^ (64 * q) := by rw [Nat.pow_mul]
theorem wd_bit (X q j : Nat) (h : j < 64) : wd X q / 2 ^ j % 2 = X / 2 ^ (64 * q + j) % 2 := by
  unfold wd
  have e : (18446744073709551616 : Nat) = 2 ^ j * 2 ^ (64 - j) := by rw [← Nat.pow_add, show j + (64 - j) = 64 by omega]
  rw [B_pow]
  conv => lhs; arg 1; arg 1; arg 2; rw [e]
  rw [Nat.mod_mul_right_div_self, Nat.mod_mod_of_dvd _ (Nat.dvd_trans (by decide) (Nat.pow_dvd_pow 2 (show 1 ≤ 64 - j by omega))), Nat.div_div_eq_div_mul, ← Nat.pow_add]
theorem bt_wi (X j : Nat) (i : Int) (h : i % 64 = j) : wi X (i / 64) / 2 ^ j % 2 = bt X i := by
  unfold wi bt
  by_cases h0 : i < 0
  · rw [if_pos h0, if_pos (by omega)]; simp
  · rw [if_neg h0, if_neg (by omega), wd_bit X _ j (by omega)]
    congr 3
    omega
theorem wi_lt (X : Nat) (i : Int) : wi X i < 18446744073709551616 := by
  unfold wi; split
  · omega
  · exact wd_lt _ _

theorem bit_any (X : Nat) (hX : X < 2 ^ 256) (i : Int) (w : World) : Calls Try.prog 44 #[num X, .int .i64 i] w fun e w' => e = .returned (.int .u64 (bt X i : Nat)) ∧ Below w.heap.size w w' := by
  go_enter Try.func44, Try.ntmps44
  go_wp2_with fail
  refine (word_any X hX (i / 64) _).mono ?_
  rintro e w1 ⟨rfl, rfl⟩
  have h1 := and63 i
  obtain ⟨j, hj⟩ : ∃ j : Nat, i % 64 = j := ⟨(i % 64).toNat, by omega⟩
  have hj' : j < 64 := by omega
  have hb := bt_wi X j i hj
  have hl := wi_lt X (i / 64)
  rw [hj] at h1
  generalize wi X (i / 64) = x at *
  have hd : bits .and .u64 ((x : Int) / 2 ^ j) 1 = (bt X i : Nat) := by
    have e : (x : Int) / 2 ^ j = ((x / 2 ^ j : Nat) : Int) := by simp
    rw [e, and1 _ (Nat.lt_of_le_of_lt (Nat.div_le_self _ _) hl), hb]
  clear hb hl hj
  go_wp2
  go_ret
  exact ⟨rfl, by repeat (first | exact Below.refl _ _ | refine gr_alloc ?_ _ | refine Below.drew ?_ | refine gr_drewN ?_ _ | refine bel_tr ?_ (by assumption))⟩
end Go.Proofs.Ytodlpmepoakdlaa

/-
  limbs.Shift.
-/
namespace Go.Proofs.Ytodlpmepoakdlaa
set_option maxRecDepth 100000
open Go.RowKit
set_option linter.unusedSimpArgs false
set_option linter.unusedVariables false
attribute [local go_sem ↓] Go.wp_at_zero Go.wp_at_succ

set_option maxHeartbeats 2000000 in
theorem shift_words (X : Nat) (hX : X < 2 ^ 256) (n q y0 y1 y2 y3 y4 : Int) (p r : Nat) (hq : n / 64 = q) (hp : bits .and .i64 n 63 = (p : Nat)) (hp' : p < 64) (hr : IntKind.i64.wrap (64 - (p : Int)) = (r : Nat)) (hr' : r ≤ 64)
    (v1 : IntKind.i64.wrap (-q) = y1) (v2 : IntKind.i64.wrap (1 - q) = y2) (v3 : IntKind.i64.wrap (2 - q) = y3) (v4 : IntKind.i64.wrap (3 - q) = y4)
    (u1 : IntKind.i64.wrap (y1 - 1) = y0) (u2 : IntKind.i64.wrap (y2 - 1) = y1) (u3 : IntKind.i64.wrap (y3 - 1) = y2) (u4 : IntKind.i64.wrap (y4 - 1) = y3)
    (o0 o1 o2 o3 : Nat)
    (e0 : bits .or .u64 (IntKind.u64.wrap ((wi X y1 : Nat) * 2 ^ p)) ((wi X y0 : Nat) / 2 ^ r) = (o0 : Nat))
    (e1 : bits .or .u64 (IntKind.u64.wrap ((wi X y2 : Nat) * 2 ^ p)) ((wi X y1 : Nat) / 2 ^ r) = (o1 : Nat))
    (e2 : bits .or .u64 (IntKind.u64.wrap ((wi X y3 : Nat) * 2 ^ p)) ((wi X y2 : Nat) / 2 ^ r) = (o2 : Nat))
    (e3 : bits .or .u64 (IntKind.u64.wrap ((wi X y4 : Nat) * 2 ^ p)) ((wi X y3 : Nat) / 2 ^ r) = (o3 : Nat))
    (w : World) :
    Calls Try.prog 91 #[num X, .int .i64 n] w fun e w' => e = .returned (.agg #[.int .u64 o0, .int .u64 o1, .int .u64 o2, .int .u64 o3]) ∧ Below w.heap.size w w' := by
  have hr2 : (r : Int) ≤ 64 := by omega
  have hr3 : (0 : Int) ≤ (r : Int) := by omega
  go_enter Try.func91, Try.ntmps91
  go_wp2
  refine wp_loop_rounds 6 ?_
  rw [rounds_succ]
  go_wp2
  go_region_held3 (fun w' => w'.cell? ⟨w.heap.size, 0, none⟩ = some (.int .u64 (wd X 0 : Nat)) ∧ w'.cell? ⟨w.heap.size, 1, none⟩ = some (.int .u64 (wd X 1 : Nat)) ∧ w'.cell? ⟨w.heap.size, 2, none⟩ = some (.int .u64 (wd X 2 : Nat)) ∧ w'.cell? ⟨w.heap.size, 3, none⟩ = some (.int .u64 (wd X 3 : Nat))) (simp [go_sem, World.cell?_alloc_past])
    ((go_at_call 64; refine (word_any X hX _ _).mono ?_; rintro e w' ⟨rfl, rfl⟩))
  go_wp2
  rw [rounds_succ]
  go_wp2
  go_region_held3 (fun w' => w'.cell? ⟨w.heap.size, 0, none⟩ = some (.int .u64 (wd X 0 : Nat)) ∧ w'.cell? ⟨w.heap.size, 1, none⟩ = some (.int .u64 (wd X 1 : Nat)) ∧ w'.cell? ⟨w.heap.size, 2, none⟩ = some (.int .u64 (wd X 2 : Nat)) ∧ w'.cell? ⟨w.heap.size, 3, none⟩ = some (.int .u64 (wd X 3 : Nat))) (simp [go_sem, World.cell?_alloc_past])
    ((go_at_call 64; refine (word_any X hX _ _).mono ?_; rintro e w' ⟨rfl, rfl⟩))
  go_wp2
  rw [rounds_succ]
  go_wp2
  go_region_held3 (fun w' => w'.cell? ⟨w.heap.size, 0, none⟩ = some (.int .u64 (wd X 0 : Nat)) ∧ w'.cell? ⟨w.heap.size, 1, none⟩ = some (.int .u64 (wd X 1 : Nat)) ∧ w'.cell? ⟨w.heap.size, 2, none⟩ = some (.int .u64 (wd X 2 : Nat)) ∧ w'.cell? ⟨w.heap.size, 3, none⟩ = some (.int .u64 (wd X 3 : Nat))) (simp [go_sem, World.cell?_alloc_past])
    ((go_at_call 64; refine (word_any X hX _ _).mono ?_; rintro e w' ⟨rfl, rfl⟩))
  go_wp2
  rw [rounds_succ]
  go_wp2
  go_region_held3 (fun w' => w'.cell? ⟨w.heap.size, 0, none⟩ = some (.int .u64 (wd X 0 : Nat)) ∧ w'.cell? ⟨w.heap.size, 1, none⟩ = some (.int .u64 (wd X 1 : Nat)) ∧ w'.cell? ⟨w.heap.size, 2, none⟩ = some (.int .u64 (wd X 2 : Nat)) ∧ w'.cell? ⟨w.heap.size, 3, none⟩ = some (.int .u64 (wd X 3 : Nat))) (simp [go_sem, World.cell?_alloc_past])
    ((go_at_call 64; refine (word_any X hX _ _).mono ?_; rintro e w' ⟨rfl, rfl⟩))
  go_wp2
  rw [rounds_succ]
  go_wp2
  exact bodyPost_ret (v := .agg #[.int .u64 o0, .int .u64 o1, .int .u64 o2, .int .u64 o3]) (by simp [results, Try.results91, go_sem]) rfl
    ⟨rfl, by repeat (first | exact Below.refl _ _ | refine gr_alloc ?_ _ | refine Below.drew ?_ | refine gr_drewN ?_ _ | refine bel_tr ?_ (by assumption))⟩
end Go.Proofs.Ytodlpmepoakdlaa
