import Derived.Test.YtdpdpmiepidkoaaBitsLN
import Derived.Test.YtdpdpmiepidkoaaDigits
/-
  balefireref02.Bit.
-/
namespace Go.Proofs.Ytdpdpmiepidkoaa
open Go.RowKit
set_option linter.unusedSimpArgs false
set_option linter.unusedVariables false
attribute [local go_sem ↓] Go.wp_at_zero Go.wp_at_succ

theorem digitsA (X : Nat) (w : World) : Calls Try.prog 44 #[num X] w fun e w' => e = .returned (.agg #[.int .u64 (dg X 0 : Nat), .int .u64 (dg X 1 : Nat), .int .u64 (dg X 2 : Nat), .int .u64 (dg X 3 : Nat), .int .u64 (dg X 4 : Nat), .int .u64 (dg X 5 : Nat), .int .u64 (dg X 6 : Nat), .int .u64 (dg X 7 : Nat), .int .u64 (dg X 8 : Nat), .int .u64 (dg X 9 : Nat), .int .u64 (dg X 10 : Nat), .int .u64 (dg X 11 : Nat), .int .u64 (dg X 12 : Nat), .int .u64 (dg X 13 : Nat), .int .u64 (dg X 14 : Nat), .int .u64 (dg X 15 : Nat)]) ∧ Below w.heap.size w w' := digits_any X w
theorem arr_at (X q : Nat) (h : q < 16) : (#[.int .u64 (dg X 0 : Nat), .int .u64 (dg X 1 : Nat), .int .u64 (dg X 2 : Nat), .int .u64 (dg X 3 : Nat), .int .u64 (dg X 4 : Nat), .int .u64 (dg X 5 : Nat), .int .u64 (dg X 6 : Nat), .int .u64 (dg X 7 : Nat), .int .u64 (dg X 8 : Nat), .int .u64 (dg X 9 : Nat), .int .u64 (dg X 10 : Nat), .int .u64 (dg X 11 : Nat), .int .u64 (dg X 12 : Nat), .int .u64 (dg X 13 : Nat), .int .u64 (dg X 14 : Nat), .int .u64 (dg X 15 : Nat)] : Array Value)[q]? = some (.int .u64 (dg X q : Nat)) := by
  have := ws_at (ds X) q h
  rw [ds_at X q h] at this
  exact this
theorem lst_at (X q : Nat) (h : q < 16) (h' : q < ([.int .u64 (dg X 0 : Nat), .int .u64 (dg X 1 : Nat), .int .u64 (dg X 2 : Nat), .int .u64 (dg X 3 : Nat), .int .u64 (dg X 4 : Nat), .int .u64 (dg X 5 : Nat), .int .u64 (dg X 6 : Nat), .int .u64 (dg X 7 : Nat), .int .u64 (dg X 8 : Nat), .int .u64 (dg X 9 : Nat), .int .u64 (dg X 10 : Nat), .int .u64 (dg X 11 : Nat), .int .u64 (dg X 12 : Nat), .int .u64 (dg X 13 : Nat), .int .u64 (dg X 14 : Nat), .int .u64 (dg X 15 : Nat)] : List Value).length) : ([.int .u64 (dg X 0 : Nat), .int .u64 (dg X 1 : Nat), .int .u64 (dg X 2 : Nat), .int .u64 (dg X 3 : Nat), .int .u64 (dg X 4 : Nat), .int .u64 (dg X 5 : Nat), .int .u64 (dg X 6 : Nat), .int .u64 (dg X 7 : Nat), .int .u64 (dg X 8 : Nat), .int .u64 (dg X 9 : Nat), .int .u64 (dg X 10 : Nat), .int .u64 (dg X 11 : Nat), .int .u64 (dg X 12 : Nat), .int .u64 (dg X 13 : Nat), .int .u64 (dg X 14 : Nat), .int .u64 (dg X 15 : Nat)] : List Value)[q]'h' = .int .u64 (dg X q : Nat) := by
  have := arr_at X q h
  simp only [List.getElem?_toArray, List.getElem?_eq_getElem h', Option.some.injEq] at this
  exact this
theorem dg_bit (X q r : Nat) (h : r < 16) : dg X q / 2 ^ r % 2 = X / 2 ^ (16 * q + r) % 2 := by
  unfold dg
  have e : (65536 : Nat) = 2 ^ r * 2 ^ (16 - r) := by rw [← Nat.pow_add, show r + (16 - r) = 16 by omega]
  have e2 : (65536 : Nat) ^ q = 2 ^ (16 * q) := by rw [Nat.pow_mul]
  rw [e2]
  conv => lhs; arg 1; arg 1; arg 2; rw [e]
  rw [Nat.mod_mul_right_div_self, Nat.mod_mod_of_dvd _ (Nat.dvd_trans (by decide) (Nat.pow_dvd_pow 2 (show 1 ≤ 16 - r by omega))), Nat.div_div_eq_div_mul, ← Nat.pow_add]

set_option maxRecDepth 100000 in
set_option maxHeartbeats 4000000 in
/-- the document's Bit -/
theorem rbit_any (X : Nat) (hX : X < 2 ^ 256) (i : Int) (w : World) : Calls Try.prog 30 #[num X, .int .i64 i] w fun e w' => e = .returned (.int .u64 (bt X i : Nat)) ∧ Below w.heap.size w w' := by
  by_cases h0 : i < 0
  · have e : bt X i = 0 := by unfold bt; rw [if_pos h0]
    rw [e]
    go_enter Try.func30, Try.ntmps30
    go_wp2
    go_ret
    exact ⟨rfl, by repeat (first | exact Below.refl _ _ | refine gr_alloc ?_ _ | refine Below.drew ?_ | refine gr_drewN ?_ _)⟩
  by_cases h1 : 255 < i
  · have e : bt X i = 0 := by
      unfold bt
      rw [if_neg h0, Nat.div_eq_of_lt (Nat.lt_of_lt_of_le hX (Nat.pow_le_pow_right (by decide) (by omega)))]
    rw [e]
    have h0' : decide (i < 0) = false := by simp; omega
    go_enter Try.func30, Try.ntmps30
    go_wp2
    go_ret
    exact ⟨rfl, by repeat (first | exact Below.refl _ _ | refine gr_alloc ?_ _ | refine Below.drew ?_ | refine gr_drewN ?_ _)⟩
  obtain ⟨n, rfl⟩ : ∃ n : Nat, i = n := ⟨i.toNat, by omega⟩
  have h0' : decide ((n : Int) < 0) = false := by simp
  have h1' : decide ((255 : Int) < (n : Int)) = false := by simp; omega
  obtain ⟨q, hq⟩ : ∃ q, q = n / 16 := ⟨_, rfl⟩
  obtain ⟨r, hr⟩ : ∃ r, r = n % 16 := ⟨_, rfl⟩
  have r1 : ((n : Int) / 16) = (q : Nat) := by omega
  have r2 : ((n : Int) % 16) = (r : Nat) := by omega
  have r3 : (q : Int) < 16 := by omega
  have r4 : r < 16 := by omega
  have r5 : q < 16 := by omega
  have ha := lst_at X q r5 (by simpa using r5)
  have r6 : (((dg X q : Nat) : Int) / 2 ^ r).tmod 2 = (bt X (n : Int) : Nat) := by
    have e1 : ((dg X q : Nat) : Int) / 2 ^ r = ((dg X q / 2 ^ r : Nat) : Int) := by simp
    have e2 : bt X (n : Int) = dg X q / 2 ^ r % 2 := by
      rw [dg_bit X q r r4]
      unfold bt
      rw [if_neg (by omega), Int.toNat_natCast, show 16 * q + r = n by omega]
    rw [e1, e2, Int.tmod_eq_emod_of_nonneg (Int.natCast_nonneg _)]; simp
  clear hq hr h0 h1
  go_enter Try.func30, Try.ntmps30
  go_wp2_with fail
  refine (digitsA X _).mono ?_
  rintro e w1 ⟨rfl, z1⟩
  go_wp2
  go_ret
  exact ⟨rfl, by repeat (first | exact Below.refl _ _ | refine gr_alloc ?_ _ | refine Below.drew ?_ | refine gr_drewN ?_ _ | refine bel_tr ?_ (by assumption))⟩
end Go.Proofs.Ytdpdpmiepidkoaa

/-
  balefireref02.Bits.
-/
namespace Go.Proofs.Ytdpdpmiepidkoaa
open Go.RowKit
set_option linter.unusedSimpArgs false
set_option linter.unusedVariables false
attribute [local go_sem ↓] Go.wp_at_zero Go.wp_at_succ

theorem bl_is (X i : Nat) (hX : X < 2 ^ 256) (h : ∀ k : Nat, i ≤ k → k < 256 → bt X (k : Int) = 0) (hi : i = 0 ∨ bt X ((i : Int) - 1) = 1) : Go.bitLen X = i := by
  have hl := bl_le X hX
  have h1 : Go.bitLen X ≤ i := by
    by_cases hb : Go.bitLen X = 0
    · omega
    · have ht := bl_top X hb
      by_cases hc : i ≤ Go.bitLen X - 1
      · rw [h _ hc (by omega)] at ht; omega
      · omega
  rcases hi with hi | hi
  · omega
  · by_cases h0 : i = 0
    · omega
    · have e : (i : Int) - 1 = ((i - 1 : Nat) : Int) := by omega
      rw [e] at hi
      have := bl_bit X (i - 1) hi
      omega

set_option maxRecDepth 100000 in
/-- the document's Bits -/
theorem rbits_any (X : Nat) (hX : X < 2 ^ 256) (w : World) : Calls Try.prog 29 #[num X] w fun e w' => e = .returned (.int .i64 (Go.bitLen X : Nat)) ∧ Below w.heap.size w w' := by
  go_enter Try.func29, Try.ntmps29
  go_wp2
  go_loopw [3] (fun s wr => ∃ i : Nat, i ≤ 256 ∧ s = .int .i64 ((i : Int) - 1) ∧ Hid (At wr w.heap.size 24 (ws (wl X))) ∧ Hid (∀ k : Nat, i ≤ k → k < 256 → bt X (k : Int) = 0) ∧ Hid (Below w.heap.size w wr)) (fun s _ => (intOf s + 1).toNat)
  case atStart => exact ⟨256, by omega, rfl, At.at_ w _ _ _ rfl, fun k h1 h2 => by omega, gr_alloc (Below.refl _ _) _⟩
  case round =>
    obtain ⟨i, hi, rfl, Fa, hz, BW⟩ := hrel
    by_cases h0 : i = 0
    · subst h0
      have e := bl_is X 0 hX hz.out (Or.inl rfl)
      have HE := Lib.hid e
      clear e
      go_wp2
      go_ret
      exact ⟨by rw [HE.out]; rfl, BW.out⟩
    · have c0 : wr.cell? ⟨w.heap.size, 0, none⟩ = some (.int .u64 (wd X 0 : Nat)) := Fa.out.cell 0
      have c1 : wr.cell? ⟨w.heap.size, 1, none⟩ = some (.int .u64 (wd X 1 : Nat)) := Fa.out.cell 1
      have c2 : wr.cell? ⟨w.heap.size, 2, none⟩ = some (.int .u64 (wd X 2 : Nat)) := Fa.out.cell 2
      have c3 : wr.cell? ⟨w.heap.size, 3, none⟩ = some (.int .u64 (wd X 3 : Nat)) := Fa.out.cell 3
      have g1 : (0 : Int) ≤ (i : Int) - 1 := by omega
      have C := rbit_any X hX ((i : Int) - 1)
      have hb : bt X ((i : Int) - 1) = 0 ∨ bt X ((i : Int) - 1) = 1 := by unfold bt; split <;> omega
      have hl := Lib.hid (fun h : bt X ((i : Int) - 1) = 1 => bl_is X i hX hz.out (Or.inr h))
      have hk := Lib.hid (fun (h : bt X ((i : Int) - 1) = 0) (k : Nat) (h1 : i - 1 ≤ k) (h2 : k < 256) => by
        by_cases e : k = i - 1
        · have e2 : (k : Int) = (i : Int) - 1 := by omega
          rw [e2]; exact h
        · exact hz.out k (by omega) h2 : bt X ((i : Int) - 1) = 0 → ∀ k : Nat, i - 1 ≤ k → k < 256 → bt X (k : Int) = 0)
      clear hz
      generalize bt X ((i : Int) - 1) = z at *
      go_wp2_with fail
      refine (C _).mono ?_
      rintro e w1 ⟨rfl, z1⟩
      clear c0 c1 c2 c3 C
      rcases hb with rfl | rfl
      · go_wp2
        go_roundw
        case rel => exact ⟨i - 1, by omega, by go_num, Fa.out.on z1, hk.out (by trivial), bel_tr BW.out z1⟩
        case measure => simp [intOf]; omega
      · go_wp2
        go_ret
        exact ⟨congrArg Ending.returned (congrArg (Value.int IntKind.i64) (by rw [hl.out (by trivial)])), bel_tr BW.out z1⟩
end Go.Proofs.Ytdpdpmiepidkoaa
