/-
  balefireref02.Bits.
-/
import Derived.Test.YtmhmdbjjmmmgkaaRbit
import Derived.Test.YtmhmdbjjmmmgkaaBitsLN
namespace Go.Proofs.Ytmhmdbjjmmmgkaa
open Go.RowKit
set_option linter.unusedSimpArgs false
set_option linter.unusedVariables false
attribute [local go_sem ↓] Go.wp_at_zero Go.wp_at_succ

theorem bl_is (X i : Nat) (hX : X < 2 ^ 256) (h : ∀ k : Nat, i ≤ k → k < 256 → bt X (k : Int) = 0) (hi : i = 0 ∨ bt X ((i : Int) - 1) = 1) : Go.bitLen X = i := by
  have hl := bl_le X hX
  have h1 : Go.bitLen X ≤ i := by
    by_cases hb : Go.bitLen X = 0
    · omega
    · have ht := bl_top X hb
      by_cases hc : i ≤ Go.bitLen X - 1
      · rw [h _ hc (by omega)] at ht; omega
      · omega
  rcases hi with hi | hi
  · omega
  · by_cases h0 : i = 0
    · omega
    · have e : (i : Int) - 1 = ((i - 1 : Nat) : Int) := by omega
      rw [e] at hi
      have := bl_bit X (i - 1) hi
      omega

set_option maxRecDepth 100000 in
/-- the document's Bits -/
theorem rbits_any (X : Nat) (hX : X < 2 ^ 256) (w : World) : Calls Try.prog 52 #[num X] w fun e w' => e = .returned (.int .i64 (Go.bitLen X : Nat)) ∧ Below w.heap.size w w' := by
  go_enter Try.func52, Try.ntmps52
  go_wp2
  go_loopw [3] (fun s wr => ∃ i : Nat, i ≤ 256 ∧ s = .int .i64 ((i : Int) - 1) ∧ Hid (At wr w.heap.size 24 (ws (wl X))) ∧ Hid (∀ k : Nat, i ≤ k → k < 256 → bt X (k : Int) = 0) ∧ Hid (Below w.heap.size w wr)) (fun s _ => (intOf s + 1).toNat)
  case atStart => exact ⟨256, by omega, rfl, At.at_ w _ _ _ rfl, fun k h1 h2 => by omega, gr_alloc (Below.refl _ _) _⟩
  case round =>
    obtain ⟨i, hi, rfl, Fa, hz, BW⟩ := hrel
    by_cases h0 : i = 0
    · subst h0
      have e := bl_is X 0 hX hz.out (Or.inl rfl)
      have HE := Lib.hid e
      clear e
      go_wp2
      go_ret
      exact ⟨by rw [HE.out]; rfl, BW.out⟩
    · have c0 : wr.cell? ⟨w.heap.size, 0, none⟩ = some (.int .u64 (wd X 0 : Nat)) := Fa.out.cell 0
      have c1 : wr.cell? ⟨w.heap.size, 1, none⟩ = some (.int .u64 (wd X 1 : Nat)) := Fa.out.cell 1
      have c2 : wr.cell? ⟨w.heap.size, 2, none⟩ = some (.int .u64 (wd X 2 : Nat)) := Fa.out.cell 2
      have c3 : wr.cell? ⟨w.heap.size, 3, none⟩ = some (.int .u64 (wd X 3 : Nat)) := Fa.out.cell 3
      have g1 : (0 : Int) ≤ (i : Int) - 1 := by omega
      have C := rbit_any X hX ((i : Int) - 1)
      have hb : bt X ((i : Int) - 1) = 0 ∨ bt X ((i : Int) - 1) = 1 := by unfold bt; split <;> omega
      have hl := Lib.hid (fun h : bt X ((i : Int) - 1) = 1 => bl_is X i hX hz.out (Or.inr h))
      have hk := Lib.hid (fun (h : bt X ((i : Int) - 1) = 0) (k : Nat) (h1 : i - 1 ≤ k) (h2 : k < 256) => by
        by_cases e : k = i - 1
        · have e2 : (k : Int) = (i : Int) - 1 := by omega
          rw [e2]; exact h
        · exact hz.out k (by omega) h2 : bt X ((i : Int) - 1) = 0 → ∀ k : Nat, i - 1 ≤ k → k < 256 → bt X (k : Int) = 0)
      clear hz
      generalize bt X ((i : Int) - 1) = z at *
      go_wp2_with fail
      refine (C _).mono ?_
      rintro e w1 ⟨rfl, z1⟩
      clear c0 c1 c2 c3 C
      rcases hb with rfl | rfl
      · go_wp2
        go_roundw
        case rel => exact ⟨i - 1, by omega, by go_num, Fa.out.on z1, hk.out (by trivial), bel_tr BW.out z1⟩
        case measure => simp [intOf]; omega
      · go_wp2
        go_ret
        exact ⟨congrArg Ending.returned (congrArg (Value.int IntKind.i64) (by rw [hl.out (by trivial)])), bel_tr BW.out z1⟩
end Go.Proofs.Ytmhmdbjjmmmgkaa
