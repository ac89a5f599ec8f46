/-
  Lists of bytes that came in, how much they hold (RecordsSize), and whether that is beyond what is tried (Beyond).
-/
import Derived.Test.YtdpdpmiepidkoaaDoorLawOf
namespace Go.Proofs.YtdpdpmiepidkoaaDoor
open Go.RowKit
set_option linter.unusedSimpArgs false
set_option linter.unusedVariables false

/-- a slice of slices of bytes that came in -/
structure Rows2 (w : World) (A : Option Addr) (n c : Nat) (RA : Nat → Option Addr) (RL RC : Nat → Nat) (RB : Nat → List Nat) : Prop where
  nc : n ≤ c
  cm : c ≤ 9223372036854775807
  cell : ∀ j, j < n → ∃ b o, A = some ⟨b, o, none⟩ ∧ b < w.heap.size ∧ w.cell? ⟨b, o + j, none⟩ = some (.slice (RA j) (RL j) (RC j))
  rd : ∀ j, j < n → Rd w (RA j) (RL j) (bs (RB j))
  rnc : ∀ j, j < n → RL j ≤ RC j ∧ RC j ≤ 9223372036854775807 ∧ RL j ≤ 140737488351232
  rnil : ∀ j, j < n → RA j = none → RL j = 0 ∧ RC j = 0
  byte : ∀ j, j < n → ∀ y ∈ RB j, y < 256
theorem Rows2.below {w w' : World} {A : Option Addr} {n c : Nat} {RA : Nat → Option Addr} {RL RC : Nat → Nat} {RB : Nat → List Nat} (h : Rows2 w A n c RA RL RC RB) (hb : Below w.heap.size w w') : Rows2 w' A n c RA RL RC RB :=
  ⟨h.nc, h.cm, fun j hj => by obtain ⟨b, o, e, hl, hc⟩ := h.cell j hj; exact ⟨b, o, e, Nat.lt_of_lt_of_le hl hb.size, cell_on hb hc⟩, fun j hj => (h.rd j hj).below hb, h.rnc, h.rnil, h.byte⟩
def tot (RL : Nat → Nat) : Nat → Nat
  | 0 => 0
  | k + 1 => tot RL k + RL k
theorem tot_le (RL : Nat → Nat) {k n : Nat} (h : k ≤ n) : tot RL k ≤ tot RL n := by
  induction n with
  | zero => rw [show k = 0 by omega]; exact Nat.le_refl _
  | succ n ih =>
    by_cases e : k = n + 1
    · rw [e]; exact Nat.le_refl _
    · have := ih (by omega); simp only [tot]; omega

theorem bsize_ok (A : Option Addr) (n c : Nat) (w : World) (hn : n ≤ 140737488351232) : Calls Tryd.prog 20 #[.slice A n c] w fun e w' => e = .returned (.int .i64 (n : Nat)) ∧ w = w' := by
  go_enter Tryd.func20, Tryd.ntmps20
  go_wp2
  go_ret
  exact ⟨rfl, rfl⟩
theorem rsize_ok (A : Option Addr) (n c : Nat) (RA : Nat → Option Addr) (RL RC : Nat → Nat) (RB : Nat → List Nat) (w : World) (hn : n ≤ 60) (hR : Rows2 w A n c RA RL RC RB) :
    Calls Tryd.prog 13 #[.slice A n c] w fun e w' => (∃ s : Nat, e = .returned (.int .i64 (s : Nat)) ∧ s ≤ 140737490000000 ∧ (s ≤ 1048576 → tot RL n ≤ 1048576)) ∧ w = w' := by
  have HR := Lib.hid hR
  clear hR
  go_enter Tryd.func13, Tryd.ntmps13
  go_wp2
  go_loopw [3, 4] (fun sv s' wr => ∃ k s : Nat, k ≤ n ∧ s' = .int .i64 k ∧ sv = .int .i64 s ∧ s = n + tot RL k ∧ s ≤ 140737490000000 ∧ wr = w) (fun _ s' _ => n - (intOf s').toNat)
  case atStart => exact ⟨0, n, by omega, rfl, rfl, rfl, by omega, rfl⟩
  case round =>
    obtain ⟨k, s, hk, rfl, rfl, hs, hsm, rfl⟩ := hrel
    have HS := Lib.hid hs
    clear hs
    by_cases hlt : k < n
    · have hlt' : (k : Int) < (n : Int) := by omega
      by_cases hsz : s ≤ 1048576
      · have hsz' : (s : Int) ≤ 1048576 := by omega
        obtain ⟨b, o, rfl, hbl, hcell⟩ := HR.out.cell k hlt
        have C := Lib.hid (bsize_ok (RA k) (RL k) (RC k) wr (HR.out.rnc k hlt).2.2)
        have hrl := (HR.out.rnc k hlt).2.2
        have HS2 : Hid (s + RL k = n + tot RL (k + 1)) := Lib.hid (by rw [tot, HS.out]; omega)
        generalize RA k = ra at *
        generalize RL k = rl at *
        generalize RC k = rc at *
        go_wp2_with (go_at_call 20; refine C.out.mono ?_; rintro e w' ⟨rfl, rfl⟩)
        go_roundw
        case rel => exact ⟨k + 1, s + rl, by omega, by go_num, by go_num, HS2.out, by omega, by first | rfl | trivial⟩
        case measure => simp [intOf]; omega
      · have hsz' : ¬ (s : Int) ≤ 1048576 := by omega
        go_wp2
        go_ret
        exact ⟨⟨s, rfl, hsm, fun h => absurd h hsz⟩, rfl⟩
    · obtain rfl : k = n := by omega
      have hlt' : ¬ (k : Int) < (k : Int) := by omega
      go_wp2
      go_ret
      exact ⟨⟨s, rfl, hsm, fun h => by have := HS.out; omega⟩, rfl⟩
theorem beyond_one (g s : Nat) (w : World) (hs : s ≤ 140737490000000) (h : w.cell? ⟨g, 0, none⟩ = some (.int .i64 (s : Nat))) :
    Calls Tryd.prog 12 #[.slice (some ⟨g, 0, none⟩) 1 1] w fun e w' => e = .returned (.bool (decide (1048576 < s))) ∧ w = w' := by
  by_cases c1 : 1048576 < s
  · have c1' : (1048576 : Int) < (s : Int) := by omega
    rw [decide_eq_true c1]
    go_enter Tryd.func12, Tryd.ntmps12
    go_wp2
    refine wp_loop_rounds 2 ?_
    rw [rounds_succ]
    go_wp2
    go_ret
    exact ⟨rfl, rfl⟩
  · have c1' : ¬ (1048576 : Int) < (s : Int) := by omega
    rw [decide_eq_false c1]
    go_enter Tryd.func12, Tryd.ntmps12
    go_wp2
    refine wp_loop_rounds 2 ?_
    rw [rounds_succ]
    go_wp2
    rw [rounds_succ]
    go_wp2
    go_ret
    exact ⟨rfl, rfl⟩
end Go.Proofs.YtdpdpmiepidkoaaDoor
