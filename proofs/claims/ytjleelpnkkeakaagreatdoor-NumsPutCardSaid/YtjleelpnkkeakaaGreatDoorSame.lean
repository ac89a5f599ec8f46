/-
  The statements' own helpers: SameBytes, Beyond.
-/
import Derived.Test.YtjleelpnkkeakaaGreatDoorProg
import Derived.Test.YtjleelpnkkeakaaGreatDoorWords
import Derived.Deep.QuietTactic
import Derived.BigQuiet
namespace Go.Proofs.YtjleelpnkkeakaaGreatDoor
open Go.RowKit

theorem below_drewN {B : Nat} {a w : World} (h : Below B a w) (n : Nat) : Below B a (w.drewN n) := ⟨h.os, h.tape, h.output, h.size, h.block⟩

/-- two equal lists: SameBytes says so -/
theorem same_yes (A B : Option Addr) (n c d : Nat) (l : List Nat) (w : World) (hn : n ≤ 9223372036854775807) (hA : Rd w A n (bs l)) (hB : Rd w B n (bs l)) :
    Calls Tryz.prog 10 #[.slice A n c, .slice B n d] w fun e w' => e = .returned (.bool true) ∧ ∃ k, w' = w.drewN k := by
  have hln : l.length = n := by have := hA.1; rwa [bs_len] at this
  have HL := Lib.hid hln
  clear hln
  go_enter Tryz.func10, Tryz.ntmps10
  go_wp2
  go_loopw [5] (fun i wr => ∃ j k : Nat, j ≤ n ∧ i = .int .i64 j ∧ wr = w.drewN k) (fun i _ => n - (intOf i).toNat)
  case atStart => exact ⟨0, 0, Nat.zero_le _, rfl, rfl⟩
  case round =>
    obtain ⟨j, k, hj, rfl, rfl⟩ := hrel
    by_cases hlt : j < n
    · obtain ⟨b, off, rfl, hbs, hcell⟩ := hA.spot hlt
      obtain ⟨b', off', rfl, hbs', hcell'⟩ := hB.spot hlt
      have h1 : w.cell? ⟨b, off + j, none⟩ = some (.int .u8 (l.getD j 0 : Nat)) := hcell j _ (bs_at l j (by have := HL.out; omega))
      have h2 : w.cell? ⟨b', off' + j, none⟩ = some (.int .u8 (l.getD j 0 : Nat)) := hcell' j _ (bs_at l j (by have := HL.out; omega))
      have hi1 : (j : Int) < (n : Int) := by omega
      clear hcell hcell' hA hB
      go_wp2
      go_quiet (fail)
      go_wp2
      go_roundw
      case rel => exact ⟨j + 1, k + nq, by omega, by go_num, rfl⟩
      case measure => simp [intOf]; omega
    · obtain rfl : j = n := by omega
      go_wp2
      go_ret
      exact ⟨rfl, k, rfl⟩

/-- Beyond of two lengths -/
theorem beyond_yes (W : Option Addr) (d : Nat) (a b : Nat) (w : World) (ha : a ≤ 140737488355328) (hb : b ≤ 140737488355328) (hr : Rd w W 2 (is [(a : Int), (b : Int)])) (h : 1048576 < a + b) :
    Calls Tryz.prog 5 #[.slice W 2 d] w fun e w' => e = .returned (.bool true) ∧ w = w' := by
  obtain ⟨g, off, rfl, hgs, hcell⟩ := hr.spot (show 0 < 2 by omega)
  have h1 : w.cell? ⟨g, off, none⟩ = some (.int .i64 (a : Int)) := hcell 0 _ rfl
  have h2 : w.cell? ⟨g, off + 1, none⟩ = some (.int .i64 (b : Int)) := hcell 1 _ rfl
  clear hcell hr
  by_cases c1 : 1048576 < a
  · go_enter Tryz.func5, Tryz.ntmps5
    go_wp2
    refine wp_loop_rounds 3 ?_
    rw [rounds_succ]
    go_wp2
    go_ret
    exact ⟨rfl, rfl⟩
  · go_enter Tryz.func5, Tryz.ntmps5
    go_wp2
    refine wp_loop_rounds 3 ?_
    rw [rounds_succ]
    go_wp2
    rw [rounds_succ]
    go_wp2
    go_ret
    exact ⟨rfl, rfl⟩

theorem beyond_no (W : Option Addr) (d : Nat) (a b : Nat) (w : World) (hr : Rd w W 2 (is [(a : Int), (b : Int)])) (h : a + b ≤ 1048576) :
    Calls Tryz.prog 5 #[.slice W 2 d] w fun e w' => e = .returned (.bool false) ∧ w = w' := by
  obtain ⟨g, off, rfl, hgs, hcell⟩ := hr.spot (show 0 < 2 by omega)
  have h1 : w.cell? ⟨g, off, none⟩ = some (.int .i64 (a : Int)) := hcell 0 _ rfl
  have h2 : w.cell? ⟨g, off + 1, none⟩ = some (.int .i64 (b : Int)) := hcell 1 _ rfl
  clear hcell hr
  go_enter Tryz.func5, Tryz.ntmps5
  go_wp2
  refine wp_loop_rounds 3 ?_
  rw [rounds_succ]
  go_wp2
  rw [rounds_succ]
  go_wp2
  rw [rounds_succ]
  go_wp2
  go_ret
  exact ⟨rfl, rfl⟩
end Go.Proofs.YtjleelpnkkeakaaGreatDoor
