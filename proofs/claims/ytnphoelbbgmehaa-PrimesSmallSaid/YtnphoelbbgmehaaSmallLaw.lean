/-
  The walk of PrimesSmall: it answers true, and nothing that was there is changed.
-/
import Derived.Test.YtnphoelbbgmehaaSmall
namespace Go.Proofs.Ytnphoelbbgmehaa
set_option maxRecDepth 100000
open Go.RowKit
set_option linter.unusedSimpArgs false
set_option linter.unusedVariables false

theorem smalllaw_walk (n : Nat) (hn : n < 18446744073709551616) (w : World) : Calls Try.prog 3 #[.int .u64 (n : Nat)] w fun e w' => e = .returned (.bool true) ∧ Below w.heap.size w w' := by
  have C1 := small_any n hn
  have C2 := rsmall_any n hn
  clear hn
  generalize smallB n = b at *
  go_enter Try.func3, Try.ntmps3
  go_wp2_with fail
  refine (C1 _).mono ?_
  rintro e w1 ⟨rfl, z1⟩
  go_wp2_with fail
  refine (C2 _).mono ?_
  rintro e w2 ⟨rfl, z2⟩
  have z := bel_tr z1 z2
  clear z1 z2 C1 C2
  cases b <;> (go_wp2; go_ret; exact ⟨rfl, z⟩)
end Go.Proofs.Ytnphoelbbgmehaa
