/-
  divides.hold, held.num and step: one bit more of a division.
-/
import Derived.Test.YtmhmdbjjmmmgkaaCmp
namespace Go.Proofs.Ytmhmdbjjmmmgkaa
open Go.RowKit
set_option linter.unusedSimpArgs false
set_option linter.unusedVariables false
attribute [local go_sem ↓] Go.wp_at_zero Go.wp_at_succ

/-- divides.hold -/
theorem hold_any (X : Nat) (w : World) : Calls Try.prog 60 #[num X] w fun e w' => e = .returned (num X) ∧ Below w.heap.size w w' := by
  go_enter Try.func60, Try.ntmps60
  go_wp2
  exact bodyPost_ret (v := num X) (by simp [results, Try.results60, go_sem]) rfl
    ⟨rfl, by repeat (first | exact Below.refl _ _ | refine gr_alloc ?_ _ | refine Below.drew ?_ | refine gr_drewN ?_ _ | refine bel_tr ?_ (by assumption))⟩

/-- held.num -/
theorem hnum_any (X : Nat) (w : World) : Calls Try.prog 63 #[num X] w fun e w' => e = .returned (num X) ∧ Below w.heap.size w w' := by
  go_enter Try.func63, Try.ntmps63
  go_wp2
  exact bodyPost_ret (v := num X) (by simp [results, Try.results63, go_sem]) rfl
    ⟨rfl, by repeat (first | exact Below.refl _ _ | refine gr_alloc ?_ _ | refine Below.drew ?_ | refine gr_drewN ?_ _ | refine bel_tr ?_ (by assumption))⟩

end Go.Proofs.Ytmhmdbjjmmmgkaa
