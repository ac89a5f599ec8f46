/-
  divides.hold, held.num and step: one bit more of a division.
-/
import Derived.Test.YtgfgicpffajgdaaCmp
namespace Go.Proofs.Ytgfgicpffajgdaa
open Go.RowKit
attribute [local go_sem ↓] Go.wp_at_zero Go.wp_at_succ

/-- divides.hold -/
theorem hold_any (X : Nat) (w : World) : Calls Try.prog 52 #[num X] w fun e w' => e = .returned (num X) ∧ Below w.heap.size w w' := by
  go_enter Try.func52, Try.ntmps52
  go_wp2
  exact bodyPost_ret (v := num X) (by simp [results, Try.results52, go_sem]) rfl
    ⟨rfl, by repeat (first | exact Below.refl _ _ | refine gr_alloc ?_ _ | refine Below.drew ?_ | refine gr_drewN ?_ _ | refine bel_tr ?_ (by assumption))⟩

/-- held.num -/
theorem hnum_any (X : Nat) (w : World) : Calls Try.prog 54 #[num X] w fun e w' => e = .returned (num X) ∧ Below w.heap.size w w' := by
  go_enter Try.func54, Try.ntmps54
  go_wp2
  exact bodyPost_ret (v := num X) (by simp [results, Try.results54, go_sem]) rfl
    ⟨rfl, by repeat (first | exact Below.refl _ _ | refine gr_alloc ?_ _ | refine Below.drew ?_ | refine gr_drewN ?_ _ | refine bel_tr ?_ (by assumption))⟩

end Go.Proofs.Ytgfgicpffajgdaa
