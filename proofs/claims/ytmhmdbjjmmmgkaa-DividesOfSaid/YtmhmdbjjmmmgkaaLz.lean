/-
  math/bits.LeadingZeros64.
-/
import Derived.Test.YtmhmdbjjmmmgkaaBitsN
namespace Go.Proofs.Ytmhmdbjjmmmgkaa
open Go.RowKit
set_option linter.unusedSimpArgs false
set_option linter.unusedVariables false
attribute [local go_sem ↓] Go.wp_at_zero Go.wp_at_succ

theorem lz_any (x s : Nat) (hx : x < 18446744073709551616) (hs : s + Go.bitLen x = 64) (w : World) : Calls Try.prog 66 #[.int .u64 (x : Nat)] w fun e w' => e = .returned (.int .i64 (s : Nat)) ∧ w' = w := by
  have C := len64 (x : Int) (by omega) (by omega)
  have hb : Lib.bitLen ((x : Int)).toNat = (Go.bitLen x : Nat) := by rw [Int.toNat_natCast, bitLen_same x (by omega)]
  rw [hb] at C
  obtain ⟨m, hm⟩ : ∃ m, Go.bitLen x = m := ⟨_, rfl⟩
  rw [hm] at C hs
  have HC := Lib.hid C
  clear C hb hm
  go_enter Try.func66, Try.ntmps66
  go_wp2_with fail
  refine (HC.out _).mono ?_
  rintro e v ⟨rfl, rfl⟩
  have e1 : (64 : Int) - (m : Int) = (s : Nat) := by omega
  go_wp2_with fail
  go_ret
  first | exact ⟨rfl, rfl⟩ | (refine ⟨congrArg Ending.returned (congrArg (Value.int IntKind.i64) ?_), rfl⟩; omega)
end Go.Proofs.Ytmhmdbjjmmmgkaa
