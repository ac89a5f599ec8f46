/-
  math/bits.Len64, limbs.Bits.
-/
import Derived.Test.YtmhmdbjjmmmgkaaMul
import Derived.Lib.BitFns
namespace Go.Proofs.Ytmhmdbjjmmmgkaa
open Go.RowKit
set_option linter.unusedSimpArgs false
set_option linter.unusedVariables false
attribute [local go_sem ↓] Go.wp_at_zero Go.wp_at_succ

theorem len_end (x y : Int) (k : Nat) (h0 : 0 ≤ x) (hx : x < 18446744073709551616) (hk : k ≤ 56) (hy : y.toNat = x.toNat / 2 ^ k) (hy0 : 0 ≤ y) (hy1 : y ≤ 255) (h : k = 0 ∨ 1 ≤ y) : (k : Int) + Lib.len8 y = Lib.bitLen x.toNat ∧ 0 ≤ Lib.len8 y ∧ Lib.len8 y ≤ 8 := by
  have l := Lib.bitLen_le8' y hy0 hy1
  rw [Lib.len8_of y hy0 hy1]
  refine ⟨?_, by omega, by omega⟩
  rw [hy]
  rcases h with rfl | h
  · simp
  · have hp : 0 < 2 ^ k := Nat.two_pow_pos k
    have h1 : 2 ^ k ≤ x.toNat := (Nat.one_le_div_iff hp).1 (by omega)
    rw [Lib.bitLen_shift k x.toNat h1 (by omega)]
    simp

set_option maxRecDepth 100000 in
theorem len64 (x : Int) (h0 : 0 ≤ x) (hx : x < 18446744073709551616) (w : World) : Calls Try.prog 74 #[.int .u64 x] w fun e w' => e = .returned (.int .i64 (Lib.bitLen x.toNat)) ∧ w' = w := by
  by_cases c1 : 4294967296 ≤ x
  · obtain ⟨x1, g1⟩ : ∃ x1, x / 4294967296 = x1 := ⟨_, rfl⟩
    by_cases c2 : 65536 ≤ x1
    · obtain ⟨x2, g2⟩ : ∃ x2, x1 / 65536 = x2 := ⟨_, rfl⟩
      by_cases c3 : 256 ≤ x2
      · obtain ⟨x3, g3⟩ : ∃ x3, x2 / 256 = x3 := ⟨_, rfl⟩
        have q0 : 0 ≤ x3 := by omega
        have q1 : x3 ≤ 255 := by omega
        have q2 : x3.toNat = x.toNat / 2 ^ 56 := by rw [show (2 : Nat) ^ 56 = 72057594037927936 by decide]; omega
        obtain ⟨e1, e2, e3⟩ := len_end x x3 56 h0 hx (by omega) q2 q0 q1 (by omega)
        generalize hL : Lib.len8 x3 = t at *
        have HE := Lib.hid e1
        clear q2 e1 hx
        go_enter Try.func74, Try.ntmps74
        go_wp2
        go_ret
        refine ⟨congrArg Ending.returned (congrArg (Value.int IntKind.i64) ?_), rfl⟩
        rw [← HE.out]
        first | omega | (unfold wrap64; omega)
      · have d3 : x2 < 256 := by omega
        clear c3
        have q0 : 0 ≤ x2 := by omega
        have q1 : x2 ≤ 255 := by omega
        have q2 : x2.toNat = x.toNat / 2 ^ 48 := by rw [show (2 : Nat) ^ 48 = 281474976710656 by decide]; omega
        obtain ⟨e1, e2, e3⟩ := len_end x x2 48 h0 hx (by omega) q2 q0 q1 (by omega)
        generalize hL : Lib.len8 x2 = t at *
        have HE := Lib.hid e1
        clear q2 e1 hx
        go_enter Try.func74, Try.ntmps74
        go_wp2
        go_ret
        refine ⟨congrArg Ending.returned (congrArg (Value.int IntKind.i64) ?_), rfl⟩
        rw [← HE.out]
        first | omega | (unfold wrap64; omega)
    · have d2 : x1 < 65536 := by omega
      clear c2
      by_cases c3 : 256 ≤ x1
      · obtain ⟨x3, g3⟩ : ∃ x3, x1 / 256 = x3 := ⟨_, rfl⟩
        have q0 : 0 ≤ x3 := by omega
        have q1 : x3 ≤ 255 := by omega
        have q2 : x3.toNat = x.toNat / 2 ^ 40 := by rw [show (2 : Nat) ^ 40 = 1099511627776 by decide]; omega
        obtain ⟨e1, e2, e3⟩ := len_end x x3 40 h0 hx (by omega) q2 q0 q1 (by omega)
        generalize hL : Lib.len8 x3 = t at *
        have HE := Lib.hid e1
        clear q2 e1 hx
        go_enter Try.func74, Try.ntmps74
        go_wp2
        go_ret
        refine ⟨congrArg Ending.returned (congrArg (Value.int IntKind.i64) ?_), rfl⟩
        rw [← HE.out]
        first | omega | (unfold wrap64; omega)
      · have d3 : x1 < 256 := by omega
        clear c3
        have q0 : 0 ≤ x1 := by omega
        have q1 : x1 ≤ 255 := by omega
        have q2 : x1.toNat = x.toNat / 2 ^ 32 := by rw [show (2 : Nat) ^ 32 = 4294967296 by decide]; omega
        obtain ⟨e1, e2, e3⟩ := len_end x x1 32 h0 hx (by omega) q2 q0 q1 (by omega)
        generalize hL : Lib.len8 x1 = t at *
        have HE := Lib.hid e1
        clear q2 e1 hx
        go_enter Try.func74, Try.ntmps74
        go_wp2
        go_ret
        refine ⟨congrArg Ending.returned (congrArg (Value.int IntKind.i64) ?_), rfl⟩
        rw [← HE.out]
        first | omega | (unfold wrap64; omega)
  · have d1 : x < 4294967296 := by omega
    clear c1
    by_cases c2 : 65536 ≤ x
    · obtain ⟨x2, g2⟩ : ∃ x2, x / 65536 = x2 := ⟨_, rfl⟩
      by_cases c3 : 256 ≤ x2
      · obtain ⟨x3, g3⟩ : ∃ x3, x2 / 256 = x3 := ⟨_, rfl⟩
        have q0 : 0 ≤ x3 := by omega
        have q1 : x3 ≤ 255 := by omega
        have q2 : x3.toNat = x.toNat / 2 ^ 24 := by rw [show (2 : Nat) ^ 24 = 16777216 by decide]; omega
        obtain ⟨e1, e2, e3⟩ := len_end x x3 24 h0 hx (by omega) q2 q0 q1 (by omega)
        generalize hL : Lib.len8 x3 = t at *
        have HE := Lib.hid e1
        clear q2 e1 hx
        go_enter Try.func74, Try.ntmps74
        go_wp2
        go_ret
        refine ⟨congrArg Ending.returned (congrArg (Value.int IntKind.i64) ?_), rfl⟩
        rw [← HE.out]
        first | omega | (unfold wrap64; omega)
      · have d3 : x2 < 256 := by omega
        clear c3
        have q0 : 0 ≤ x2 := by omega
        have q1 : x2 ≤ 255 := by omega
        have q2 : x2.toNat = x.toNat / 2 ^ 16 := by rw [show (2 : Nat) ^ 16 = 65536 by decide]; omega
        obtain ⟨e1, e2, e3⟩ := len_end x x2 16 h0 hx (by omega) q2 q0 q1 (by omega)
        generalize hL : Lib.len8 x2 = t at *
        have HE := Lib.hid e1
        clear q2 e1 hx
        go_enter Try.func74, Try.ntmps74
        go_wp2
        go_ret
        refine ⟨congrArg Ending.returned (congrArg (Value.int IntKind.i64) ?_), rfl⟩
        rw [← HE.out]
        first | omega | (unfold wrap64; omega)
    · have d2 : x < 65536 := by omega
      clear c2
      by_cases c3 : 256 ≤ x
      · obtain ⟨x3, g3⟩ : ∃ x3, x / 256 = x3 := ⟨_, rfl⟩
        have q0 : 0 ≤ x3 := by omega
        have q1 : x3 ≤ 255 := by omega
        have q2 : x3.toNat = x.toNat / 2 ^ 8 := by rw [show (2 : Nat) ^ 8 = 256 by decide]; omega
        obtain ⟨e1, e2, e3⟩ := len_end x x3 8 h0 hx (by omega) q2 q0 q1 (by omega)
        generalize hL : Lib.len8 x3 = t at *
        have HE := Lib.hid e1
        clear q2 e1 hx
        go_enter Try.func74, Try.ntmps74
        go_wp2
        go_ret
        refine ⟨congrArg Ending.returned (congrArg (Value.int IntKind.i64) ?_), rfl⟩
        rw [← HE.out]
        first | omega | (unfold wrap64; omega)
      · have d3 : x < 256 := by omega
        clear c3
        have q0 : 0 ≤ x := by omega
        have q1 : x ≤ 255 := by omega
        have q2 : x.toNat = x.toNat / 2 ^ 0 := by simp
        obtain ⟨e1, e2, e3⟩ := len_end x x 0 h0 hx (by omega) q2 q0 q1 (by omega)
        generalize hL : Lib.len8 x = t at *
        have HE := Lib.hid e1
        clear q2 e1 hx
        go_enter Try.func74, Try.ntmps74
        go_wp2
        go_ret
        refine ⟨congrArg Ending.returned (congrArg (Value.int IntKind.i64) ?_), rfl⟩
        rw [← HE.out]
        first | omega | (unfold wrap64; omega)
end Go.Proofs.Ytmhmdbjjmmmgkaa
