/-
  primes.Small, and the document's: whether a number is below 2^32, and prime.
-/
import Derived.Test.YtnphoelbbgmehaaLeast
import Derived.Test.YtnphoelbbgmehaaRsn
namespace Go.Proofs.Ytnphoelbbgmehaa
set_option maxRecDepth 100000
open Go.RowKit
set_option linter.unusedSimpArgs false
set_option linter.unusedVariables false

/-- below 2^32, and prime -/
noncomputable def smallB (n : Nat) : Bool := decide (n < 4294967296) && Pr.priB n
theorem smallB_of {n : Nat} (h : n < 4294967296) : smallB n = Pr.priB n := by simp [smallB, h]
theorem smallB_ge {n : Nat} (h : ¬ n < 4294967296) : smallB n = false := by simp [smallB, h]
theorem smallB_pri {n : Nat} : smallB n = true ↔ n < 4294967296 ∧ Pr.Pri n := by simp [smallB, Pr.priB_iff]
theorem not_pri_lt {n : Nat} (h : n < 2) : Pr.priB n = false := Pr.priB_not.mpr fun hp => by have := hp.1; omega

theorem small_any (n : Nat) (hn : n < 18446744073709551616) (w : World) : Calls Try.prog 10 #[.int .u64 (n : Nat)] w fun e w' => e = .returned (.bool (smallB n)) ∧ Below w.heap.size w w' := by
  go_enter Try.func10, Try.ntmps10
  by_cases h1 : (1 : Int) < (n : Int)
  · by_cases h2 : (n : Int) < 4294967296
    · have C := least_any n (by omega) (by omega)
      have e := smallB_of (n := n) (by omega)
      go_wp2_with fail
      refine (C _).mono ?_
      rintro e w1 ⟨d, rfl, hd, z1⟩
      by_cases hp : d = n
      · have hb := Pr.priB_iff.mpr (hd.mp hp)
        subst hp
        clear hd
        go_wp2
        go_ret
        exact ⟨by rw [e, hb]; rfl, z1⟩
      · have hne : ((d : Int) == (n : Int)) = false := by rw [beq_eq_false_iff_ne]; omega
        have hb := Pr.priB_not.mpr fun h => hp (hd.mpr h)
        clear hd hp
        go_wp2
        go_ret
        exact ⟨by rw [e, hb]; rfl, z1⟩
    · have e := smallB_ge (n := n) (by omega)
      go_wp2
      go_ret
      exact ⟨by first | rfl | (rw [e]; rfl), Below.refl _ _⟩
  · have e : smallB n = false := by
      rw [smallB_of (by omega)]; exact not_pri_lt (by omega)
    go_wp2
    go_ret
    exact ⟨by first | rfl | (rw [e]; rfl), Below.refl _ _⟩

theorem rsmall_any (n : Nat) (hn : n < 18446744073709551616) (w : World) : Calls Try.prog 11 #[.int .u64 (n : Nat)] w fun e w' => e = .returned (.bool (smallB n)) ∧ Below w.heap.size w w' := by
  go_enter Try.func11, Try.ntmps11
  by_cases h1 : (n : Int) < 2
  · have e : smallB n = false := by
      rw [smallB_of (by omega)]; exact not_pri_lt (by omega)
    go_wp2
    go_ret
    exact ⟨by first | rfl | (rw [e]; rfl), Below.refl _ _⟩
  · by_cases h2 : ¬ (4294967296 : Int) ≤ (n : Int)
    · have e := smallB_of (n := n) (by omega)
      have HE := Lib.hid e
      clear e hn
      go_wp2
      go_loopg [3] 65600 (fun g s3 wr => ∃ d : Nat, s3 = .int .u64 (d : Nat) ∧ 2 ≤ d ∧ d + g = 65602 ∧ Hid (∀ q, 2 ≤ q → q < d → n % q ≠ 0) ∧ Hid (Below w.heap.size w wr))
      case atStart => exact ⟨2, rfl, by omega, by omega, fun q h1 h2 => by omega, Below.refl _ _⟩
      case round =>
        obtain ⟨d, rfl, hd, hdg, HI, BW⟩ := hrel
        obtain ⟨P, hP⟩ : ∃ P, P = d * d := ⟨_, rfl⟩
        have hdd : d * d ≤ 65602 * 65602 := Nat.mul_le_mul (by omega) (by omega)
        have hw : IntKind.wrap .u64 ((d : Int) * (d : Int)) = (P : Int) := by
          rw [← Int.natCast_mul, ← hP]
          rw [IntKind.wrap_u64]
          omega
        have hlp : 2 * d ≤ P := by rw [hP]; exact Nat.mul_le_mul_right _ hd
        by_cases hle : (P : Int) ≤ (n : Int)
        · have HDG := Lib.hid hdg
          have HG : Hid (1 ≤ gk) := by
            show 1 ≤ gk
            rcases Nat.lt_or_ge gk 1 with h | h
            · have : 65602 * 65602 ≤ d * d := Nat.mul_le_mul (by omega) (by omega)
              omega
            · exact h
          clear hP hdd
          by_cases hz : (n : Int) % (d : Int) = 0
          · have HZ := Lib.hid (Pr.not_pri_of hd (by omega) (int_mod.mp hz))
            go_wp2
            go_ret
            exact ⟨by rw [HE.out, Pr.priB_not.mpr HZ.out]; rfl, BW.out⟩
          · clear h1 h2
            have hlt : (d : Int) + 1 < 65700 := by omega
            have hwd : IntKind.wrap .u64 ((d : Int) + 1) = (d : Int) + 1 := by rw [IntKind.wrap_u64]; omega
            clear hdg hlt hlp
            go_wp2
            go_roundg (gk - 1)
            case measure => have := HG.out; omega
            case rel =>
              have hG := HG.out
              have hdg := HDG.out
              refine ⟨d + 1, by simp, by omega, by omega, ?_, BW.out⟩
              intro q hq hqd
              rcases Nat.lt_or_ge q d with h | h
              · exact HI.out q hq h
              · have : q = d := by omega
                subst this
                exact fun h => hz (int_mod.mpr h)
        · have hpn : Pr.Pri n := Pr.pri_of_small (by omega) fun q hq hqq => HI.out q hq (by
            apply Decidable.byContradiction; intro hc
            have : d * d ≤ q * q := Nat.mul_le_mul (by omega) (by omega)
            omega)
          have HPN := Lib.hid hpn
          clear hpn hP hdd
          go_wp2
          go_ret
          exact ⟨by rw [HE.out, Pr.priB_iff.mpr HPN.out]; rfl, BW.out⟩
    · have h3 : (4294967296 : Int) ≤ (n : Int) := by omega
      have e := smallB_ge (n := n) (by omega)
      clear h2
      go_wp2
      go_ret
      exact ⟨by first | rfl | (rw [e]; rfl), Below.refl _ _⟩
end Go.Proofs.Ytnphoelbbgmehaa
