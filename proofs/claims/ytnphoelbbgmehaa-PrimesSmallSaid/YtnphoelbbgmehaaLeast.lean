/-
  primes.leastDivisor: the least divisor above 1 of a number below 2^32; it is the number just if that is prime.
-/
import Derived.Test.YtnphoelbbgmehaaPri
import Derived.Test.YtnphoelbbgmehaaLv
import Derived.Test.YtnphoelbbgmehaaRows
import Derived.WalkKit
import Derived.Below
import Derived.Deep.LoopGhost
import Derived.Lib.Hide
namespace Go.Proofs.Ytnphoelbbgmehaa
set_option maxRecDepth 100000
open Go.RowKit
set_option linter.unusedSimpArgs false
set_option linter.unusedVariables false

/-- what divides six in a row from 6 * k + 5 on, when two does not, nor three -/
theorem least_six (n low : Nat) (e2 : n % 2 ≠ 0) (e3 : n % 3 ≠ 0) (h6 : low % 6 = 5) (h : ∀ d, 2 ≤ d → d < low → n % d ≠ 0) (h0 : n % low ≠ 0) (h2 : n % (low + 2) ≠ 0) :
    ∀ d, 2 ≤ d → d < low + 6 → n % d ≠ 0 := by
  intro d hd hl hz
  have k2 : ∀ m, d = 2 * m → False := fun m hm => e2 (Nat.mod_eq_zero_of_dvd (Nat.dvd_trans ⟨m, hm⟩ (Nat.dvd_of_mod_eq_zero hz)))
  have k3 : ∀ m, d = 3 * m → False := fun m hm => e3 (Nat.mod_eq_zero_of_dvd (Nat.dvd_trans ⟨m, hm⟩ (Nat.dvd_of_mod_eq_zero hz)))
  rcases Nat.lt_or_ge d low with h1 | h1
  · exact h d hd h1 hz
  · have : d = low ∨ d = low + 1 ∨ d = low + 2 ∨ d = low + 3 ∨ d = low + 4 ∨ d = low + 5 := by omega
    rcases this with e | e | e | e | e | e
    · exact h0 (e ▸ hz)
    · exact k2 (d / 2) (by omega)
    · exact h2 (e ▸ hz)
    · exact k2 (d / 2) (by omega)
    · exact k3 (d / 3) (by omega)
    · exact k2 (d / 2) (by omega)

theorem idx2_0 (w : World) (a b : Int) : Sem.run Try.prog (Instr.index 67 (.agg #[.int .u64 a, .int .u64 b]) (.int .i64 0)) w = .ok (.int .u64 a) w := by
  simp [Instr.index, run_underlying Try.underlying67, asIntOf, go_sem]
theorem idx2_1 (w : World) (a b : Int) : Sem.run Try.prog (Instr.index 67 (.agg #[.int .u64 a, .int .u64 b]) (.int .i64 1)) w = .ok (.int .u64 b) w := by
  simp [Instr.index, run_underlying Try.underlying67, asIntOf, go_sem]
theorem int_mod {n d : Nat} : ((n : Int) % (d : Int) = 0) ↔ n % d = 0 := by omega

theorem not_least_0 (n d P : Nat) (h5 : 5 ≤ d) (h : 2 * d ≤ P) (hP : P ≤ n) (hz : (n : Int) % (d : Int) = 0) : d ≠ n ∧ ¬ Pr.Pri n := by
  have hz' := int_mod.mp hz
  have : d < n := by omega
  exact ⟨by omega, Pr.not_pri_of (by omega) this hz'⟩

theorem least_any (n : Nat) (h2 : 1 < n) (hn : n < 4294967296) (w : World) : Calls Try.prog 27 #[.int .u64 (n : Nat)] w fun e w' => ∃ d : Nat, e = .returned (.int .u64 (d : Nat)) ∧ (d = n ↔ Pr.Pri n) ∧ Below w.heap.size w w' := by
  go_enter Try.func27, Try.ntmps27
  by_cases e2 : (n : Int) % 2 = 0
  · go_wp2
    go_step3
    go_wp2
    rw [Exit.noGoto_ret]
    go_ret
    refine ⟨2, rfl, ?_, Below.refl _ _⟩
    rcases Nat.lt_or_ge 2 n with h | h
    · exact ⟨fun e => by omega, fun hp => absurd hp (Pr.not_pri_of (Nat.le_refl 2) h (by omega))⟩
    · have : n = 2 := by omega
      subst this
      exact ⟨fun _ => Pr.pri_of_small (by omega) fun d h1 h2 => by
        have : 2 * 2 ≤ d * d := Nat.mul_le_mul h1 h1
        omega, fun _ => rfl⟩
  by_cases e3 : (n : Int) % 3 = 0
  · go_wp2
    go_step3
    go_wp2
    rw [Exit.noGoto_ret]
    go_ret
    refine ⟨3, rfl, ?_, Below.refl _ _⟩
    rcases Nat.lt_or_ge 3 n with h | h
    · exact ⟨fun e => by omega, fun hp => absurd hp (Pr.not_pri_of (by omega) h (by omega))⟩
    · have : n = 3 := by omega
      subst this
      exact ⟨fun _ => Pr.pri_of_small (by omega) fun d h1 h2 => by
        have : 2 * 2 ≤ d * d := Nat.mul_le_mul h1 h1
        omega, fun _ => rfl⟩
  go_wp2
  go_step3
  go_wp2
  go_step3
  go_wp2
  have f2 : n % 2 ≠ 0 := by omega
  have f3 : n % 3 ≠ 0 := by omega
  go_loopg [3, 4] 65600 (fun g s3 s4 wr => ∃ low : Nat, s3 = .int .u64 (n : Nat) ∧ s4 = .int .u64 (low : Nat) ∧ 5 ≤ low ∧ low + g = 65605 ∧ Hid (low % 6 = 5 ∧ ∀ d, 2 ≤ d → d < low → n % d ≠ 0) ∧ Hid (Below w.heap.size w wr))
  case atStart => exact ⟨5, rfl, rfl, by omega, by omega, ⟨rfl, fun d h1 h2 h3 => by
    have : d = 2 ∨ d = 3 ∨ d = 4 := by omega
    rcases this with e | e | e <;> (subst e; omega)⟩, Below.refl _ _⟩
  case round =>
    obtain ⟨low, rfl, rfl, h5, hlg, HI, BW⟩ := hrel
    obtain ⟨G, rfl⟩ : ∃ G : Nat, G = gk := ⟨_, rfl⟩
    have hll : low * low ≤ 65605 * 65605 := Nat.mul_le_mul (by omega) (by omega)
    obtain ⟨P, hP⟩ : ∃ P, P = low * low := ⟨_, rfl⟩
    have hw : IntKind.wrap .u64 ((low : Int) * (low : Int)) = (P : Int) := by
      rw [← Int.natCast_mul, ← hP]
      rw [IntKind.wrap_u64]
      omega
    have hlp : low ≤ P ∧ 5 * low ≤ P := by rw [hP]; exact ⟨Nat.le_mul_of_pos_left _ (by omega), Nat.mul_le_mul_right _ h5⟩
    by_cases hle : (P : Int) ≤ (n : Int)
    · have HP := Lib.hid hP
      have HG : Hid (6 ≤ G) := by
        show 6 ≤ G
        rcases Nat.lt_or_ge G 6 with h | h
        · have : 65600 * 65600 ≤ low * low := Nat.mul_le_mul (by omega) (by omega)
          omega
        · exact h
      clear hP hll
      go_wp2
      obtain ⟨wo, rfl⟩ : ∃ wo : World, wo = wr := ⟨_, rfl⟩
      go_loopg [3, 27] 2 (fun g s3 s27 wi => ∃ i : Nat, s3 = .int .u64 (n : Nat) ∧ s27 = .int .i64 (i : Nat) ∧ i + g = 2 ∧ Hid (∀ j, j < i → n % (low + 2 * j) ≠ 0) ∧ Hid (Below w.heap.size w wi))
      case atStart => exact ⟨0, rfl, rfl, rfl, fun j h => absurd h (Nat.not_lt_zero _), BW.out⟩
      case round =>
        obtain ⟨i, rfl, rfl, hig, HJ, BI⟩ := hrel
        have hc : i = 0 ∨ i = 1 ∨ i = 2 := by omega
        have HIG := Lib.hid hig
        clear hig
        rcases hc with rfl | rfl | rfl
        · by_cases hz : (n : Int) % (low : Int) = 0
          · have ix := idx2_0 wr (low : Int) ((low : Int) + 2)
            have HZ := Lib.hid (not_least_0 n low P h5 (by omega) (by omega) hz)
            go_wp2
            rw [Exit.noGoto_ret]
            go_ret
            exact ⟨low, rfl, ⟨fun h => absurd h HZ.out.1, fun h => absurd h HZ.out.2⟩, BI.out⟩
          · have ix := idx2_0 wr (low : Int) ((low : Int) + 2)
            go_wp2
            go_roundg 1
            case measure => have := HIG.out; omega
            case rel => exact ⟨1, rfl, rfl, rfl, fun j hj => by
              have : j = 0 := by omega
              subst this
              exact fun h => hz (int_mod.mpr h), BI.out⟩
        · by_cases hz : (n : Int) % ((low : Int) + 2) = 0
          · have ix := idx2_1 wr (low : Int) ((low : Int) + 2)
            have HZ := Lib.hid (not_least_0 n (low + 2) P (by omega) (by omega) (by omega) hz)
            go_wp2
            rw [Exit.noGoto_ret]
            go_ret
            exact ⟨low + 2, by simp, ⟨fun h => absurd h HZ.out.1, fun h => absurd h HZ.out.2⟩, BI.out⟩
          · have ix := idx2_1 wr (low : Int) ((low : Int) + 2)
            go_wp2
            go_roundg 0
            case measure => have := HIG.out; omega
            case rel => exact ⟨2, rfl, rfl, rfl, fun j hj => by
              have : j = 0 ∨ j = 1 := by omega
              rcases this with e | e
              · subst e; exact HJ.out 0 (by omega)
              · subst e
                exact fun h => hz (int_mod.mpr h), BI.out⟩
        · go_wp2
          go_roundg (G - 6)
          case measure => have := HG.out; omega
          case rel =>
            have hG := HG.out
            refine ⟨low + 6, rfl, by simp, by omega, by omega, ⟨by have := HI.out.1; omega, ?_⟩, BI.out⟩
            exact least_six n low f2 f3 HI.out.1 HI.out.2 (by simpa using HJ.out 0 (by omega)) (by simpa using HJ.out 1 (by omega))
    · have hpn : Pr.Pri n := Pr.pri_of_small (by omega) fun d hd hdd => HI.out.2 d hd (by
        apply Decidable.byContradiction; intro hc
        have : low * low ≤ d * d := Nat.mul_le_mul (by omega) (by omega)
        omega)
      clear hP hll
      have HPN := Lib.hid hpn
      clear hpn
      go_wp2
      go_ret
      exact ⟨n, rfl, ⟨fun _ => HPN.out, fun _ => rfl⟩, BW.out⟩
end Go.Proofs.Ytnphoelbbgmehaa
