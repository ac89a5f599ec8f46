/-
  nums.Get: what it answers, whatever bytes it is given.
-/
import Derived.Test.YtkmjfaaelkmnkaaDoorProg
import Derived.Test.YtkmjfaaelkmnkaaDoorWords
import Derived.Laws.BitsAllLaws
namespace Go.Proofs.YtkmjfaaelkmnkaaDoor
open Go.RowKit

theorem val_step (l : List Nat) (j : Nat) (hj : j < 8) (hl : j < l.length) (hb : ∀ y ∈ l, y < 256) :
    bits BinOp.or IntKind.u64 (IntKind.u64.wrap (↑(val (List.take j l)) * 256)) (IntKind.u64.wrap ↑(l[j]?.getD 0)) = ((val (l.take (j + 1)) : Nat) : Int) := by
  have h1 := val_lt (l.take j) fun y hy => hb y (List.mem_of_mem_take hy)
  have h2 : (l.take j).length = j := by rw [List.length_take]; omega
  have h3 : 256 ^ j ≤ 256 ^ 7 := Nat.pow_le_pow_right (by decide) (by omega)
  rw [h2] at h1
  have h4 : (256 : Nat) ^ 7 = 72057594037927936 := by decide
  have h5 : l[j] < 256 := hb _ (List.getElem_mem hl)
  rw [List.take_succ_eq_append_getElem hl, val_snoc, IntKind.wrap_u64, IntKind.wrap_u64]
  generalize val (l.take j) = P at *
  have e1 : ((P : Int) * 256) % 18446744073709551616 = ((P * 256 : Nat) : Int) := by omega
  have e2 : (((l[j]?.getD 0 : Nat) : Int)) % 18446744073709551616 = ((l[j] : Nat) : Int) := by rw [List.getElem?_eq_getElem hl]; simp; omega
  rw [e1, e2, u64_or_nat _ _ (by omega) (by omega), nat_join 8 _ _ (by omega) h5]

theorem get_low (A : Option Addr) (n c : Nat) (k : Int) (w : World) (h : k < 0) :
    Calls Tryd.prog 50 #[.slice A n c, .int .i64 k] w fun e w' => e = .returned (.tuple #[.int .u64 0, .int .i64 1]) ∧ w = w' := by
  go_enter Tryd.func50, Tryd.ntmps50
  go_wp2
  go_ret2
  exact ⟨rfl, rfl⟩

theorem get_high (A : Option Addr) (n c : Nat) (k : Int) (w : World) (h : 8 < k) :
    Calls Tryd.prog 50 #[.slice A n c, .int .i64 k] w fun e w' => e = .returned (.tuple #[.int .u64 0, .int .i64 1]) ∧ w = w' := by
  have h0 : decide (k < 0) = false := by simp; omega
  go_enter Tryd.func50, Tryd.ntmps50
  go_wp2
  go_ret2
  exact ⟨rfl, rfl⟩

theorem get_short (A : Option Addr) (n c k : Nat) (w : World) (h8 : k ≤ 8) (h : n < k) :
    Calls Tryd.prog 50 #[.slice A n c, .int .i64 k] w fun e w' => e = .returned (.tuple #[.int .u64 0, .int .i64 5]) ∧ w = w' := by
  have h0 : decide ((k : Int) < 0) = false := by simp
  have h1 : decide ((8 : Int) < (k : Int)) = false := by simp; omega
  go_enter Tryd.func50, Tryd.ntmps50
  go_wp2
  go_ret2
  exact ⟨rfl, rfl⟩

theorem get_ok (A : Option Addr) (n c k : Nat) (l : List Nat) (w : World) (h8 : k ≤ 8) (h : k ≤ n) (hc : n ≤ c) (hm : c ≤ 9223372036854775807) (hr : Rd w A n (bs l)) (hb : ∀ y ∈ l, y < 256) :
    Calls Tryd.prog 50 #[.slice A n c, .int .i64 k] w fun e w' => e = .returned (.tuple #[.int .u64 (val (l.take k) : Nat), .int .i64 0]) ∧ w = w' := by
  have h0 : decide ((k : Int) < 0) = false := by simp
  have h1 : decide ((8 : Int) < (k : Int)) = false := by simp; omega
  have h2 : decide (n < k) = false := by simp; omega
  go_enter Tryd.func50, Tryd.ntmps50
  go_wp2
  go_loop [6, 23] (fun t i => ∃ j : Nat, j ≤ k ∧ i = .int .i64 j ∧ t = .int .u64 (val (l.take j) : Nat)) (fun _ i => k - (intOf i).toNat)
  case atStart => exact ⟨0, Nat.zero_le _, rfl, rfl⟩
  case round =>
    obtain ⟨j, hj, rfl, rfl⟩ := hrel
    by_cases hlt : j < k
    · obtain ⟨b, off, rfl, hbs, hcell⟩ := hr.spot (show j < n by omega)
      have hln : l.length = n := by have := hr.1; rw [bs_len] at this; exact this
      have hx : w.cell? ⟨b, off + j, none⟩ = some (.int .u8 (l.getD j 0 : Nat)) := hcell j _ (bs_at l j (by omega))
      have hv := Lib.hid (val_step l j (by omega) (by omega) hb)
      clear hcell hr hln hb
      go_wp2
      go_round
      case rel => exact ⟨j + 1, by omega, by go_num, by rw [hv.out]⟩
      case measure => simp [intOf]; omega
    · obtain rfl : j = k := by omega
      go_wp2
      go_ret2
      exact ⟨rfl, rfl⟩
end Go.Proofs.YtkmjfaaelkmnkaaDoor
