/-
  bits.RotateLeft32, shas.turned, the document's own round: bits moved down, those that fall off coming in at the top.
-/
import Derived.Test.YtkmjfaaelkmnkaaDoorProg
import Derived.Test.YtkmjfaaelkmnkaaDoorSha
namespace Go.Proofs.YtkmjfaaelkmnkaaDoor
open Go.RowKit
set_option linter.unusedSimpArgs false
set_option linter.unusedVariables false

/-- places, as values -/
def ints (l : List Nat) : List Value := l.map fun x : Nat => .int .i64 (x : Int)
theorem ints_at (l : List Nat) (k : Nat) (h : k < l.length) : (ints l)[k]? = some (.int .i64 (l.getD k 0 : Nat)) := by simp [ints, h]

theorem rot_low (n : Nat) (h0 : 0 < n) (h : n < 32) : bits BinOp.and IntKind.u64 (IntKind.u64.wrap (-(n : Int))) 31 = ((32 - n : Nat) : Int) := by
  rw [IntKind.wrap_u64, show (-(n : Int)) % 18446744073709551616 = ((18446744073709551616 - n : Nat) : Int) by omega, show (31 : Int) = ((31 : Nat) : Int) from rfl, u64_and_nat _ _ (by omega) (by omega), nat_mask5]
  omega
theorem rot_form (x n : Nat) (hx : x < 4294967296) :
    bits BinOp.or IntKind.u32 ((x : Int) * 2 ^ (32 - n) % 4294967296) ((x : Int) / 2 ^ n) = ((rot x n : Nat) : Int) := by
  have e1 : (x : Int) * 2 ^ (32 - n) % 4294967296 = ((x * 2 ^ (32 - n) % 4294967296 : Nat) : Int) := by
    rw [Int.natCast_emod, Int.natCast_mul, Int.natCast_pow]; rfl
  have e2 : (x : Int) / 2 ^ n = ((x / 2 ^ n : Nat) : Int) := by rw [Int.natCast_ediv, Int.natCast_pow]; rfl
  rw [e1, e2, u32_or_nat _ _ (m32 _) (Nat.lt_of_le_of_lt (Nat.div_le_self _ _) hx), Nat.or_comm]
  rfl
theorem rot_form' (x n : Nat) (hx : x < 4294967296) :
    bits BinOp.or IntKind.u32 ((x : Int) / 2 ^ n) ((x : Int) * 2 ^ (32 - n) % 4294967296) = ((rot x n : Nat) : Int) := by
  have e1 : (x : Int) * 2 ^ (32 - n) % 4294967296 = ((x * 2 ^ (32 - n) % 4294967296 : Nat) : Int) := by
    rw [Int.natCast_emod, Int.natCast_mul, Int.natCast_pow]; rfl
  have e2 : (x : Int) / 2 ^ n = ((x / 2 ^ n : Nat) : Int) := by rw [Int.natCast_ediv, Int.natCast_pow]; rfl
  rw [e1, e2, u32_or_nat _ _ (Nat.lt_of_le_of_lt (Nat.div_le_self _ _) hx) (m32 _)]
  rfl

theorem rotl_ok (x n : Nat) (hx : x < 4294967296) (h0 : 0 < n) (h : n < 32) (w : World) :
    Calls Tryd.prog 76 #[.int .u32 (x : Nat), .int .i64 (-(n : Int))] w fun e w' => e = .returned (.int .u32 (rot x n : Nat)) ∧ w = w' := by
  have L := rot_low n h0 h
  have M : IntKind.u64.wrap (32 - ((32 - n : Nat) : Int)) = (n : Int) := by rw [IntKind.wrap_u64]; omega
  have p1 : min (32 - n) 32 = 32 - n := by omega
  have p2 : min n 32 = n := by omega
  have F := Lib.hid (rot_form x n hx)
  go_enter Tryd.func76, Tryd.ntmps76
  go_wp2
  rw [F.out]
  go_ret
  exact ⟨rfl, rfl⟩

/-- the document's own -/
theorem round_ok (x n : Nat) (hx : x < 4294967296) (h0 : 0 < n) (h : n < 32) (w : World) :
    Calls Tryd.prog 82 #[.int .u32 (x : Nat), .int .u64 (n : Nat)] w fun e w' => e = .returned (.int .u32 (rot x n : Nat)) ∧ w = w' := by
  have M : IntKind.u64.wrap (32 - (n : Int)) = ((32 - n : Nat) : Int) := by rw [IntKind.wrap_u64]; omega
  have p1 : min (32 - n) 32 = 32 - n := by omega
  have p2 : min n 32 = n := by omega
  have F := Lib.hid (rot_form' x n hx)
  go_enter Tryd.func82, Tryd.ntmps82
  go_wp2
  rw [F.out]
  go_ret
  exact ⟨rfl, rfl⟩

/-- shas.turned -/
theorem turned_ok (x : Nat) (A : Option Addr) (n c : Nat) (ns : List Nat) (w : World) (hx : x < 4294967296) (hm : n ≤ 100) (hr : Rd w A n (ints ns)) (hb : ∀ y ∈ ns, 0 < y ∧ y < 32) :
    Calls Tryd.prog 53 #[.int .u32 (x : Nat), .slice A n c] w fun e w' => e = .returned (.int .u32 (turn x ns : Nat)) ∧ w = w' := by
  have hln : ns.length = n := by have := hr.1; simpa [ints] using this
  go_enter Tryd.func53, Tryd.ntmps53
  go_wp2
  go_loop [5, 10] (fun t i => ∃ j : Nat, j ≤ n ∧ i = .int .i64 j ∧ t = .int .u32 (turn x (ns.take j) : Nat)) (fun _ i => n - (intOf i).toNat)
  case atStart => exact ⟨0, Nat.zero_le _, rfl, rfl⟩
  case round =>
    obtain ⟨j, hj, rfl, rfl⟩ := hrel
    by_cases hlt : j < n
    · obtain ⟨b, off, rfl, hbs, hcell⟩ := hr.spot hlt
      have hjl : j < ns.length := by omega
      have hx1 : w.cell? ⟨b, off + j, none⟩ = some (.int .i64 (ns.getD j 0 : Nat)) := hcell j _ (ints_at ns j hjl)
      have hy := hb (ns.getD j 0) (by rw [List.getD_eq_getElem?_getD, List.getElem?_eq_getElem hjl]; exact List.getElem_mem hjl)
      have C := Lib.hid (rotl_ok x (ns.getD j 0) hx hy.1 hy.2 w)
      have T := Lib.hid (turn_step x ns j hjl)
      have T1 := turn_lt hx (ns.take j)
      have T2 := rot_lt (n := ns.getD j 0) hx
      have N : IntKind.i64.wrap (-((ns.getD j 0 : Nat) : Int)) = -((ns.getD j 0 : Nat) : Int) := by have := hy.2; generalize ns.getD j 0 = q at *; simp [IntKind.wrap, IntKind.bits, IntKind.signed]; omega
      clear hcell hr hb
      generalize ns.getD j 0 = q at *
      generalize turn x (ns.take j) = p at *
      generalize hR : rot x q = r at *
      have U := u32_xor_nat p r T1 T2
      go_wp2_with (go_at_call 76; refine C.out.mono ?_; rintro e w' ⟨rfl, rfl⟩)
      go_round
      case rel => exact ⟨j + 1, by omega, by go_num, by rw [T.out]⟩
      case measure => simp [intOf]; omega
    · obtain rfl : j = n := by omega
      rw [List.take_of_length_le (by omega)]
      go_wp2
      go_ret
      exact ⟨rfl, rfl⟩
end Go.Proofs.YtkmjfaaelkmnkaaDoor
