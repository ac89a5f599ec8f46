/-
  The statements' helpers TwinBytes (a copy with one byte of spare room behind it) and LeftBytes (it is as it was).
-/
import Derived.Test.YtkmjfaaelkmnkaaDoorBkWords
import Derived.Test.YtkmjfaaelkmnkaaDoorCalls
import Derived.Deep.QuietTactic
import Derived.BigQuiet
import Derived.Outline
namespace Go.Proofs.YtkmjfaaelkmnkaaDoor
set_option linter.unusedSimpArgs false
set_option linter.unusedVariables false
open Go.RowKit

/-- a twin of l: its bytes, and 77 behind them, in a block of their own -/
theorem below_drewN {B : Nat} {a w : World} (h : Below B a w) (n : Nat) : Below B a (w.drewN n) := ⟨h.os, h.tape, h.output, h.size, h.block⟩

def Twin (w : World) (g : Nat) (l : List Nat) : Prop := At w g 5 (bs (l ++ [77])).toArray

theorem Twin.rd {w : World} {g : Nat} {l : List Nat} (h : Twin w g l) : Rd w (some ⟨g, 0, none⟩) l.length (bs l) := by
  refine ⟨bs_len l, fun _ => ⟨g, 0, rfl, h.lt, fun j u hu => ?_⟩⟩
  rw [Nat.zero_add, At.cell h j, bs_append]
  have hj : j < (bs l).length := (List.getElem?_eq_some_iff.1 hu).1
  simp only [List.getElem?_toArray]
  rw [List.getElem?_append_left hj]
  exact hu
theorem Twin.last {w : World} {g : Nat} {l : List Nat} (h : Twin w g l) : w.cell? ⟨g, l.length, none⟩ = some (.int .u8 77) := by
  rw [At.cell h, bs_append]
  simp only [List.getElem?_toArray]
  rw [List.getElem?_append_right (by rw [bs_len]; exact Nat.le_refl _), bs_len, Nat.sub_self]
  rfl
theorem Twin.own {w : World} {g N : Nat} {l : List Nat} (h : Twin w g l) (hN : N ≤ g) (hl : l.length + 1 ≤ maxLen) : w.ownsRow N 5 1 (.slice (some ⟨g, 0, none⟩) l.length (l.length + 1)) l.length (bs l) := by
  have := at_own (base := N) (n := l.length) (c := l.length + 1) h hN (by omega) hl (by simp [bs])
  rwa [show (bs (l ++ [77])).toArray.toList.take l.length = bs l by simp [bs]] at this

theorem bs_step (l : List Nat) (k : Nat) (h : k < l.length) : bs (l.take k) ++ [Value.int .u8 ((l[k]?.getD 0 : Nat) : Int)] = bs (l.take (k + 1)) := by
  rw [List.take_succ_eq_append_getElem h, bs_append]
  simp [bs, h]

set_option maxHeartbeats 1000000 in
theorem twin_ok (A : Option Addr) (n c : Nat) (l : List Nat) (w : World) (hn : n ≤ 4194304) (hr : Rd w A n (bs l)) :
    Calls Tryd.prog 36 #[.slice A n c] w fun e w' => e = .returned (.slice (some ⟨w.heap.size, 0, none⟩) n (n + 1)) ∧ Twin w' w.heap.size l ∧ Below w.heap.size w w' := by
  obtain ⟨i0, hi, hz0, hz1, hz2⟩ := info_parts Tryd.info5
  have hln : l.length = n := by have := hr.1; rwa [bs_len] at this
  have HL := Lib.hid hln
  clear hln
  go_enter Tryd.func36, Tryd.ntmps36
  go_wp2_with (at_make; refine wpList_make_own _ rfl _ _ 22 rfl w.heap.size 5 i0 (.int .u8 0) 1 Tryd.underlying22 hi hz0 hz1 _ _ _ (n + 1) rfl rfl (by omega) ?b2 ?b3 (Nat.le_refl _) ?_)
  case b2 => rw [hz2]; omega
  case b3 => unfold maxLen; omega
  intro w0 hown0 hgrow0
  have hb0 : Below w.heap.size w w0 := (Below.refl _ _).grown hgrow0 (Nat.le_refl _) (by simp)
  clear hgrow0
  go_wp2
  go_loopw [3, 4] (fun v s wr => ∃ k : Nat, k ≤ n ∧ s = .int .i64 k ∧ v = .slice (some ⟨w.heap.size, 0, none⟩) k (n + 1) ∧ wr.ownsRow w.heap.size 5 1 (.slice (some ⟨w.heap.size, 0, none⟩) k (n + 1)) k (bs (l.take k)) ∧ Below w.heap.size w wr) (fun _ s _ => n - (intOf s).toNat)
  case atStart => exact ⟨0, Nat.zero_le _, rfl, rfl, by simpa [bs] using hown0, hb0⟩
  case round =>
    obtain ⟨k, hk, rfl, rfl, hown, hbr⟩ := hrel
    clear hown0 hb0
    by_cases hlt : k < n
    · obtain ⟨b, off, rfl, hbs, hcell⟩ := hr.spot hlt
      have hx : wr.cell? ⟨b, off + k, none⟩ = some (.int .u8 (l.getD k 0 : Nat)) := (hbr.cell (by exact hbs)).trans (hcell k _ (bs_at l k (by have := HL.out; omega)))
      have hst := Lib.hid (bs_step l k (by have := HL.out; omega))
      clear hcell hr
      go_wp2_with (at_builtin; refine wpList_append_fits _ rfl (.tmp 15) (.tmp 20) 22 rfl w.heap.size 5 i0 1 Tryd.underlying22 hi hz1 w.heap.size k (n + 1) _ rfl (hown.alloc _) ⟨wr.heap.size, 0, none⟩ 1 1 [.int .u8 ((l[k]?.getD 0 : Nat) : Int)] rfl rfl (one_new _ _ _) (one_cell _ _) (by omega) ?_; intro w2 hown2 hgrow2)
      rw [hst.out] at hown2
      have hbr2 : Below w.heap.size w w2 := (hbr.alloc hbr.size _).grown hgrow2 (by have := hbr.size; simp; omega) (by simp)
      clear hown hgrow2 hbr
      go_wp2
      go_roundw
      case rel => exact ⟨k + 1, by omega, by go_num, rfl, hown2, hbr2⟩
      case measure => simp [intOf]; omega
    · obtain rfl : k = n := by omega
      clear hr
      rw [List.take_of_length_le (by have := HL.out; omega)] at hown
      go_wp2_with (at_builtin; refine wpList_append_fits _ rfl (.tmp 22) (.tmp 23) 22 rfl w.heap.size 5 i0 1 Tryd.underlying22 hi hz1 w.heap.size k (k + 1) _ rfl (hown.alloc _) ⟨wr.heap.size, 0, none⟩ 1 1 [.int .u8 77] rfl rfl (one_new _ _ _) (one_cell _ _) (by omega) ?_; intro w2 hown2 hgrow2)
      have hbr2 : Below w.heap.size w w2 := (hbr.alloc hbr.size _).grown hgrow2 (by have := hbr.size; simp; omega) (by simp)
      clear hown hgrow2 hbr
      go_ret
      refine ⟨rfl, ?_, hbr2⟩
      obtain ⟨cur, hat, _, _, _, hs, ht⟩ := own_at hown2
      have e : cur = (bs (l ++ [77])).toArray := by
        apply Array.ext'
        rw [bs_append]
        have := ht
        rw [List.take_of_length_le (by simp; omega)] at this
        simpa [bs] using this
      unfold Twin
      rw [← e]
      exact hat

theorem left_ok (A : Option Addr) (n c g : Nat) (l : List Nat) (w : World) (hn : n ≤ 4194304) (hr : Rd w A n (bs l)) (ht : Twin w g l) :
    Calls Tryd.prog 46 #[.slice (some ⟨g, 0, none⟩) n (n + 1), .slice A n c] w fun e w' => e = .returned (.bool true) ∧ Below w.heap.size w w' := by
  have hln : l.length = n := by have := hr.1; rwa [bs_len] at this
  have hT := ht.rd
  have h77 := ht.last
  rw [hln] at hT h77
  have HL := Lib.hid hln
  clear hln ht
  go_enter Tryd.func46, Tryd.ntmps46
  go_wp2
  go_loopw [5] (fun s wr => ∃ k q : Nat, k ≤ n ∧ s = .int .i64 k ∧ wr = w.drewN q) (fun s _ => n - (intOf s).toNat)
  case atStart => exact ⟨0, 0, Nat.zero_le _, rfl, rfl⟩
  case round =>
    obtain ⟨k, q, hk, rfl, rfl⟩ := hrel
    by_cases hlt : k < n
    · obtain ⟨b, off, rfl, hbs, hcell⟩ := hr.spot hlt
      obtain ⟨b', off', e', hbs', hcell'⟩ := hT.spot hlt
      injection e' with e'
      injection e' with e1 e2
      subst e1 e2
      have h1 : w.cell? ⟨b, off + k, none⟩ = some (.int .u8 (l.getD k 0 : Nat)) := hcell k _ (bs_at l k (by have := HL.out; omega))
      have h2 : w.cell? ⟨g, k, none⟩ = some (.int .u8 (l.getD k 0 : Nat)) := by have := hcell' k _ (bs_at l k (by have := HL.out; omega)); rwa [Nat.zero_add] at this
      have hi1 : (k : Int) < (n : Int) := by omega
      clear hcell hcell' hr hT
      go_wp2
      go_quiet (fail)
      go_wp2
      go_roundw
      case rel => exact ⟨k + 1, q + nq, by omega, by go_num, rfl⟩
      case measure => simp [intOf]; omega
    · obtain rfl : k = n := by omega
      have hi1 : (k : Int) + 1 ≤ ((k + 1 : Nat) : Int) := by omega
      go_wp2
      go_ret
      exact ⟨rfl, below_drewN (Below.refl _ _) q⟩
end Go.Proofs.YtkmjfaaelkmnkaaDoor
