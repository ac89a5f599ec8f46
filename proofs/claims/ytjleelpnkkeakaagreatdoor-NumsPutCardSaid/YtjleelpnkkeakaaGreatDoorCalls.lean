/-
  nums.Put, PutLong, PutBytes, GetLong, GetBytes: what they answer.
-/
import Derived.Test.YtjleelpnkkeakaaGreatDoorGet
import Derived.Test.YtjleelpnkkeakaaGreatDoorPut
namespace Go.Proofs.YtjleelpnkkeakaaGreatDoor
open Go.RowKit

/-- a row of words that a call has just built -/
theorem Rd.built (w : World) (t : TypeId) (xs : List Value) (h : 0 < xs.length) : Rd (w.alloc (.cells xs.toArray t)) (some ⟨w.heap.size, 0, none⟩) xs.length xs := by
  refine ⟨rfl, fun _ => ⟨_, 0, rfl, by simp, fun j u hu => ?_⟩⟩
  rw [Nat.zero_add, cell_of_row _ w.heap.size j xs.toArray t (0, 0) (heap_alloc_new w _)]
  simpa using hu

theorem put_any (A : Option Addr) (n c k x : Nat) (kk : Int) (l : List Nat) (w : World) (hk : (kk < 0 ∧ k = 0) ∨ (0 ≤ kk ∧ kk ≤ 8 ∧ kk = k) ∨ (8 < kk ∧ k = 8)) (hn : n ≤ 4194304) (hc : n ≤ c) (hnil : A = none → n = 0 ∧ c = 0)
    (hr : Rd w A n (bs l)) (hx : x < 18446744073709551616) :
    Calls Tryz.prog 7 #[.slice A n c, .int .u64 x, .int .i64 kk] w fun e w' => e = .returned (.slice (some ⟨w.heap.size + 1, 0, none⟩) (n + k) (n + k)) ∧
      w'.ownsRow (w.heap.size + 1) 5 1 (.slice (some ⟨w.heap.size + 1, 0, none⟩) (n + k) (n + k)) (n + k) (bs (l ++ be k x)) ∧ Below w.heap.size w w' := by
  have hk8 : k ≤ 8 := by omega
  have hrw : Rd (w.alloc (.cells #[.int .u64 (x : Int)] 23)) (some ⟨w.heap.size, 0, none⟩) 1 (ws [x]) := Rd.built w 23 (ws [x]) (by simp [ws])
  have H := Lib.hid ((putWords_ok A _ n c 1 1 k k l [x] _ hk8 (by omega) hn hc hnil (hr.alloc _) hrw (by simpa using hx) (by simp)).mono (R' := fun e w' => e = .returned (.slice (some ⟨w.heap.size + 1, 0, none⟩) (n + k) (n + k)) ∧
      w'.ownsRow (w.heap.size + 1) 5 1 (.slice (some ⟨w.heap.size + 1, 0, none⟩) (n + k) (n + k)) (n + k) (bs (l ++ be k x)) ∧ Below w.heap.size w w')
      (fun e w' h => by
        obtain ⟨he, ho, hb⟩ := h
        simp at he ho
        exact ⟨he, ho, ((Below.refl _ _).alloc (Nat.le_refl _) _).trans (hb.mono (by simp))⟩))
  clear hrw hr hx
  rcases hk with ⟨h1, rfl⟩ | ⟨h1, h2, rfl⟩ | ⟨h1, rfl⟩
  · have e1 : (if kk < 0 then (0 : Int) else kk) = 0 := if_pos h1
    go_enter Tryz.func7, Tryz.ntmps7
    go_wp2_with (go_at_call 23; refine H.out.mono ?_; rintro e w' ⟨rfl, hown, hb⟩)
    go_ret
    exact ⟨rfl, hown, hb⟩
  · have e1 : (if (k : Int) < 0 then (0 : Int) else k) = k := if_neg (by omega)
    go_enter Tryz.func7, Tryz.ntmps7
    go_wp2_with (go_at_call 23; refine H.out.mono ?_; rintro e w' ⟨rfl, hown, hb⟩)
    go_ret
    exact ⟨rfl, hown, hb⟩
  · have e1 : (if kk < 0 then (0 : Int) else kk) = kk := if_neg (by omega)
    go_enter Tryz.func7, Tryz.ntmps7
    go_wp2_with (go_at_call 23; refine H.out.mono ?_; rintro e w' ⟨rfl, hown, hb⟩)
    go_ret
    exact ⟨rfl, hown, hb⟩

def longs (a b p q : Nat) : List Nat := be 8 q ++ (be 8 p ++ (be 8 b ++ be 8 a))
theorem longs_len (a b p q : Nat) : (longs a b p q).length = 32 := by simp [longs, be_len]

theorem putLong_any (A : Option Addr) (n c a b p q : Nat) (l : List Nat) (w : World) (hn : n ≤ 4194304) (hc : n ≤ c) (hnil : A = none → n = 0 ∧ c = 0)
    (hr : Rd w A n (bs l)) (ha : a < 18446744073709551616) (hb : b < 18446744073709551616) (hp : p < 18446744073709551616) (hq : q < 18446744073709551616) :
    Calls Tryz.prog 8 #[.slice A n c, .agg #[.int .u64 a, .int .u64 b, .int .u64 p, .int .u64 q]] w fun e w' => e = .returned (.slice (some ⟨w.heap.size + 2, 0, none⟩) (n + 32) (n + 32)) ∧
      w'.ownsRow (w.heap.size + 2) 5 1 (.slice (some ⟨w.heap.size + 2, 0, none⟩) (n + 32) (n + 32)) (n + 32) (bs (l ++ longs a b p q)) ∧ Below w.heap.size w w' := by
  obtain ⟨wa, hwa⟩ : ∃ wa, wa = w.alloc (.cells #[.int .u64 (a : Int), .int .u64 (b : Int), .int .u64 (p : Int), .int .u64 (q : Int)] 25) := ⟨_, rfl⟩
  have hrw : Rd (wa.alloc (.cells #[.int .u64 (q : Int), .int .u64 (p : Int), .int .u64 (b : Int), .int .u64 (a : Int)] 23)) (some ⟨wa.heap.size, 0, none⟩) 4 (ws [q, p, b, a]) := Rd.built wa 23 (ws [q, p, b, a]) (by simp [ws])
  have hr1 : Rd wa A n (bs l) := by rw [hwa]; exact hr.alloc _
  have hsz : wa.heap.size = w.heap.size + 1 := by rw [hwa]; simp
  have hbw : Below w.heap.size w wa := by rw [hwa]; exact (Below.refl _ _).alloc (Nat.le_refl _) _
  have H := Lib.hid ((putWords_ok A _ n c 4 4 8 32 l [q, p, b, a] _ (by omega) (by omega) hn hc hnil (hr1.alloc _) hrw (by simp; omega) (by simp)).mono (R' := fun e w' => e = .returned (.slice (some ⟨w.heap.size + 2, 0, none⟩) (n + 32) (n + 32)) ∧
      w'.ownsRow (w.heap.size + 2) 5 1 (.slice (some ⟨w.heap.size + 2, 0, none⟩) (n + 32) (n + 32)) (n + 32) (bs (l ++ longs a b p q)) ∧ Below w.heap.size w w')
      (fun e w' h => by
        obtain ⟨he, ho, hb⟩ := h
        simp [hsz] at he ho
        exact ⟨he, ho, (hbw.alloc (by omega) _).trans (hb.mono (by simp; omega))⟩))
  rw [hsz] at H
  subst hwa
  clear hrw hr hr1 hbw hsz
  go_enter Tryz.func8, Tryz.ntmps8
  go_wp2_with (go_at_call 23; refine H.out.mono ?_; rintro e w' ⟨rfl, hown, hb⟩)
  go_ret
  exact ⟨rfl, hown, hb⟩
end Go.Proofs.YtjleelpnkkeakaaGreatDoor
