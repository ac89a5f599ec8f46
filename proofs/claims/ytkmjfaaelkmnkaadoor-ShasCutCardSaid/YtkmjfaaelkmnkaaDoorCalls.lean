/-
  nums.Put, PutLong, PutBytes, GetLong, GetBytes: what they answer.
-/
import Derived.Test.YtkmjfaaelkmnkaaDoorGet
import Derived.Test.YtkmjfaaelkmnkaaDoorPut
namespace Go.Proofs.YtkmjfaaelkmnkaaDoor
set_option linter.unusedSimpArgs false
set_option linter.unusedVariables false
open Go.RowKit

/-- a row of words that a call has just built -/
theorem Rd.built (w : World) (t : TypeId) (xs : List Value) (h : 0 < xs.length) : Rd (w.alloc (.cells xs.toArray t)) (some ⟨w.heap.size, 0, none⟩) xs.length xs := by
  refine ⟨rfl, fun _ => ⟨_, 0, rfl, by simp, fun j u hu => ?_⟩⟩
  rw [Nat.zero_add, cell_of_row _ w.heap.size j xs.toArray t (0, 0) (heap_alloc_new w _)]
  simpa using hu

theorem put_any (A : Option Addr) (n c k x : Nat) (kk : Int) (l : List Nat) (w : World) (hk : (kk < 0 ∧ k = 0) ∨ (0 ≤ kk ∧ kk ≤ 8 ∧ kk = k) ∨ (8 < kk ∧ k = 8)) (hn : n ≤ 4194304) (hc : n ≤ c) (hnil : A = none → n = 0 ∧ c = 0)
    (hr : Rd w A n (bs l)) (hx : x < 18446744073709551616) :
    Calls Tryd.prog 43 #[.slice A n c, .int .u64 x, .int .i64 kk] w fun e w' => e = .returned (.slice (some ⟨w.heap.size + 1, 0, none⟩) (n + k) (n + k)) ∧
      w'.ownsRow (w.heap.size + 1) 5 1 (.slice (some ⟨w.heap.size + 1, 0, none⟩) (n + k) (n + k)) (n + k) (bs (l ++ be k x)) ∧ Below w.heap.size w w' := by
  have hk8 : k ≤ 8 := by omega
  have hrw : Rd (w.alloc (.cells #[.int .u64 (x : Int)] 35)) (some ⟨w.heap.size, 0, none⟩) 1 (ws [x]) := Rd.built w 35 (ws [x]) (by simp [ws])
  have H := Lib.hid ((putWords_ok A _ n c 1 1 k k l [x] _ hk8 (by omega) hn hc hnil (hr.alloc _) hrw (by simpa using hx) (by simp)).mono (R' := fun e w' => e = .returned (.slice (some ⟨w.heap.size + 1, 0, none⟩) (n + k) (n + k)) ∧
      w'.ownsRow (w.heap.size + 1) 5 1 (.slice (some ⟨w.heap.size + 1, 0, none⟩) (n + k) (n + k)) (n + k) (bs (l ++ be k x)) ∧ Below w.heap.size w w')
      (fun e w' h => by
        obtain ⟨he, ho, hb⟩ := h
        simp at he ho
        exact ⟨he, ho, ((Below.refl _ _).alloc (Nat.le_refl _) _).trans (hb.mono (by simp))⟩))
  clear hrw hr hx
  rcases hk with ⟨h1, rfl⟩ | ⟨h1, h2, rfl⟩ | ⟨h1, rfl⟩
  · have e1 : (if kk < 0 then (0 : Int) else kk) = 0 := if_pos h1
    go_enter Tryd.func43, Tryd.ntmps43
    go_wp2_with (go_at_call 62; refine H.out.mono ?_; rintro e w' ⟨rfl, hown, hb⟩)
    go_ret
    exact ⟨rfl, hown, hb⟩
  · have e1 : (if (k : Int) < 0 then (0 : Int) else k) = k := if_neg (by omega)
    go_enter Tryd.func43, Tryd.ntmps43
    go_wp2_with (go_at_call 62; refine H.out.mono ?_; rintro e w' ⟨rfl, hown, hb⟩)
    go_ret
    exact ⟨rfl, hown, hb⟩
  · have e1 : (if kk < 0 then (0 : Int) else kk) = kk := if_neg (by omega)
    go_enter Tryd.func43, Tryd.ntmps43
    go_wp2_with (go_at_call 62; refine H.out.mono ?_; rintro e w' ⟨rfl, hown, hb⟩)
    go_ret
    exact ⟨rfl, hown, hb⟩

end Go.Proofs.YtkmjfaaelkmnkaaDoor
