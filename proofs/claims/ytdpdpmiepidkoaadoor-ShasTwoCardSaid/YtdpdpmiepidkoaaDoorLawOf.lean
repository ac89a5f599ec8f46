/-
  ShasOf: the hash of any bytes is exactly the documented one; the bytes stay as they were.
-/
import Derived.Test.YtdpdpmiepidkoaaDoorOf
import Derived.Test.YtdpdpmiepidkoaaDoorROf
import Derived.Test.YtdpdpmiepidkoaaDoorEqH
namespace Go.Proofs.YtdpdpmiepidkoaaDoor
open Go.RowKit
set_option linter.unusedSimpArgs false
set_option linter.unusedVariables false

theorem Twin.on {w w' : World} {g : Nat} {l : List Nat} (h : Twin w g l) (hb : Below w.heap.size w w') : Twin w' g l := At.on h hb
set_option maxRecDepth 100000 in
theorem of_walk (A : Option Addr) (n c : Nat) (l : List Nat) (w : World) (hn : n ≤ 140737488351232) (hnc : n ≤ c) (hcm : c ≤ 9223372036854775807) (hnil : A = none → n = 0 ∧ c = 0) (hr : Rd w A n (bs l)) (hb : ∀ y ∈ l, y < 256) (T : Tabs w) :
    Calls Tryd.prog 3 #[.slice A n c] w fun e w' => e = .returned (.bool true) ∧ Below w.heap.size w w' := by
  have hln : l.length = n := by have := hr.1; rwa [bs_len] at this
  have HR := Lib.hid hr
  have HB := Lib.hid hb
  have HT := Lib.hid T
  have HN := Lib.hid hnil
  have HL := Lib.hid hln
  clear hr hb T hnil hln
  by_cases h : n ≤ 50000
  · have h' : ¬ (50000 : Int) < (n : Int) := by omega
    go_enter Tryd.func3, Tryd.ntmps3
    go_wp2_with fail
    refine (twin_ok A n c l w (by omega) HR.out).mono ?_
    rintro e w1 ⟨rfl, tw, b1⟩
    obtain ⟨g, hg⟩ : ∃ g, w.heap.size = g := ⟨_, rfl⟩
    have HG := Lib.hid hg
    rw [hg] at tw ⊢
    have TW1 := Lib.hid tw
    have R1 := Lib.hid (HR.out.below b1)
    have T1 := Lib.hid (HT.out.on b1)
    have B1 := Lib.hid b1
    have hrt := tw.rd
    rw [HL.out] at hrt
    have O := Lib.hid (of_ok (some ⟨g, 0, none⟩) n (n + 1) l w1 hrt (by omega) (by omega) HB.out T1.out (by omega))
    have EQ := eqH (sha l) (sha_len l)
    have RO : Hid (∀ w, Rd w A n (bs l) → Calls Tryd.prog 10 #[.slice A n c] w fun e w' => e = .returned (.agg (bs (sha l)).toArray) ∧ Below w.heap.size w w') := Lib.hid (fun w hr => rof_ok A n c l w hr HN.out HB.out (by omega))
    obtain ⟨xs, hxs⟩ : ∃ xs, bs (sha l) = xs := ⟨_, rfl⟩
    rw [hxs] at O EQ RO
    have HEQ := Lib.hid EQ
    clear tw b1 hg hrt hxs EQ
    go_wp2_with fail
    refine O.out.mono ?_
    rintro e w2 ⟨rfl, b2⟩
    have TW2 := Lib.hid (TW1.out.on b2)
    have R2 := Lib.hid (R1.out.below b2)
    have B2 := Lib.hid (bel_tr B1.out b2)
    clear O TW1 R1 B1 b2
    go_wp2_with fail
    refine (RO.out w2 R2.out).mono ?_
    rintro e w3 ⟨rfl, b3⟩
    have TW3 := Lib.hid (TW2.out.on b3)
    have R3 := Lib.hid (R2.out.below b3)
    have B3 := Lib.hid (bel_tr B2.out b3)
    clear TW2 R2 B2 b3 RO
    have EQ := HEQ.out
    go_wp2_with (simp only [EQ])
    refine (left_ok A n c g l w3 (by omega) R3.out TW3.out).mono ?_
    rintro e w4 ⟨rfl, b4⟩
    have B4 := Lib.hid (bel_tr B3.out b4)
    clear EQ HEQ TW3 R3 B3 b4
    go_wp2
    go_ret
    exact ⟨rfl, B4.out⟩
  · have h' : (50000 : Int) < (n : Int) := by omega
    go_enter Tryd.func3, Tryd.ntmps3
    go_wp2
    go_ret
    exact ⟨rfl, Below.refl _ _⟩
end Go.Proofs.YtdpdpmiepidkoaaDoor
