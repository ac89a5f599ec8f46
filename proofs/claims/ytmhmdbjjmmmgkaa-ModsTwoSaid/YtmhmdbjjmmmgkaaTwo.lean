/-
  The walk of ModsTwo: it answers true, and nothing that was there is changed.
-/
import Derived.Test.YtmhmdbjjmmmgkaaAlive4
namespace Go.Proofs.Ytmhmdbjjmmmgkaa
open Go.RowKit
set_option linter.unusedSimpArgs false
set_option linter.unusedVariables false
attribute [local go_sem ↓] Go.wp_at_zero Go.wp_at_succ

set_option maxRecDepth 100000 in
set_option maxHeartbeats 8000000 in
theorem two_i (X i j : Nat)
    (hi : i < 2)
    (Oi : ∀ w, Calls Try.prog 28 #[.int .u64 (i : Nat)] w fun e w' => e = .returned (num i) ∧ Below w.heap.size w w')
    (Oj : ∀ w, Calls Try.prog 28 #[.int .u64 (j : Nat)] w fun e w' => e = .returned (num j) ∧ Below w.heap.size w w')
    (w : World) : Calls Try.prog 10 #[.agg #[.int .u64 (i : Nat), .int .u64 (j : Nat)], num X] w fun e w' => e = .returned (.bool true) ∧ Below w.heap.size w w' := by
  have HOi := Lib.hid Oi
  have HOj := Lib.hid Oj
  clear Oi Oj
  have hi2 : (i : Int) < 2 := by omega
  go_enter Try.func10, Try.ntmps10
  go_wp2_with fail
  have BW := Lib.hid (Below.refl w.heap.size w)
  have Npr : At ((w.alloc (.cells #[.int .u64 (i : Nat), .int .u64 (j : Nat)] 48)).alloc (.cells #[.int .u64 (wd X 0 : Nat), .int .u64 (wd X 1 : Nat), .int .u64 (wd X 2 : Nat), .int .u64 (wd X 3 : Nat)] 24)) (w.heap.size) 48 #[.int .u64 (i : Nat), .int .u64 (j : Nat)] := (At.at_ _ _ _ _ (by simp)).alloc _
  have Nx : At ((w.alloc (.cells #[.int .u64 (i : Nat), .int .u64 (j : Nat)] 48)).alloc (.cells #[.int .u64 (wd X 0 : Nat), .int .u64 (wd X 1 : Nat), .int .u64 (wd X 2 : Nat), .int .u64 (wd X 3 : Nat)] 24)) (w.heap.size + 1) 24 #[.int .u64 (wd X 0 : Nat), .int .u64 (wd X 1 : Nat), .int .u64 (wd X 2 : Nat), .int .u64 (wd X 3 : Nat)] := At.at_ _ _ _ _ (by simp)
  have Ex : w.heap.size ≤ w.heap.size + 1 := by have := BW.out.size; omega
  have Dprx : w.heap.size ≠ w.heap.size + 1 := by omega
  have NB : Below w.heap.size w ((w.alloc (.cells #[.int .u64 (i : Nat), .int .u64 (j : Nat)] 48)).alloc (.cells #[.int .u64 (wd X 0 : Nat), .int .u64 (wd X 1 : Nat), .int .u64 (wd X 2 : Nat), .int .u64 (wd X 3 : Nat)] 24)) := gr_alloc (gr_alloc BW.out _) _
  clear BW 
  generalize ((w.alloc (.cells #[.int .u64 (i : Nat), .int .u64 (j : Nat)] 48)).alloc (.cells #[.int .u64 (wd X 0 : Nat), .int .u64 (wd X 1 : Nat), .int .u64 (wd X 2 : Nat), .int .u64 (wd X 3 : Nat)] 24)) = W1 at *
  generalize w.heap.size + 1 = gx at *
  obtain ⟨gpr, hg0⟩ : ∃ g, g = w.heap.size := ⟨_, rfl⟩
  rw [← hg0] at Npr ⊢
  rw [← hg0] at Dprx
  clear hg0
  have Fpr := Lib.hid Npr
  have Fx := Lib.hid Nx
  have BW := Lib.hid NB
  clear NB Npr Nx
  refine (HOi.out _).mono ?_
  rintro e v2 ⟨rfl, z2⟩
  have Npr := Lib.hid (Fpr.out.on z2)
  have Nx := Lib.hid (Fx.out.on z2)
  have NB := Lib.hid (bel_tr BW.out z2)
  clear BW z2 Fpr Fx
  have Fpr := Npr
  have Fx := Nx
  have BW := NB
  clear NB Npr Nx
  have Lpr := Fpr.out.lt
  have cpr0 : v2.cell? ⟨gpr, 0, none⟩ = some (.int .u64 (i : Nat)) := Fpr.out.cell 0
  have cpr1 : v2.cell? ⟨gpr, 1, none⟩ = some (.int .u64 (j : Nat)) := Fpr.out.cell 1
  go_wp2_with fail
  clear Lpr cpr0 cpr1
  have Nm : At (v2.alloc (.cells #[.int .u64 (wd i 0 : Nat), .int .u64 (wd i 1 : Nat), .int .u64 (wd i 2 : Nat), .int .u64 (wd i 3 : Nat)] 24)) (v2.heap.size) 24 #[.int .u64 (wd i 0 : Nat), .int .u64 (wd i 1 : Nat), .int .u64 (wd i 2 : Nat), .int .u64 (wd i 3 : Nat)] := At.at_ _ _ _ _ (by simp)
  have Dxm : gx ≠ v2.heap.size := by have := Fx.out.lt; omega
  have Npr : At (v2.alloc (.cells #[.int .u64 (wd i 0 : Nat), .int .u64 (wd i 1 : Nat), .int .u64 (wd i 2 : Nat), .int .u64 (wd i 3 : Nat)] 24)) gpr 48 #[.int .u64 (i : Nat), .int .u64 (j : Nat)] := Fpr.out.alloc _
  have Nx : At (v2.alloc (.cells #[.int .u64 (wd i 0 : Nat), .int .u64 (wd i 1 : Nat), .int .u64 (wd i 2 : Nat), .int .u64 (wd i 3 : Nat)] 24)) gx 24 #[.int .u64 (wd X 0 : Nat), .int .u64 (wd X 1 : Nat), .int .u64 (wd X 2 : Nat), .int .u64 (wd X 3 : Nat)] := Fx.out.alloc _
  have NB : Below w.heap.size w (v2.alloc (.cells #[.int .u64 (wd i 0 : Nat), .int .u64 (wd i 1 : Nat), .int .u64 (wd i 2 : Nat), .int .u64 (wd i 3 : Nat)] 24)) := gr_alloc BW.out _
  clear BW Fpr Fx
  generalize (v2.alloc (.cells #[.int .u64 (wd i 0 : Nat), .int .u64 (wd i 1 : Nat), .int .u64 (wd i 2 : Nat), .int .u64 (wd i 3 : Nat)] 24)) = W3 at *
  generalize v2.heap.size = gm at *
  have Fpr := Lib.hid Npr
  have Fx := Lib.hid Nx
  have Fm := Lib.hid Nm
  have BW := Lib.hid NB
  clear NB Npr Nx Nm
  refine (HOj.out _).mono ?_
  rintro e v4 ⟨rfl, z4⟩
  have Npr := Lib.hid (Fpr.out.on z4)
  have Nx := Lib.hid (Fx.out.on z4)
  have Nm := Lib.hid (Fm.out.on z4)
  have NB := Lib.hid (bel_tr BW.out z4)
  clear BW z4 Fpr Fx Fm
  have Fpr := Npr
  have Fx := Nx
  have Fm := Nm
  have BW := NB
  clear NB Npr Nx Nm
  have Lpr := Fpr.out.lt
  have cpr0 : v4.cell? ⟨gpr, 0, none⟩ = some (.int .u64 (i : Nat)) := Fpr.out.cell 0
  have cpr1 : v4.cell? ⟨gpr, 1, none⟩ = some (.int .u64 (j : Nat)) := Fpr.out.cell 1
  go_wp2_with fail
  clear Lpr cpr0 cpr1
  have Nn : At (v4.alloc (.cells #[.int .u64 (wd j 0 : Nat), .int .u64 (wd j 1 : Nat), .int .u64 (wd j 2 : Nat), .int .u64 (wd j 3 : Nat)] 24)) (v4.heap.size) 24 #[.int .u64 (wd j 0 : Nat), .int .u64 (wd j 1 : Nat), .int .u64 (wd j 2 : Nat), .int .u64 (wd j 3 : Nat)] := At.at_ _ _ _ _ (by simp)
  have Dxn : gx ≠ v4.heap.size := by have := Fx.out.lt; omega
  have Npr : At (v4.alloc (.cells #[.int .u64 (wd j 0 : Nat), .int .u64 (wd j 1 : Nat), .int .u64 (wd j 2 : Nat), .int .u64 (wd j 3 : Nat)] 24)) gpr 48 #[.int .u64 (i : Nat), .int .u64 (j : Nat)] := Fpr.out.alloc _
  have Nx : At (v4.alloc (.cells #[.int .u64 (wd j 0 : Nat), .int .u64 (wd j 1 : Nat), .int .u64 (wd j 2 : Nat), .int .u64 (wd j 3 : Nat)] 24)) gx 24 #[.int .u64 (wd X 0 : Nat), .int .u64 (wd X 1 : Nat), .int .u64 (wd X 2 : Nat), .int .u64 (wd X 3 : Nat)] := Fx.out.alloc _
  have Nm : At (v4.alloc (.cells #[.int .u64 (wd j 0 : Nat), .int .u64 (wd j 1 : Nat), .int .u64 (wd j 2 : Nat), .int .u64 (wd j 3 : Nat)] 24)) gm 24 #[.int .u64 (wd i 0 : Nat), .int .u64 (wd i 1 : Nat), .int .u64 (wd i 2 : Nat), .int .u64 (wd i 3 : Nat)] := Fm.out.alloc _
  have NB : Below w.heap.size w (v4.alloc (.cells #[.int .u64 (wd j 0 : Nat), .int .u64 (wd j 1 : Nat), .int .u64 (wd j 2 : Nat), .int .u64 (wd j 3 : Nat)] 24)) := gr_alloc BW.out _
  clear BW Fpr Fx Fm
  generalize (v4.alloc (.cells #[.int .u64 (wd j 0 : Nat), .int .u64 (wd j 1 : Nat), .int .u64 (wd j 2 : Nat), .int .u64 (wd j 3 : Nat)] 24)) = W5 at *
  generalize v4.heap.size = gn at *
  have Fpr := Lib.hid Npr
  have Fx := Lib.hid Nx
  have Fm := Lib.hid Nm
  have Fn := Lib.hid Nn
  have BW := Lib.hid NB
  clear NB Npr Nx Nm Nn
  refine (alive4_any _).mono ?_
  rintro e v6 ⟨rfl, z6⟩
  have Npr := Lib.hid (Fpr.out.on z6)
  have Nx := Lib.hid (Fx.out.on z6)
  have Nm := Lib.hid (Fm.out.on z6)
  have Nn := Lib.hid (Fn.out.on z6)
  have NB := Lib.hid (bel_tr BW.out z6)
  clear BW z6 Fpr Fx Fm Fn
  have Fpr := Npr
  have Fx := Nx
  have Fm := Nm
  have Fn := Nn
  have BW := NB
  clear NB Npr Nx Nm Nn
  go_wp2_with fail
  go_ret
  exact ⟨rfl, BW.out⟩

set_option maxRecDepth 100000 in
set_option maxHeartbeats 8000000 in
theorem two_j (X i j : Nat)
    (hi : 2 ≤ i)
    (hj : j < 2)
    (Oi : ∀ w, Calls Try.prog 28 #[.int .u64 (i : Nat)] w fun e w' => e = .returned (num i) ∧ Below w.heap.size w w')
    (Oj : ∀ w, Calls Try.prog 28 #[.int .u64 (j : Nat)] w fun e w' => e = .returned (num j) ∧ Below w.heap.size w w')
    (w : World) : Calls Try.prog 10 #[.agg #[.int .u64 (i : Nat), .int .u64 (j : Nat)], num X] w fun e w' => e = .returned (.bool true) ∧ Below w.heap.size w w' := by
  have HOi := Lib.hid Oi
  have HOj := Lib.hid Oj
  clear Oi Oj
  have hi2 : ¬ (i : Int) < 2 := by omega
  have hj2 : (j : Int) < 2 := by omega
  go_enter Try.func10, Try.ntmps10
  go_wp2_with fail
  have BW := Lib.hid (Below.refl w.heap.size w)
  have Npr : At ((w.alloc (.cells #[.int .u64 (i : Nat), .int .u64 (j : Nat)] 48)).alloc (.cells #[.int .u64 (wd X 0 : Nat), .int .u64 (wd X 1 : Nat), .int .u64 (wd X 2 : Nat), .int .u64 (wd X 3 : Nat)] 24)) (w.heap.size) 48 #[.int .u64 (i : Nat), .int .u64 (j : Nat)] := (At.at_ _ _ _ _ (by simp)).alloc _
  have Nx : At ((w.alloc (.cells #[.int .u64 (i : Nat), .int .u64 (j : Nat)] 48)).alloc (.cells #[.int .u64 (wd X 0 : Nat), .int .u64 (wd X 1 : Nat), .int .u64 (wd X 2 : Nat), .int .u64 (wd X 3 : Nat)] 24)) (w.heap.size + 1) 24 #[.int .u64 (wd X 0 : Nat), .int .u64 (wd X 1 : Nat), .int .u64 (wd X 2 : Nat), .int .u64 (wd X 3 : Nat)] := At.at_ _ _ _ _ (by simp)
  have Ex : w.heap.size ≤ w.heap.size + 1 := by have := BW.out.size; omega
  have Dprx : w.heap.size ≠ w.heap.size + 1 := by omega
  have NB : Below w.heap.size w ((w.alloc (.cells #[.int .u64 (i : Nat), .int .u64 (j : Nat)] 48)).alloc (.cells #[.int .u64 (wd X 0 : Nat), .int .u64 (wd X 1 : Nat), .int .u64 (wd X 2 : Nat), .int .u64 (wd X 3 : Nat)] 24)) := gr_alloc (gr_alloc BW.out _) _
  clear BW 
  generalize ((w.alloc (.cells #[.int .u64 (i : Nat), .int .u64 (j : Nat)] 48)).alloc (.cells #[.int .u64 (wd X 0 : Nat), .int .u64 (wd X 1 : Nat), .int .u64 (wd X 2 : Nat), .int .u64 (wd X 3 : Nat)] 24)) = W1 at *
  generalize w.heap.size + 1 = gx at *
  obtain ⟨gpr, hg0⟩ : ∃ g, g = w.heap.size := ⟨_, rfl⟩
  rw [← hg0] at Npr ⊢
  rw [← hg0] at Dprx
  clear hg0
  have Fpr := Lib.hid Npr
  have Fx := Lib.hid Nx
  have BW := Lib.hid NB
  clear NB Npr Nx
  refine (HOi.out _).mono ?_
  rintro e v2 ⟨rfl, z2⟩
  have Npr := Lib.hid (Fpr.out.on z2)
  have Nx := Lib.hid (Fx.out.on z2)
  have NB := Lib.hid (bel_tr BW.out z2)
  clear BW z2 Fpr Fx
  have Fpr := Npr
  have Fx := Nx
  have BW := NB
  clear NB Npr Nx
  have Lpr := Fpr.out.lt
  have cpr0 : v2.cell? ⟨gpr, 0, none⟩ = some (.int .u64 (i : Nat)) := Fpr.out.cell 0
  have cpr1 : v2.cell? ⟨gpr, 1, none⟩ = some (.int .u64 (j : Nat)) := Fpr.out.cell 1
  go_wp2_with fail
  clear Lpr cpr0 cpr1
  have Nm : At (v2.alloc (.cells #[.int .u64 (wd i 0 : Nat), .int .u64 (wd i 1 : Nat), .int .u64 (wd i 2 : Nat), .int .u64 (wd i 3 : Nat)] 24)) (v2.heap.size) 24 #[.int .u64 (wd i 0 : Nat), .int .u64 (wd i 1 : Nat), .int .u64 (wd i 2 : Nat), .int .u64 (wd i 3 : Nat)] := At.at_ _ _ _ _ (by simp)
  have Dxm : gx ≠ v2.heap.size := by have := Fx.out.lt; omega
  have Npr : At (v2.alloc (.cells #[.int .u64 (wd i 0 : Nat), .int .u64 (wd i 1 : Nat), .int .u64 (wd i 2 : Nat), .int .u64 (wd i 3 : Nat)] 24)) gpr 48 #[.int .u64 (i : Nat), .int .u64 (j : Nat)] := Fpr.out.alloc _
  have Nx : At (v2.alloc (.cells #[.int .u64 (wd i 0 : Nat), .int .u64 (wd i 1 : Nat), .int .u64 (wd i 2 : Nat), .int .u64 (wd i 3 : Nat)] 24)) gx 24 #[.int .u64 (wd X 0 : Nat), .int .u64 (wd X 1 : Nat), .int .u64 (wd X 2 : Nat), .int .u64 (wd X 3 : Nat)] := Fx.out.alloc _
  have NB : Below w.heap.size w (v2.alloc (.cells #[.int .u64 (wd i 0 : Nat), .int .u64 (wd i 1 : Nat), .int .u64 (wd i 2 : Nat), .int .u64 (wd i 3 : Nat)] 24)) := gr_alloc BW.out _
  clear BW Fpr Fx
  generalize (v2.alloc (.cells #[.int .u64 (wd i 0 : Nat), .int .u64 (wd i 1 : Nat), .int .u64 (wd i 2 : Nat), .int .u64 (wd i 3 : Nat)] 24)) = W3 at *
  generalize v2.heap.size = gm at *
  have Fpr := Lib.hid Npr
  have Fx := Lib.hid Nx
  have Fm := Lib.hid Nm
  have BW := Lib.hid NB
  clear NB Npr Nx Nm
  refine (HOj.out _).mono ?_
  rintro e v4 ⟨rfl, z4⟩
  have Npr := Lib.hid (Fpr.out.on z4)
  have Nx := Lib.hid (Fx.out.on z4)
  have Nm := Lib.hid (Fm.out.on z4)
  have NB := Lib.hid (bel_tr BW.out z4)
  clear BW z4 Fpr Fx Fm
  have Fpr := Npr
  have Fx := Nx
  have Fm := Nm
  have BW := NB
  clear NB Npr Nx Nm
  have Lpr := Fpr.out.lt
  have cpr0 : v4.cell? ⟨gpr, 0, none⟩ = some (.int .u64 (i : Nat)) := Fpr.out.cell 0
  have cpr1 : v4.cell? ⟨gpr, 1, none⟩ = some (.int .u64 (j : Nat)) := Fpr.out.cell 1
  go_wp2_with fail
  clear Lpr cpr0 cpr1
  have Nn : At (v4.alloc (.cells #[.int .u64 (wd j 0 : Nat), .int .u64 (wd j 1 : Nat), .int .u64 (wd j 2 : Nat), .int .u64 (wd j 3 : Nat)] 24)) (v4.heap.size) 24 #[.int .u64 (wd j 0 : Nat), .int .u64 (wd j 1 : Nat), .int .u64 (wd j 2 : Nat), .int .u64 (wd j 3 : Nat)] := At.at_ _ _ _ _ (by simp)
  have Dxn : gx ≠ v4.heap.size := by have := Fx.out.lt; omega
  have Npr : At (v4.alloc (.cells #[.int .u64 (wd j 0 : Nat), .int .u64 (wd j 1 : Nat), .int .u64 (wd j 2 : Nat), .int .u64 (wd j 3 : Nat)] 24)) gpr 48 #[.int .u64 (i : Nat), .int .u64 (j : Nat)] := Fpr.out.alloc _
  have Nx : At (v4.alloc (.cells #[.int .u64 (wd j 0 : Nat), .int .u64 (wd j 1 : Nat), .int .u64 (wd j 2 : Nat), .int .u64 (wd j 3 : Nat)] 24)) gx 24 #[.int .u64 (wd X 0 : Nat), .int .u64 (wd X 1 : Nat), .int .u64 (wd X 2 : Nat), .int .u64 (wd X 3 : Nat)] := Fx.out.alloc _
  have Nm : At (v4.alloc (.cells #[.int .u64 (wd j 0 : Nat), .int .u64 (wd j 1 : Nat), .int .u64 (wd j 2 : Nat), .int .u64 (wd j 3 : Nat)] 24)) gm 24 #[.int .u64 (wd i 0 : Nat), .int .u64 (wd i 1 : Nat), .int .u64 (wd i 2 : Nat), .int .u64 (wd i 3 : Nat)] := Fm.out.alloc _
  have NB : Below w.heap.size w (v4.alloc (.cells #[.int .u64 (wd j 0 : Nat), .int .u64 (wd j 1 : Nat), .int .u64 (wd j 2 : Nat), .int .u64 (wd j 3 : Nat)] 24)) := gr_alloc BW.out _
  clear BW Fpr Fx Fm
  generalize (v4.alloc (.cells #[.int .u64 (wd j 0 : Nat), .int .u64 (wd j 1 : Nat), .int .u64 (wd j 2 : Nat), .int .u64 (wd j 3 : Nat)] 24)) = W5 at *
  generalize v4.heap.size = gn at *
  have Fpr := Lib.hid Npr
  have Fx := Lib.hid Nx
  have Fm := Lib.hid Nm
  have Fn := Lib.hid Nn
  have BW := Lib.hid NB
  clear NB Npr Nx Nm Nn
  refine (alive4_any _).mono ?_
  rintro e v6 ⟨rfl, z6⟩
  have Npr := Lib.hid (Fpr.out.on z6)
  have Nx := Lib.hid (Fx.out.on z6)
  have Nm := Lib.hid (Fm.out.on z6)
  have Nn := Lib.hid (Fn.out.on z6)
  have NB := Lib.hid (bel_tr BW.out z6)
  clear BW z6 Fpr Fx Fm Fn
  have Fpr := Npr
  have Fx := Nx
  have Fm := Nm
  have Fn := Nn
  have BW := NB
  clear NB Npr Nx Nm Nn
  go_wp2_with fail
  go_ret
  exact ⟨rfl, BW.out⟩

set_option maxRecDepth 100000 in
set_option maxHeartbeats 8000000 in
theorem two_g (X i j g Z : Nat)
    (hi : 2 ≤ i)
    (hj : 2 ≤ j)
    (Oi : ∀ w, Calls Try.prog 28 #[.int .u64 (i : Nat)] w fun e w' => e = .returned (num i) ∧ Below w.heap.size w w')
    (Oj : ∀ w, Calls Try.prog 28 #[.int .u64 (j : Nat)] w fun e w' => e = .returned (num j) ∧ Below w.heap.size w w')
    (O : ∀ w, Calls Try.prog 28 #[.int .u64 1] w fun e w' => e = .returned (num Z) ∧ Below w.heap.size w w')
    (CM : ∀ w, Calls Try.prog 15 #[num i, num j] w fun e w' => e = .returned (num g) ∧ Below w.heap.size w w')
    (EG : ∀ w : World, (Op.equalIn 10000 24 (num g) (num Z)).run Try.prog w = .ok false w)
    (w : World) : Calls Try.prog 10 #[.agg #[.int .u64 (i : Nat), .int .u64 (j : Nat)], num X] w fun e w' => e = .returned (.bool true) ∧ Below w.heap.size w w' := by
  have HOi := Lib.hid Oi
  have HOj := Lib.hid Oj
  have HO := Lib.hid O
  have HCM := Lib.hid CM
  have HEG := Lib.hid EG
  clear Oi Oj O CM EG
  have hi2 : ¬ (i : Int) < 2 := by omega
  have hj2 : ¬ (j : Int) < 2 := by omega
  go_enter Try.func10, Try.ntmps10
  go_wp2_with fail
  have BW := Lib.hid (Below.refl w.heap.size w)
  have Npr : At ((w.alloc (.cells #[.int .u64 (i : Nat), .int .u64 (j : Nat)] 48)).alloc (.cells #[.int .u64 (wd X 0 : Nat), .int .u64 (wd X 1 : Nat), .int .u64 (wd X 2 : Nat), .int .u64 (wd X 3 : Nat)] 24)) (w.heap.size) 48 #[.int .u64 (i : Nat), .int .u64 (j : Nat)] := (At.at_ _ _ _ _ (by simp)).alloc _
  have Nx : At ((w.alloc (.cells #[.int .u64 (i : Nat), .int .u64 (j : Nat)] 48)).alloc (.cells #[.int .u64 (wd X 0 : Nat), .int .u64 (wd X 1 : Nat), .int .u64 (wd X 2 : Nat), .int .u64 (wd X 3 : Nat)] 24)) (w.heap.size + 1) 24 #[.int .u64 (wd X 0 : Nat), .int .u64 (wd X 1 : Nat), .int .u64 (wd X 2 : Nat), .int .u64 (wd X 3 : Nat)] := At.at_ _ _ _ _ (by simp)
  have Ex : w.heap.size ≤ w.heap.size + 1 := by have := BW.out.size; omega
  have Dprx : w.heap.size ≠ w.heap.size + 1 := by omega
  have NB : Below w.heap.size w ((w.alloc (.cells #[.int .u64 (i : Nat), .int .u64 (j : Nat)] 48)).alloc (.cells #[.int .u64 (wd X 0 : Nat), .int .u64 (wd X 1 : Nat), .int .u64 (wd X 2 : Nat), .int .u64 (wd X 3 : Nat)] 24)) := gr_alloc (gr_alloc BW.out _) _
  clear BW 
  generalize ((w.alloc (.cells #[.int .u64 (i : Nat), .int .u64 (j : Nat)] 48)).alloc (.cells #[.int .u64 (wd X 0 : Nat), .int .u64 (wd X 1 : Nat), .int .u64 (wd X 2 : Nat), .int .u64 (wd X 3 : Nat)] 24)) = W1 at *
  generalize w.heap.size + 1 = gx at *
  obtain ⟨gpr, hg0⟩ : ∃ g, g = w.heap.size := ⟨_, rfl⟩
  rw [← hg0] at Npr ⊢
  rw [← hg0] at Dprx
  clear hg0
  have Fpr := Lib.hid Npr
  have Fx := Lib.hid Nx
  have BW := Lib.hid NB
  clear NB Npr Nx
  refine (HOi.out _).mono ?_
  rintro e v2 ⟨rfl, z2⟩
  have Npr := Lib.hid (Fpr.out.on z2)
  have Nx := Lib.hid (Fx.out.on z2)
  have NB := Lib.hid (bel_tr BW.out z2)
  clear BW z2 Fpr Fx
  have Fpr := Npr
  have Fx := Nx
  have BW := NB
  clear NB Npr Nx
  have Lpr := Fpr.out.lt
  have cpr0 : v2.cell? ⟨gpr, 0, none⟩ = some (.int .u64 (i : Nat)) := Fpr.out.cell 0
  have cpr1 : v2.cell? ⟨gpr, 1, none⟩ = some (.int .u64 (j : Nat)) := Fpr.out.cell 1
  go_wp2_with fail
  clear Lpr cpr0 cpr1
  have Nm : At (v2.alloc (.cells #[.int .u64 (wd i 0 : Nat), .int .u64 (wd i 1 : Nat), .int .u64 (wd i 2 : Nat), .int .u64 (wd i 3 : Nat)] 24)) (v2.heap.size) 24 #[.int .u64 (wd i 0 : Nat), .int .u64 (wd i 1 : Nat), .int .u64 (wd i 2 : Nat), .int .u64 (wd i 3 : Nat)] := At.at_ _ _ _ _ (by simp)
  have Dxm : gx ≠ v2.heap.size := by have := Fx.out.lt; omega
  have Npr : At (v2.alloc (.cells #[.int .u64 (wd i 0 : Nat), .int .u64 (wd i 1 : Nat), .int .u64 (wd i 2 : Nat), .int .u64 (wd i 3 : Nat)] 24)) gpr 48 #[.int .u64 (i : Nat), .int .u64 (j : Nat)] := Fpr.out.alloc _
  have Nx : At (v2.alloc (.cells #[.int .u64 (wd i 0 : Nat), .int .u64 (wd i 1 : Nat), .int .u64 (wd i 2 : Nat), .int .u64 (wd i 3 : Nat)] 24)) gx 24 #[.int .u64 (wd X 0 : Nat), .int .u64 (wd X 1 : Nat), .int .u64 (wd X 2 : Nat), .int .u64 (wd X 3 : Nat)] := Fx.out.alloc _
  have NB : Below w.heap.size w (v2.alloc (.cells #[.int .u64 (wd i 0 : Nat), .int .u64 (wd i 1 : Nat), .int .u64 (wd i 2 : Nat), .int .u64 (wd i 3 : Nat)] 24)) := gr_alloc BW.out _
  clear BW Fpr Fx
  generalize (v2.alloc (.cells #[.int .u64 (wd i 0 : Nat), .int .u64 (wd i 1 : Nat), .int .u64 (wd i 2 : Nat), .int .u64 (wd i 3 : Nat)] 24)) = W3 at *
  generalize v2.heap.size = gm at *
  have Fpr := Lib.hid Npr
  have Fx := Lib.hid Nx
  have Fm := Lib.hid Nm
  have BW := Lib.hid NB
  clear NB Npr Nx Nm
  refine (HOj.out _).mono ?_
  rintro e v4 ⟨rfl, z4⟩
  have Npr := Lib.hid (Fpr.out.on z4)
  have Nx := Lib.hid (Fx.out.on z4)
  have Nm := Lib.hid (Fm.out.on z4)
  have NB := Lib.hid (bel_tr BW.out z4)
  clear BW z4 Fpr Fx Fm
  have Fpr := Npr
  have Fx := Nx
  have Fm := Nm
  have BW := NB
  clear NB Npr Nx Nm
  have Lpr := Fpr.out.lt
  have cpr0 : v4.cell? ⟨gpr, 0, none⟩ = some (.int .u64 (i : Nat)) := Fpr.out.cell 0
  have cpr1 : v4.cell? ⟨gpr, 1, none⟩ = some (.int .u64 (j : Nat)) := Fpr.out.cell 1
  have Lm := Fm.out.lt
  have cm0 : v4.cell? ⟨gm, 0, none⟩ = some (.int .u64 (wd i 0 : Nat)) := Fm.out.cell 0
  have cm1 : v4.cell? ⟨gm, 1, none⟩ = some (.int .u64 (wd i 1 : Nat)) := Fm.out.cell 1
  have cm2 : v4.cell? ⟨gm, 2, none⟩ = some (.int .u64 (wd i 2 : Nat)) := Fm.out.cell 2
  have cm3 : v4.cell? ⟨gm, 3, none⟩ = some (.int .u64 (wd i 3 : Nat)) := Fm.out.cell 3
  go_wp2_with fail
  clear Lpr cpr0 cpr1 Lm cm0 cm1 cm2 cm3
  have Nn : At (v4.alloc (.cells #[.int .u64 (wd j 0 : Nat), .int .u64 (wd j 1 : Nat), .int .u64 (wd j 2 : Nat), .int .u64 (wd j 3 : Nat)] 24)) (v4.heap.size) 24 #[.int .u64 (wd j 0 : Nat), .int .u64 (wd j 1 : Nat), .int .u64 (wd j 2 : Nat), .int .u64 (wd j 3 : Nat)] := At.at_ _ _ _ _ (by simp)
  have Dxn : gx ≠ v4.heap.size := by have := Fx.out.lt; omega
  have Npr : At (v4.alloc (.cells #[.int .u64 (wd j 0 : Nat), .int .u64 (wd j 1 : Nat), .int .u64 (wd j 2 : Nat), .int .u64 (wd j 3 : Nat)] 24)) gpr 48 #[.int .u64 (i : Nat), .int .u64 (j : Nat)] := Fpr.out.alloc _
  have Nx : At (v4.alloc (.cells #[.int .u64 (wd j 0 : Nat), .int .u64 (wd j 1 : Nat), .int .u64 (wd j 2 : Nat), .int .u64 (wd j 3 : Nat)] 24)) gx 24 #[.int .u64 (wd X 0 : Nat), .int .u64 (wd X 1 : Nat), .int .u64 (wd X 2 : Nat), .int .u64 (wd X 3 : Nat)] := Fx.out.alloc _
  have Nm : At (v4.alloc (.cells #[.int .u64 (wd j 0 : Nat), .int .u64 (wd j 1 : Nat), .int .u64 (wd j 2 : Nat), .int .u64 (wd j 3 : Nat)] 24)) gm 24 #[.int .u64 (wd i 0 : Nat), .int .u64 (wd i 1 : Nat), .int .u64 (wd i 2 : Nat), .int .u64 (wd i 3 : Nat)] := Fm.out.alloc _
  have NB : Below w.heap.size w (v4.alloc (.cells #[.int .u64 (wd j 0 : Nat), .int .u64 (wd j 1 : Nat), .int .u64 (wd j 2 : Nat), .int .u64 (wd j 3 : Nat)] 24)) := gr_alloc BW.out _
  clear BW Fpr Fx Fm
  generalize (v4.alloc (.cells #[.int .u64 (wd j 0 : Nat), .int .u64 (wd j 1 : Nat), .int .u64 (wd j 2 : Nat), .int .u64 (wd j 3 : Nat)] 24)) = W5 at *
  generalize v4.heap.size = gn at *
  have Fpr := Lib.hid Npr
  have Fx := Lib.hid Nx
  have Fm := Lib.hid Nm
  have Fn := Lib.hid Nn
  have BW := Lib.hid NB
  clear NB Npr Nx Nm Nn
  refine (HCM.out _).mono ?_
  rintro e v6 ⟨rfl, z6⟩
  have Npr := Lib.hid (Fpr.out.on z6)
  have Nx := Lib.hid (Fx.out.on z6)
  have Nm := Lib.hid (Fm.out.on z6)
  have Nn := Lib.hid (Fn.out.on z6)
  have NB := Lib.hid (bel_tr BW.out z6)
  clear BW z6 Fpr Fx Fm Fn
  have Fpr := Npr
  have Fx := Nx
  have Fm := Nm
  have Fn := Nn
  have BW := NB
  clear NB Npr Nx Nm Nn
  go_wp2_with fail
  refine (HO.out _).mono ?_
  rintro e v7 ⟨rfl, z7⟩
  have Npr := Lib.hid (Fpr.out.on z7)
  have Nx := Lib.hid (Fx.out.on z7)
  have Nm := Lib.hid (Fm.out.on z7)
  have Nn := Lib.hid (Fn.out.on z7)
  have NB := Lib.hid (bel_tr BW.out z7)
  clear BW z7 Fpr Fx Fm Fn
  have Fpr := Npr
  have Fx := Nx
  have Fm := Nm
  have Fn := Nn
  have BW := NB
  clear NB Npr Nx Nm Nn
  have eg := HEG.out
  go_wp2_with fail
  clear eg
  refine (alive4_any _).mono ?_
  rintro e v8 ⟨rfl, z8⟩
  have Npr := Lib.hid (Fpr.out.on z8)
  have Nx := Lib.hid (Fx.out.on z8)
  have Nm := Lib.hid (Fm.out.on z8)
  have Nn := Lib.hid (Fn.out.on z8)
  have NB := Lib.hid (bel_tr BW.out z8)
  clear BW z8 Fpr Fx Fm Fn
  have Fpr := Npr
  have Fx := Nx
  have Fm := Nm
  have Fn := Nn
  have BW := NB
  clear NB Npr Nx Nm Nn
  go_wp2_with fail
  go_ret
  exact ⟨rfl, BW.out⟩

set_option maxRecDepth 100000 in
set_option maxHeartbeats 8000000 in
theorem two_some (X i j Z N0 P x a mj bb xj aj d t y : Nat)
    (hi : 2 ≤ i)
    (hj : 2 ≤ j)
    (Oi : ∀ w, Calls Try.prog 28 #[.int .u64 (i : Nat)] w fun e w' => e = .returned (num i) ∧ Below w.heap.size w w')
    (Oj : ∀ w, Calls Try.prog 28 #[.int .u64 (j : Nat)] w fun e w' => e = .returned (num j) ∧ Below w.heap.size w w')
    (O : ∀ w, Calls Try.prog 28 #[.int .u64 1] w fun e w' => e = .returned (num Z) ∧ Below w.heap.size w w')
    (N : ∀ w, Calls Try.prog 28 #[.int .u64 0] w fun e w' => e = .returned (num N0) ∧ Below w.heap.size w w')
    (CM : ∀ w, Calls Try.prog 15 #[num i, num j] w fun e w' => e = .returned (num Z) ∧ Below w.heap.size w w')
    (M1 : ∀ w, Calls Try.prog 31 #[num i, num j] w fun e w' => e = .returned (.tuple #[num P, num N0]) ∧ Below w.heap.size w w')
    (B1 : ∀ w, Calls Try.prog 30 #[num X, num P] w fun e w' => e = .returned (num x) ∧ Below w.heap.size w w')
    (B2 : ∀ w, Calls Try.prog 30 #[num x, num i] w fun e w' => e = .returned (num a) ∧ Below w.heap.size w w')
    (B3 : ∀ w, Calls Try.prog 30 #[num i, num j] w fun e w' => e = .returned (num mj) ∧ Below w.heap.size w w')
    (I : ∀ w, Calls Try.prog 21 #[num mj, num j] w fun e w' => e = .returned (.tuple #[num bb, .int .i64 0]) ∧ Below w.heap.size w w')
    (B4 : ∀ w, Calls Try.prog 30 #[num x, num j] w fun e w' => e = .returned (num xj) ∧ Below w.heap.size w w')
    (B5 : ∀ w, Calls Try.prog 30 #[num a, num j] w fun e w' => e = .returned (num aj) ∧ Below w.heap.size w w')
    (S : ∀ w, Calls Try.prog 18 #[num xj, num aj, num j] w fun e w' => e = .returned (.tuple #[num d, .int .i64 0]) ∧ Below w.heap.size w w')
    (M2 : ∀ w, Calls Try.prog 19 #[num d, num bb, num j] w fun e w' => e = .returned (.tuple #[num t, .int .i64 0]) ∧ Below w.heap.size w w')
    (M3 : ∀ w, Calls Try.prog 31 #[num i, num t] w fun e w' => e = .returned (.tuple #[num y, num N0]) ∧ Below w.heap.size w w')
    (A : ∀ w, Calls Try.prog 32 #[num y, num a] w fun e w' => e = .returned (.tuple #[num x, .int .u64 0]) ∧ Below w.heap.size w w')
    (w : World) : Calls Try.prog 10 #[.agg #[.int .u64 (i : Nat), .int .u64 (j : Nat)], num X] w fun e w' => e = .returned (.bool true) ∧ Below w.heap.size w w' := by
  have HOi := Lib.hid Oi
  have HOj := Lib.hid Oj
  have HO := Lib.hid O
  have HN := Lib.hid N
  have HCM := Lib.hid CM
  have HM1 := Lib.hid M1
  have HB1 := Lib.hid B1
  have HB2 := Lib.hid B2
  have HB3 := Lib.hid B3
  have HI := Lib.hid I
  have HB4 := Lib.hid B4
  have HB5 := Lib.hid B5
  have HS := Lib.hid S
  have HM2 := Lib.hid M2
  have HM3 := Lib.hid M3
  have HA := Lib.hid A
  clear Oi Oj O N CM M1 B1 B2 B3 I B4 B5 S M2 M3 A
  have hi2 : ¬ (i : Int) < 2 := by omega
  have hj2 : ¬ (j : Int) < 2 := by omega
  go_enter Try.func10, Try.ntmps10
  go_wp2_with fail
  have BW := Lib.hid (Below.refl w.heap.size w)
  have Npr : At ((w.alloc (.cells #[.int .u64 (i : Nat), .int .u64 (j : Nat)] 48)).alloc (.cells #[.int .u64 (wd X 0 : Nat), .int .u64 (wd X 1 : Nat), .int .u64 (wd X 2 : Nat), .int .u64 (wd X 3 : Nat)] 24)) (w.heap.size) 48 #[.int .u64 (i : Nat), .int .u64 (j : Nat)] := (At.at_ _ _ _ _ (by simp)).alloc _
  have Nx : At ((w.alloc (.cells #[.int .u64 (i : Nat), .int .u64 (j : Nat)] 48)).alloc (.cells #[.int .u64 (wd X 0 : Nat), .int .u64 (wd X 1 : Nat), .int .u64 (wd X 2 : Nat), .int .u64 (wd X 3 : Nat)] 24)) (w.heap.size + 1) 24 #[.int .u64 (wd X 0 : Nat), .int .u64 (wd X 1 : Nat), .int .u64 (wd X 2 : Nat), .int .u64 (wd X 3 : Nat)] := At.at_ _ _ _ _ (by simp)
  have Ex : w.heap.size ≤ w.heap.size + 1 := by have := BW.out.size; omega
  have Dprx : w.heap.size ≠ w.heap.size + 1 := by omega
  have NB : Below w.heap.size w ((w.alloc (.cells #[.int .u64 (i : Nat), .int .u64 (j : Nat)] 48)).alloc (.cells #[.int .u64 (wd X 0 : Nat), .int .u64 (wd X 1 : Nat), .int .u64 (wd X 2 : Nat), .int .u64 (wd X 3 : Nat)] 24)) := gr_alloc (gr_alloc BW.out _) _
  clear BW 
  generalize ((w.alloc (.cells #[.int .u64 (i : Nat), .int .u64 (j : Nat)] 48)).alloc (.cells #[.int .u64 (wd X 0 : Nat), .int .u64 (wd X 1 : Nat), .int .u64 (wd X 2 : Nat), .int .u64 (wd X 3 : Nat)] 24)) = W1 at *
  generalize w.heap.size + 1 = gx at *
  obtain ⟨gpr, hg0⟩ : ∃ g, g = w.heap.size := ⟨_, rfl⟩
  rw [← hg0] at Npr ⊢
  rw [← hg0] at Dprx
  clear hg0
  have Fpr := Lib.hid Npr
  have Fx := Lib.hid Nx
  have BW := Lib.hid NB
  clear NB Npr Nx
  refine (HOi.out _).mono ?_
  rintro e v2 ⟨rfl, z2⟩
  have Npr := Lib.hid (Fpr.out.on z2)
  have Nx := Lib.hid (Fx.out.on z2)
  have NB := Lib.hid (bel_tr BW.out z2)
  clear BW z2 Fpr Fx
  have Fpr := Npr
  have Fx := Nx
  have BW := NB
  clear NB Npr Nx
  have Lpr := Fpr.out.lt
  have cpr0 : v2.cell? ⟨gpr, 0, none⟩ = some (.int .u64 (i : Nat)) := Fpr.out.cell 0
  have cpr1 : v2.cell? ⟨gpr, 1, none⟩ = some (.int .u64 (j : Nat)) := Fpr.out.cell 1
  go_wp2_with fail
  clear Lpr cpr0 cpr1
  have Nm : At (v2.alloc (.cells #[.int .u64 (wd i 0 : Nat), .int .u64 (wd i 1 : Nat), .int .u64 (wd i 2 : Nat), .int .u64 (wd i 3 : Nat)] 24)) (v2.heap.size) 24 #[.int .u64 (wd i 0 : Nat), .int .u64 (wd i 1 : Nat), .int .u64 (wd i 2 : Nat), .int .u64 (wd i 3 : Nat)] := At.at_ _ _ _ _ (by simp)
  have Dxm : gx ≠ v2.heap.size := by have := Fx.out.lt; omega
  have Npr : At (v2.alloc (.cells #[.int .u64 (wd i 0 : Nat), .int .u64 (wd i 1 : Nat), .int .u64 (wd i 2 : Nat), .int .u64 (wd i 3 : Nat)] 24)) gpr 48 #[.int .u64 (i : Nat), .int .u64 (j : Nat)] := Fpr.out.alloc _
  have Nx : At (v2.alloc (.cells #[.int .u64 (wd i 0 : Nat), .int .u64 (wd i 1 : Nat), .int .u64 (wd i 2 : Nat), .int .u64 (wd i 3 : Nat)] 24)) gx 24 #[.int .u64 (wd X 0 : Nat), .int .u64 (wd X 1 : Nat), .int .u64 (wd X 2 : Nat), .int .u64 (wd X 3 : Nat)] := Fx.out.alloc _
  have NB : Below w.heap.size w (v2.alloc (.cells #[.int .u64 (wd i 0 : Nat), .int .u64 (wd i 1 : Nat), .int .u64 (wd i 2 : Nat), .int .u64 (wd i 3 : Nat)] 24)) := gr_alloc BW.out _
  clear BW Fpr Fx
  generalize (v2.alloc (.cells #[.int .u64 (wd i 0 : Nat), .int .u64 (wd i 1 : Nat), .int .u64 (wd i 2 : Nat), .int .u64 (wd i 3 : Nat)] 24)) = W3 at *
  generalize v2.heap.size = gm at *
  have Fpr := Lib.hid Npr
  have Fx := Lib.hid Nx
  have Fm := Lib.hid Nm
  have BW := Lib.hid NB
  clear NB Npr Nx Nm
  refine (HOj.out _).mono ?_
  rintro e v4 ⟨rfl, z4⟩
  have Npr := Lib.hid (Fpr.out.on z4)
  have Nx := Lib.hid (Fx.out.on z4)
  have Nm := Lib.hid (Fm.out.on z4)
  have NB := Lib.hid (bel_tr BW.out z4)
  clear BW z4 Fpr Fx Fm
  have Fpr := Npr
  have Fx := Nx
  have Fm := Nm
  have BW := NB
  clear NB Npr Nx Nm
  have Lpr := Fpr.out.lt
  have cpr0 : v4.cell? ⟨gpr, 0, none⟩ = some (.int .u64 (i : Nat)) := Fpr.out.cell 0
  have cpr1 : v4.cell? ⟨gpr, 1, none⟩ = some (.int .u64 (j : Nat)) := Fpr.out.cell 1
  have Lm := Fm.out.lt
  have cm0 : v4.cell? ⟨gm, 0, none⟩ = some (.int .u64 (wd i 0 : Nat)) := Fm.out.cell 0
  have cm1 : v4.cell? ⟨gm, 1, none⟩ = some (.int .u64 (wd i 1 : Nat)) := Fm.out.cell 1
  have cm2 : v4.cell? ⟨gm, 2, none⟩ = some (.int .u64 (wd i 2 : Nat)) := Fm.out.cell 2
  have cm3 : v4.cell? ⟨gm, 3, none⟩ = some (.int .u64 (wd i 3 : Nat)) := Fm.out.cell 3
  go_wp2_with fail
  clear Lpr cpr0 cpr1 Lm cm0 cm1 cm2 cm3
  have Nn : At (v4.alloc (.cells #[.int .u64 (wd j 0 : Nat), .int .u64 (wd j 1 : Nat), .int .u64 (wd j 2 : Nat), .int .u64 (wd j 3 : Nat)] 24)) (v4.heap.size) 24 #[.int .u64 (wd j 0 : Nat), .int .u64 (wd j 1 : Nat), .int .u64 (wd j 2 : Nat), .int .u64 (wd j 3 : Nat)] := At.at_ _ _ _ _ (by simp)
  have Dxn : gx ≠ v4.heap.size := by have := Fx.out.lt; omega
  have Npr : At (v4.alloc (.cells #[.int .u64 (wd j 0 : Nat), .int .u64 (wd j 1 : Nat), .int .u64 (wd j 2 : Nat), .int .u64 (wd j 3 : Nat)] 24)) gpr 48 #[.int .u64 (i : Nat), .int .u64 (j : Nat)] := Fpr.out.alloc _
  have Nx : At (v4.alloc (.cells #[.int .u64 (wd j 0 : Nat), .int .u64 (wd j 1 : Nat), .int .u64 (wd j 2 : Nat), .int .u64 (wd j 3 : Nat)] 24)) gx 24 #[.int .u64 (wd X 0 : Nat), .int .u64 (wd X 1 : Nat), .int .u64 (wd X 2 : Nat), .int .u64 (wd X 3 : Nat)] := Fx.out.alloc _
  have Nm : At (v4.alloc (.cells #[.int .u64 (wd j 0 : Nat), .int .u64 (wd j 1 : Nat), .int .u64 (wd j 2 : Nat), .int .u64 (wd j 3 : Nat)] 24)) gm 24 #[.int .u64 (wd i 0 : Nat), .int .u64 (wd i 1 : Nat), .int .u64 (wd i 2 : Nat), .int .u64 (wd i 3 : Nat)] := Fm.out.alloc _
  have NB : Below w.heap.size w (v4.alloc (.cells #[.int .u64 (wd j 0 : Nat), .int .u64 (wd j 1 : Nat), .int .u64 (wd j 2 : Nat), .int .u64 (wd j 3 : Nat)] 24)) := gr_alloc BW.out _
  clear BW Fpr Fx Fm
  generalize (v4.alloc (.cells #[.int .u64 (wd j 0 : Nat), .int .u64 (wd j 1 : Nat), .int .u64 (wd j 2 : Nat), .int .u64 (wd j 3 : Nat)] 24)) = W5 at *
  generalize v4.heap.size = gn at *
  have Fpr := Lib.hid Npr
  have Fx := Lib.hid Nx
  have Fm := Lib.hid Nm
  have Fn := Lib.hid Nn
  have BW := Lib.hid NB
  clear NB Npr Nx Nm Nn
  refine (HCM.out _).mono ?_
  rintro e v6 ⟨rfl, z6⟩
  have Npr := Lib.hid (Fpr.out.on z6)
  have Nx := Lib.hid (Fx.out.on z6)
  have Nm := Lib.hid (Fm.out.on z6)
  have Nn := Lib.hid (Fn.out.on z6)
  have NB := Lib.hid (bel_tr BW.out z6)
  clear BW z6 Fpr Fx Fm Fn
  have Fpr := Npr
  have Fx := Nx
  have Fm := Nm
  have Fn := Nn
  have BW := NB
  clear NB Npr Nx Nm Nn
  go_wp2_with fail
  refine (HO.out _).mono ?_
  rintro e v7 ⟨rfl, z7⟩
  have Npr := Lib.hid (Fpr.out.on z7)
  have Nx := Lib.hid (Fx.out.on z7)
  have Nm := Lib.hid (Fm.out.on z7)
  have Nn := Lib.hid (Fn.out.on z7)
  have NB := Lib.hid (bel_tr BW.out z7)
  clear BW z7 Fpr Fx Fm Fn
  have Fpr := Npr
  have Fx := Nx
  have Fm := Nm
  have Fn := Nn
  have BW := NB
  clear NB Npr Nx Nm Nn
  have qqZ := eqY Z
  have Lm := Fm.out.lt
  have cm0 : v7.cell? ⟨gm, 0, none⟩ = some (.int .u64 (wd i 0 : Nat)) := Fm.out.cell 0
  have cm1 : v7.cell? ⟨gm, 1, none⟩ = some (.int .u64 (wd i 1 : Nat)) := Fm.out.cell 1
  have cm2 : v7.cell? ⟨gm, 2, none⟩ = some (.int .u64 (wd i 2 : Nat)) := Fm.out.cell 2
  have cm3 : v7.cell? ⟨gm, 3, none⟩ = some (.int .u64 (wd i 3 : Nat)) := Fm.out.cell 3
  have Ln := Fn.out.lt
  have cn0 : v7.cell? ⟨gn, 0, none⟩ = some (.int .u64 (wd j 0 : Nat)) := Fn.out.cell 0
  have cn1 : v7.cell? ⟨gn, 1, none⟩ = some (.int .u64 (wd j 1 : Nat)) := Fn.out.cell 1
  have cn2 : v7.cell? ⟨gn, 2, none⟩ = some (.int .u64 (wd j 2 : Nat)) := Fn.out.cell 2
  have cn3 : v7.cell? ⟨gn, 3, none⟩ = some (.int .u64 (wd j 3 : Nat)) := Fn.out.cell 3
  go_wp2_with fail
  clear Lm cm0 cm1 cm2 cm3 Ln cn0 cn1 cn2 cn3
  clear qqZ
  clear Fpr
  refine (HM1.out _).mono ?_
  rintro e v8 ⟨rfl, z8⟩
  have Nx := Lib.hid (Fx.out.on z8)
  have Nm := Lib.hid (Fm.out.on z8)
  have Nn := Lib.hid (Fn.out.on z8)
  have NB := Lib.hid (bel_tr BW.out z8)
  clear BW z8 Fx Fm Fn
  have Fx := Nx
  have Fm := Nm
  have Fn := Nn
  have BW := NB
  clear NB Nx Nm Nn
  have Lx := Fx.out.lt
  have cx0 : v8.cell? ⟨gx, 0, none⟩ = some (.int .u64 (wd X 0 : Nat)) := Fx.out.cell 0
  have cx1 : v8.cell? ⟨gx, 1, none⟩ = some (.int .u64 (wd X 1 : Nat)) := Fx.out.cell 1
  have cx2 : v8.cell? ⟨gx, 2, none⟩ = some (.int .u64 (wd X 2 : Nat)) := Fx.out.cell 2
  have cx3 : v8.cell? ⟨gx, 3, none⟩ = some (.int .u64 (wd X 3 : Nat)) := Fx.out.cell 3
  go_wp2_with fail
  clear Lx cx0 cx1 cx2 cx3
  have Nmn : At ((v8.alloc (.cells #[.int .u64 (wd P 0 : Nat), .int .u64 (wd P 1 : Nat), .int .u64 (wd P 2 : Nat), .int .u64 (wd P 3 : Nat)] 24)).alloc (.cells #[.int .u64 (wd N0 0 : Nat), .int .u64 (wd N0 1 : Nat), .int .u64 (wd N0 2 : Nat), .int .u64 (wd N0 3 : Nat)] 24)) (v8.heap.size) 24 #[.int .u64 (wd P 0 : Nat), .int .u64 (wd P 1 : Nat), .int .u64 (wd P 2 : Nat), .int .u64 (wd P 3 : Nat)] := (At.at_ _ _ _ _ (by simp)).alloc _
  have Dxmn : gx ≠ v8.heap.size := by have := Fx.out.lt; omega
  have Nhi : At ((v8.alloc (.cells #[.int .u64 (wd P 0 : Nat), .int .u64 (wd P 1 : Nat), .int .u64 (wd P 2 : Nat), .int .u64 (wd P 3 : Nat)] 24)).alloc (.cells #[.int .u64 (wd N0 0 : Nat), .int .u64 (wd N0 1 : Nat), .int .u64 (wd N0 2 : Nat), .int .u64 (wd N0 3 : Nat)] 24)) (v8.heap.size + 1) 24 #[.int .u64 (wd N0 0 : Nat), .int .u64 (wd N0 1 : Nat), .int .u64 (wd N0 2 : Nat), .int .u64 (wd N0 3 : Nat)] := At.at_ _ _ _ _ (by simp)
  have Dxhi : gx ≠ v8.heap.size + 1 := by have := Fx.out.lt; omega
  have Nx : At ((v8.alloc (.cells #[.int .u64 (wd P 0 : Nat), .int .u64 (wd P 1 : Nat), .int .u64 (wd P 2 : Nat), .int .u64 (wd P 3 : Nat)] 24)).alloc (.cells #[.int .u64 (wd N0 0 : Nat), .int .u64 (wd N0 1 : Nat), .int .u64 (wd N0 2 : Nat), .int .u64 (wd N0 3 : Nat)] 24)) gx 24 #[.int .u64 (wd X 0 : Nat), .int .u64 (wd X 1 : Nat), .int .u64 (wd X 2 : Nat), .int .u64 (wd X 3 : Nat)] := (Fx.out.alloc _).alloc _
  have Nm : At ((v8.alloc (.cells #[.int .u64 (wd P 0 : Nat), .int .u64 (wd P 1 : Nat), .int .u64 (wd P 2 : Nat), .int .u64 (wd P 3 : Nat)] 24)).alloc (.cells #[.int .u64 (wd N0 0 : Nat), .int .u64 (wd N0 1 : Nat), .int .u64 (wd N0 2 : Nat), .int .u64 (wd N0 3 : Nat)] 24)) gm 24 #[.int .u64 (wd i 0 : Nat), .int .u64 (wd i 1 : Nat), .int .u64 (wd i 2 : Nat), .int .u64 (wd i 3 : Nat)] := (Fm.out.alloc _).alloc _
  have Nn : At ((v8.alloc (.cells #[.int .u64 (wd P 0 : Nat), .int .u64 (wd P 1 : Nat), .int .u64 (wd P 2 : Nat), .int .u64 (wd P 3 : Nat)] 24)).alloc (.cells #[.int .u64 (wd N0 0 : Nat), .int .u64 (wd N0 1 : Nat), .int .u64 (wd N0 2 : Nat), .int .u64 (wd N0 3 : Nat)] 24)) gn 24 #[.int .u64 (wd j 0 : Nat), .int .u64 (wd j 1 : Nat), .int .u64 (wd j 2 : Nat), .int .u64 (wd j 3 : Nat)] := (Fn.out.alloc _).alloc _
  have NB : Below w.heap.size w ((v8.alloc (.cells #[.int .u64 (wd P 0 : Nat), .int .u64 (wd P 1 : Nat), .int .u64 (wd P 2 : Nat), .int .u64 (wd P 3 : Nat)] 24)).alloc (.cells #[.int .u64 (wd N0 0 : Nat), .int .u64 (wd N0 1 : Nat), .int .u64 (wd N0 2 : Nat), .int .u64 (wd N0 3 : Nat)] 24)) := gr_alloc (gr_alloc BW.out _) _
  clear BW Fx Fm Fn
  generalize ((v8.alloc (.cells #[.int .u64 (wd P 0 : Nat), .int .u64 (wd P 1 : Nat), .int .u64 (wd P 2 : Nat), .int .u64 (wd P 3 : Nat)] 24)).alloc (.cells #[.int .u64 (wd N0 0 : Nat), .int .u64 (wd N0 1 : Nat), .int .u64 (wd N0 2 : Nat), .int .u64 (wd N0 3 : Nat)] 24)) = W9 at *
  generalize v8.heap.size + 1 = ghi at *
  generalize v8.heap.size = gmn at *
  have Fx := Lib.hid Nx
  have Fm := Lib.hid Nm
  have Fn := Lib.hid Nn
  have Fmn := Lib.hid Nmn
  have Fhi := Lib.hid Nhi
  have BW := Lib.hid NB
  clear NB Nx Nm Nn Nmn Nhi
  refine (HB1.out _).mono ?_
  rintro e v10 ⟨rfl, z10⟩
  have Nx := Lib.hid (Fx.out.on z10)
  have Nm := Lib.hid (Fm.out.on z10)
  have Nn := Lib.hid (Fn.out.on z10)
  have Nmn := Lib.hid (Fmn.out.on z10)
  have Nhi := Lib.hid (Fhi.out.on z10)
  have NB := Lib.hid (bel_tr BW.out z10)
  clear BW z10 Fx Fm Fn Fmn Fhi
  have Fx := Nx
  have Fm := Nm
  have Fn := Nn
  have Fmn := Nmn
  have Fhi := Nhi
  have BW := NB
  clear NB Nx Nm Nn Nmn Nhi
  have Lx := Fx.out.lt
  have cx0 : v10.cell? ⟨gx, 0, none⟩ = some (.int .u64 (wd X 0 : Nat)) := Fx.out.cell 0
  have cx1 : v10.cell? ⟨gx, 1, none⟩ = some (.int .u64 (wd X 1 : Nat)) := Fx.out.cell 1
  have cx2 : v10.cell? ⟨gx, 2, none⟩ = some (.int .u64 (wd X 2 : Nat)) := Fx.out.cell 2
  have cx3 : v10.cell? ⟨gx, 3, none⟩ = some (.int .u64 (wd X 3 : Nat)) := Fx.out.cell 3
  have fx0 : v10.frozen? ⟨gx, 0, none⟩ = false := Fx.out.frozen 0
  have fx1 : v10.frozen? ⟨gx, 1, none⟩ = false := Fx.out.frozen 1
  have fx2 : v10.frozen? ⟨gx, 2, none⟩ = false := Fx.out.frozen 2
  have fx3 : v10.frozen? ⟨gx, 3, none⟩ = false := Fx.out.frozen 3
  have Lm := Fm.out.lt
  have cm0 : v10.cell? ⟨gm, 0, none⟩ = some (.int .u64 (wd i 0 : Nat)) := Fm.out.cell 0
  have cm1 : v10.cell? ⟨gm, 1, none⟩ = some (.int .u64 (wd i 1 : Nat)) := Fm.out.cell 1
  have cm2 : v10.cell? ⟨gm, 2, none⟩ = some (.int .u64 (wd i 2 : Nat)) := Fm.out.cell 2
  have cm3 : v10.cell? ⟨gm, 3, none⟩ = some (.int .u64 (wd i 3 : Nat)) := Fm.out.cell 3
  go_wp2_with fail
  clear Lx cx0 cx1 cx2 cx3 fx0 fx1 fx2 fx3 Lm cm0 cm1 cm2 cm3
  have Nx_0 : At ((((v10.setCell ⟨gx, 0, none⟩ (.int .u64 (wd x 0 : Nat))).setCell ⟨gx, 1, none⟩ (.int .u64 (wd x 1 : Nat))).setCell ⟨gx, 2, none⟩ (.int .u64 (wd x 2 : Nat))).setCell ⟨gx, 3, none⟩ (.int .u64 (wd x 3 : Nat))) gx 24 #[.int .u64 (wd x 0 : Nat), .int .u64 (wd x 1 : Nat), .int .u64 (wd x 2 : Nat), .int .u64 (wd x 3 : Nat)] := (Fx.out).put4 _ _ _ _
  have Nm_0 : At ((((v10.setCell ⟨gx, 0, none⟩ (.int .u64 (wd x 0 : Nat))).setCell ⟨gx, 1, none⟩ (.int .u64 (wd x 1 : Nat))).setCell ⟨gx, 2, none⟩ (.int .u64 (wd x 2 : Nat))).setCell ⟨gx, 3, none⟩ (.int .u64 (wd x 3 : Nat))) gm 24 #[.int .u64 (wd i 0 : Nat), .int .u64 (wd i 1 : Nat), .int .u64 (wd i 2 : Nat), .int .u64 (wd i 3 : Nat)] := (Fm.out).far4 Dxm.symm _ _ _ _
  have Nn_0 : At ((((v10.setCell ⟨gx, 0, none⟩ (.int .u64 (wd x 0 : Nat))).setCell ⟨gx, 1, none⟩ (.int .u64 (wd x 1 : Nat))).setCell ⟨gx, 2, none⟩ (.int .u64 (wd x 2 : Nat))).setCell ⟨gx, 3, none⟩ (.int .u64 (wd x 3 : Nat))) gn 24 #[.int .u64 (wd j 0 : Nat), .int .u64 (wd j 1 : Nat), .int .u64 (wd j 2 : Nat), .int .u64 (wd j 3 : Nat)] := (Fn.out).far4 Dxn.symm _ _ _ _
  have Nmn_0 : At ((((v10.setCell ⟨gx, 0, none⟩ (.int .u64 (wd x 0 : Nat))).setCell ⟨gx, 1, none⟩ (.int .u64 (wd x 1 : Nat))).setCell ⟨gx, 2, none⟩ (.int .u64 (wd x 2 : Nat))).setCell ⟨gx, 3, none⟩ (.int .u64 (wd x 3 : Nat))) gmn 24 #[.int .u64 (wd P 0 : Nat), .int .u64 (wd P 1 : Nat), .int .u64 (wd P 2 : Nat), .int .u64 (wd P 3 : Nat)] := (Fmn.out).far4 Dxmn.symm _ _ _ _
  have Nhi_0 : At ((((v10.setCell ⟨gx, 0, none⟩ (.int .u64 (wd x 0 : Nat))).setCell ⟨gx, 1, none⟩ (.int .u64 (wd x 1 : Nat))).setCell ⟨gx, 2, none⟩ (.int .u64 (wd x 2 : Nat))).setCell ⟨gx, 3, none⟩ (.int .u64 (wd x 3 : Nat))) ghi 24 #[.int .u64 (wd N0 0 : Nat), .int .u64 (wd N0 1 : Nat), .int .u64 (wd N0 2 : Nat), .int .u64 (wd N0 3 : Nat)] := (Fhi.out).far4 Dxhi.symm _ _ _ _
  have NB_0 : Below w.heap.size w ((((v10.setCell ⟨gx, 0, none⟩ (.int .u64 (wd x 0 : Nat))).setCell ⟨gx, 1, none⟩ (.int .u64 (wd x 1 : Nat))).setCell ⟨gx, 2, none⟩ (.int .u64 (wd x 2 : Nat))).setCell ⟨gx, 3, none⟩ (.int .u64 (wd x 3 : Nat))) := ((((BW.out).setCell Ex _).setCell Ex _).setCell Ex _).setCell Ex _
  have Nx := Nx_0
  have Nm := Nm_0
  have Nn := Nn_0
  have Nmn := Nmn_0
  have Nhi := Nhi_0
  have NB := NB_0
  clear BW Fx Fm Fn Fmn Fhi Nx_0 Nm_0 Nn_0 Nmn_0 Nhi_0 NB_0
  generalize ((((v10.setCell ⟨gx, 0, none⟩ (.int .u64 (wd x 0 : Nat))).setCell ⟨gx, 1, none⟩ (.int .u64 (wd x 1 : Nat))).setCell ⟨gx, 2, none⟩ (.int .u64 (wd x 2 : Nat))).setCell ⟨gx, 3, none⟩ (.int .u64 (wd x 3 : Nat))) = W11 at *
  have Fx := Lib.hid Nx
  have Fm := Lib.hid Nm
  have Fn := Lib.hid Nn
  have Fmn := Lib.hid Nmn
  have Fhi := Lib.hid Nhi
  have BW := Lib.hid NB
  clear NB Nx Nm Nn Nmn Nhi
  refine (HB2.out _).mono ?_
  rintro e v12 ⟨rfl, z12⟩
  have Nx := Lib.hid (Fx.out.on z12)
  have Nm := Lib.hid (Fm.out.on z12)
  have Nn := Lib.hid (Fn.out.on z12)
  have Nmn := Lib.hid (Fmn.out.on z12)
  have Nhi := Lib.hid (Fhi.out.on z12)
  have NB := Lib.hid (bel_tr BW.out z12)
  clear BW z12 Fx Fm Fn Fmn Fhi
  have Fx := Nx
  have Fm := Nm
  have Fn := Nn
  have Fmn := Nmn
  have Fhi := Nhi
  have BW := NB
  clear NB Nx Nm Nn Nmn Nhi
  go_wp2_with fail
  have Na : At (v12.alloc (.cells #[.int .u64 (wd a 0 : Nat), .int .u64 (wd a 1 : Nat), .int .u64 (wd a 2 : Nat), .int .u64 (wd a 3 : Nat)] 24)) (v12.heap.size) 24 #[.int .u64 (wd a 0 : Nat), .int .u64 (wd a 1 : Nat), .int .u64 (wd a 2 : Nat), .int .u64 (wd a 3 : Nat)] := At.at_ _ _ _ _ (by simp)
  have Dxa : gx ≠ v12.heap.size := by have := Fx.out.lt; omega
  have Nx : At (v12.alloc (.cells #[.int .u64 (wd a 0 : Nat), .int .u64 (wd a 1 : Nat), .int .u64 (wd a 2 : Nat), .int .u64 (wd a 3 : Nat)] 24)) gx 24 #[.int .u64 (wd x 0 : Nat), .int .u64 (wd x 1 : Nat), .int .u64 (wd x 2 : Nat), .int .u64 (wd x 3 : Nat)] := Fx.out.alloc _
  have Nm : At (v12.alloc (.cells #[.int .u64 (wd a 0 : Nat), .int .u64 (wd a 1 : Nat), .int .u64 (wd a 2 : Nat), .int .u64 (wd a 3 : Nat)] 24)) gm 24 #[.int .u64 (wd i 0 : Nat), .int .u64 (wd i 1 : Nat), .int .u64 (wd i 2 : Nat), .int .u64 (wd i 3 : Nat)] := Fm.out.alloc _
  have Nn : At (v12.alloc (.cells #[.int .u64 (wd a 0 : Nat), .int .u64 (wd a 1 : Nat), .int .u64 (wd a 2 : Nat), .int .u64 (wd a 3 : Nat)] 24)) gn 24 #[.int .u64 (wd j 0 : Nat), .int .u64 (wd j 1 : Nat), .int .u64 (wd j 2 : Nat), .int .u64 (wd j 3 : Nat)] := Fn.out.alloc _
  have Nmn : At (v12.alloc (.cells #[.int .u64 (wd a 0 : Nat), .int .u64 (wd a 1 : Nat), .int .u64 (wd a 2 : Nat), .int .u64 (wd a 3 : Nat)] 24)) gmn 24 #[.int .u64 (wd P 0 : Nat), .int .u64 (wd P 1 : Nat), .int .u64 (wd P 2 : Nat), .int .u64 (wd P 3 : Nat)] := Fmn.out.alloc _
  have Nhi : At (v12.alloc (.cells #[.int .u64 (wd a 0 : Nat), .int .u64 (wd a 1 : Nat), .int .u64 (wd a 2 : Nat), .int .u64 (wd a 3 : Nat)] 24)) ghi 24 #[.int .u64 (wd N0 0 : Nat), .int .u64 (wd N0 1 : Nat), .int .u64 (wd N0 2 : Nat), .int .u64 (wd N0 3 : Nat)] := Fhi.out.alloc _
  have NB : Below w.heap.size w (v12.alloc (.cells #[.int .u64 (wd a 0 : Nat), .int .u64 (wd a 1 : Nat), .int .u64 (wd a 2 : Nat), .int .u64 (wd a 3 : Nat)] 24)) := gr_alloc BW.out _
  clear BW Fx Fm Fn Fmn Fhi
  generalize (v12.alloc (.cells #[.int .u64 (wd a 0 : Nat), .int .u64 (wd a 1 : Nat), .int .u64 (wd a 2 : Nat), .int .u64 (wd a 3 : Nat)] 24)) = W13 at *
  generalize v12.heap.size = ga at *
  have Fx := Lib.hid Nx
  have Fm := Lib.hid Nm
  have Fn := Lib.hid Nn
  have Fmn := Lib.hid Nmn
  have Fhi := Lib.hid Nhi
  have Fa := Lib.hid Na
  have BW := Lib.hid NB
  clear NB Nx Nm Nn Nmn Nhi Na
  clear Fmn
  try simp only [List.append_eq, List.cons_append, List.nil_append]
  refine wp_region_noPanic ?_
  refine wp_region_held_drew (S := fun w' => True) (by kernel_rfl) (trivial) (fun _ => ?_)
  refine wpAnyH_cores (fuel := 2) (⟨0, 54, [], Kind.val (.agg #[.int .u64 (wd i 0 : Nat), .int .u64 (wd i 1 : Nat), .int .u64 (wd i 2 : Nat), .int .u64 (wd i 3 : Nat)]), false⟩ :: ⟨1, 55, [], Kind.val (.agg #[.int .u64 (wd j 0 : Nat), .int .u64 (wd j 1 : Nat), .int .u64 (wd j 2 : Nat), .int .u64 (wd j 3 : Nat)]), false⟩ :: ⟨2, 56, [0, 1], Kind.val (.agg #[.int .u64 (wd mj 0 : Nat), .int .u64 (wd mj 1 : Nat), .int .u64 (wd mj 2 : Nat), .int .u64 (wd mj 3 : Nat)]), false⟩ :: ⟨3, 57, [], Kind.val (.agg #[.int .u64 (wd j 0 : Nat), .int .u64 (wd j 1 : Nat), .int .u64 (wd j 2 : Nat), .int .u64 (wd j 3 : Nat)]), false⟩ :: ⟨4, 58, [2, 3], Kind.val (.tuple #[.agg #[.int .u64 (wd bb 0 : Nat), .int .u64 (wd bb 1 : Nat), .int .u64 (wd bb 2 : Nat), .int .u64 (wd bb 3 : Nat)], .int .i64 0]), false⟩ :: ⟨5, 53, [4], Kind.val (.tuple #[.agg #[.int .u64 (wd bb 0 : Nat), .int .u64 (wd bb 1 : Nat), .int .u64 (wd bb 2 : Nat), .int .u64 (wd bb 3 : Nat)], .int .i64 0]), true⟩ :: ⟨6, 59, [5], Kind.val (.agg #[.int .u64 (wd bb 0 : Nat), .int .u64 (wd bb 1 : Nat), .int .u64 (wd bb 2 : Nat), .int .u64 (wd bb 3 : Nat)]), true⟩ :: ⟨7, 60, [5], Kind.val (.int .i64 0), true⟩ :: ⟨8, 10, [], Kind.cell W13.heap.size 24 #[.int .u64 0, .int .u64 0, .int .u64 0, .int .u64 0], false⟩ :: []) _ _ W13 _ ?_ ?_ ?_ ?_ ?_ ?_ ?_ ?_ ?_ ?_ ?_
  · rfl
  · kernel_rfl
  · exact of_decide_eq_true rfl
  · exact all_cons ⟨_, rfl, rfl⟩ (all_cons ⟨_, rfl, rfl⟩ (all_cons ⟨_, rfl, rfl⟩ (all_cons ⟨_, rfl, rfl⟩ (all_cons ⟨_, rfl, rfl⟩ (all_cons ⟨_, rfl, rfl⟩ (all_cons ⟨_, rfl, rfl⟩ (all_cons ⟨_, rfl, rfl⟩ (all_cons ⟨_, rfl, rfl⟩ (all_nil)))))))))
  · exact fun _ hb => trivial
  · exact (Below.refl _ _).drew
  · kernel_rfl
  · exact fun _ _ _ _ _ h => h
  · refine all_cons ?_ (all_cons ?_ (all_cons ?_ (all_cons ?_ (all_cons ?_ (all_cons ?_ (all_cons ?_ (all_cons ?_ (all_cons ?_ (all_nil)))))))))
    · exact core_pureAs _ (by rfl)
    · exact core_pureAs _ (by rfl)
    · exact core_pureAs _ (by rfl)
    · exact core_pureAs _ (by rfl)
    · exact core_pureAs _ (by rfl)
    · exact core_move _ _ _ _ _ _ (by rfl) (by rfl) (known_core 4 58 _ _ (of_decide_eq_true (by rfl)) (by rfl) (by rfl) (by rfl))
    · exact core_extract _ _ 0 _ _ _ _ _ (by rfl) (by rfl) (known_core 5 53 _ _ (of_decide_eq_true (by rfl)) (by rfl) (by rfl) (by rfl)) (by rfl)
    · exact core_extract _ _ 1 _ _ _ _ _ (by rfl) (by rfl) (known_core 5 53 _ _ (of_decide_eq_true (by rfl)) (by rfl) (by rfl) (by rfl)) (by rfl)
    · exact core_pureAs _ (by rfl)
  · refine all_cons ?_ (all_cons ?_ (all_cons ?_ (all_cons ?_ (all_cons ?_ (all_cons ?_ (all_cons ?_ (all_cons ?_ (all_cons ?_ (all_nil)))))))))
    · exact fun _ => core_load _ _ _ _ _ gm _ _ _ _ (by rfl) (by rfl) (known_old 5 _ (of_decide_eq_true (by rfl)) (by rfl)) Fm.out
    · exact fun _ => core_load _ _ _ _ _ gn _ _ _ _ (by rfl) (by rfl) (known_old 6 _ (of_decide_eq_true (by rfl)) (by rfl)) Fn.out
    · exact fun _ => core_call _ 30 _ _ [.tmp 54, .tmp 55] _ _ _ _ _ _ (by rfl) Try.func30 (by kernel_rfl) (by rfl) (by rfl) (.cons (known_core 0 54 _ _ (of_decide_eq_true (by rfl)) (by rfl) (by rfl) (by rfl)) (.cons (known_core 1 55 _ _ (of_decide_eq_true (by rfl)) (by rfl) (by rfl) (by rfl)) .nil)) (HB3.out)
    · exact fun _ => core_load _ _ _ _ _ gn _ _ _ _ (by rfl) (by rfl) (known_old 6 _ (of_decide_eq_true (by rfl)) (by rfl)) Fn.out
    · exact fun _ => core_call _ 21 _ _ [.tmp 56, .tmp 57] _ _ _ _ _ _ (by rfl) Try.func21 (by kernel_rfl) (by rfl) (by rfl) (.cons (known_core 2 56 _ _ (of_decide_eq_true (by rfl)) (by rfl) (by rfl) (by rfl)) (.cons (known_core 3 57 _ _ (of_decide_eq_true (by rfl)) (by rfl) (by rfl) (by rfl)) .nil)) (HI.out)
    · exact core_stepAs _ (by rfl)
    · exact core_stepAs _ (by rfl)
    · exact core_stepAs _ (by rfl)
    · exact fun _ => core_alloc _ _ _ _ _ (by rfl) (by rfl) (Nat.le_refl _)
  intro vs y14 hc
  obtain ⟨vv0, vv1, vv2, vv3, vv4, vv5, vv6, vv7, vv8, rfl⟩ := len9 vs hc.lv
  have qq0 : vv0 = .agg #[.int .u64 (wd i 0 : Nat), .int .u64 (wd i 1 : Nat), .int .u64 (wd i 2 : Nat), .int .u64 (wd i 3 : Nat)] := by obtain ⟨xx, hx, hy⟩ := hc.ok 0 _ rfl rfl; exact (Option.some.inj (show some vv0 = some xx from hx)).trans hy
  have qq1 : vv1 = .agg #[.int .u64 (wd j 0 : Nat), .int .u64 (wd j 1 : Nat), .int .u64 (wd j 2 : Nat), .int .u64 (wd j 3 : Nat)] := by obtain ⟨xx, hx, hy⟩ := hc.ok 1 _ rfl rfl; exact (Option.some.inj (show some vv1 = some xx from hx)).trans hy
  have qq2 : vv2 = .agg #[.int .u64 (wd mj 0 : Nat), .int .u64 (wd mj 1 : Nat), .int .u64 (wd mj 2 : Nat), .int .u64 (wd mj 3 : Nat)] := by obtain ⟨xx, hx, hy⟩ := hc.ok 2 _ rfl rfl; exact (Option.some.inj (show some vv2 = some xx from hx)).trans hy
  have qq3 : vv3 = .agg #[.int .u64 (wd j 0 : Nat), .int .u64 (wd j 1 : Nat), .int .u64 (wd j 2 : Nat), .int .u64 (wd j 3 : Nat)] := by obtain ⟨xx, hx, hy⟩ := hc.ok 3 _ rfl rfl; exact (Option.some.inj (show some vv3 = some xx from hx)).trans hy
  have qq4 : vv4 = .tuple #[.agg #[.int .u64 (wd bb 0 : Nat), .int .u64 (wd bb 1 : Nat), .int .u64 (wd bb 2 : Nat), .int .u64 (wd bb 3 : Nat)], .int .i64 0] := by obtain ⟨xx, hx, hy⟩ := hc.ok 4 _ rfl rfl; exact (Option.some.inj (show some vv4 = some xx from hx)).trans hy
  have qq5 : vv5 = .tuple #[.agg #[.int .u64 (wd bb 0 : Nat), .int .u64 (wd bb 1 : Nat), .int .u64 (wd bb 2 : Nat), .int .u64 (wd bb 3 : Nat)], .int .i64 0] := by obtain ⟨xx, hx, hy⟩ := hc.ok 5 _ rfl rfl; exact (Option.some.inj (show some vv5 = some xx from hx)).trans hy
  have qq6 : vv6 = .agg #[.int .u64 (wd bb 0 : Nat), .int .u64 (wd bb 1 : Nat), .int .u64 (wd bb 2 : Nat), .int .u64 (wd bb 3 : Nat)] := by obtain ⟨xx, hx, hy⟩ := hc.ok 6 _ rfl rfl; exact (Option.some.inj (show some vv6 = some xx from hx)).trans hy
  have qq7 : vv7 = .int .i64 0 := by obtain ⟨xx, hx, hy⟩ := hc.ok 7 _ rfl rfl; exact (Option.some.inj (show some vv7 = some xx from hx)).trans hy
  obtain ⟨xx, hx, gby, hv, Eby, Aby⟩ := hc.ok 8 _ rfl rfl
  have qq8 : vv8 = .pointer (some ⟨gby, 0, none⟩) := (Option.some.inj (show some vv8 = some xx from hx)).trans hv
  clear hx hv
  have BZ := hc.bel
  clear hc
  have Nx := Fx.out.on BZ
  have Nm := Fm.out.on BZ
  have Nn := Fn.out.on BZ
  have Nhi := Fhi.out.on BZ
  have Na := Fa.out.on BZ
  have Dxby : gx ≠ gby := by have := Fx.out.lt; omega
  have Dmby : gm ≠ gby := by have := Fm.out.lt; omega
  have Dnby : gn ≠ gby := by have := Fn.out.lt; omega
  have Dhiby : ghi ≠ gby := by have := Fhi.out.lt; omega
  have Daby : ga ≠ gby := by have := Fa.out.lt; omega
  have HSZ14 := BW.out.size
  have NB := bel_tr BW.out BZ
  clear BW BZ Fx Fm Fn Fhi Fa
  subst qq0 qq1 qq2 qq3 qq4 qq5 qq6 qq7 qq8
  simp only [List.map_cons, List.map_nil, over, Act.put, List.setIfInBounds_toArray, List.set_cons_zero, List.set_cons_succ]
  have OLD := Aby
  replace Nx := put4_far Nx Dxby (.int .u64 (wd bb 0 : Nat)) (.int .u64 (wd bb 1 : Nat)) (.int .u64 (wd bb 2 : Nat)) (.int .u64 (wd bb 3 : Nat))
  replace Nm := put4_far Nm Dmby (.int .u64 (wd bb 0 : Nat)) (.int .u64 (wd bb 1 : Nat)) (.int .u64 (wd bb 2 : Nat)) (.int .u64 (wd bb 3 : Nat))
  replace Nn := put4_far Nn Dnby (.int .u64 (wd bb 0 : Nat)) (.int .u64 (wd bb 1 : Nat)) (.int .u64 (wd bb 2 : Nat)) (.int .u64 (wd bb 3 : Nat))
  replace Nhi := put4_far Nhi Dhiby (.int .u64 (wd bb 0 : Nat)) (.int .u64 (wd bb 1 : Nat)) (.int .u64 (wd bb 2 : Nat)) (.int .u64 (wd bb 3 : Nat))
  replace Na := put4_far Na Daby (.int .u64 (wd bb 0 : Nat)) (.int .u64 (wd bb 1 : Nat)) (.int .u64 (wd bb 2 : Nat)) (.int .u64 (wd bb 3 : Nat))
  replace Aby := put4_at Aby (.int .u64 (wd bb 0 : Nat)) (.int .u64 (wd bb 1 : Nat)) (.int .u64 (wd bb 2 : Nat)) (.int .u64 (wd bb 3 : Nat))
  replace NB := put4_below NB (Nat.le_trans HSZ14 Eby) (.int .u64 (wd bb 0 : Nat)) (.int .u64 (wd bb 1 : Nat)) (.int .u64 (wd bb 2 : Nat)) (.int .u64 (wd bb 3 : Nat))
  refine store_one (i := 9) _ _ _ _ _ gby _ _ _ _ _ _ _ _ (by kernel_rfl) (by rfl) (by rfl) (by rfl) OLD (trivial) ?_
  clear OLD
  generalize (put4 y14 gby (.int .u64 (wd bb 0 : Nat)) (.int .u64 (wd bb 1 : Nat)) (.int .u64 (wd bb 2 : Nat)) (.int .u64 (wd bb 3 : Nat))) = y14_9 at *
  refine assign_one (i := 10) _ 11 _ _ _ (.int .i64 0) (by kernel_rfl) (by rfl) (by rfl) (trivial) ?_
  try simp only [Act.put, List.setIfInBounds_toArray, List.set_cons_zero, List.set_cons_succ]
  refine wpAnyH_done (by kernel_rfl) ?_ _
  refine NoPanic.normal ?_
  have Fx := Lib.hid Nx
  have Fm := Lib.hid Nm
  have Fn := Lib.hid Nn
  have Fhi := Lib.hid Nhi
  have Fa := Lib.hid Na
  have Fby := Lib.hid Aby
  have BW := Lib.hid NB
  clear NB Nx Nm Nn Nhi Na Aby
  clear Eby
  clear HSZ14
  go_wp2_with fail
  try simp only [List.append_eq, List.cons_append, List.nil_append]
  refine wp_region_noPanic ?_
  refine wp_region_held_drew (S := fun w' => True) (by kernel_rfl) (trivial) (fun _ => ?_)
  refine wpAnyH_cores (fuel := 2) (⟨0, 62, [], Kind.val (.agg #[.int .u64 (wd x 0 : Nat), .int .u64 (wd x 1 : Nat), .int .u64 (wd x 2 : Nat), .int .u64 (wd x 3 : Nat)]), false⟩ :: ⟨1, 63, [], Kind.val (.agg #[.int .u64 (wd j 0 : Nat), .int .u64 (wd j 1 : Nat), .int .u64 (wd j 2 : Nat), .int .u64 (wd j 3 : Nat)]), false⟩ :: ⟨2, 64, [0, 1], Kind.val (.agg #[.int .u64 (wd xj 0 : Nat), .int .u64 (wd xj 1 : Nat), .int .u64 (wd xj 2 : Nat), .int .u64 (wd xj 3 : Nat)]), false⟩ :: ⟨3, 65, [], Kind.val (.agg #[.int .u64 (wd a 0 : Nat), .int .u64 (wd a 1 : Nat), .int .u64 (wd a 2 : Nat), .int .u64 (wd a 3 : Nat)]), false⟩ :: ⟨4, 66, [], Kind.val (.agg #[.int .u64 (wd j 0 : Nat), .int .u64 (wd j 1 : Nat), .int .u64 (wd j 2 : Nat), .int .u64 (wd j 3 : Nat)]), false⟩ :: ⟨5, 67, [3, 4, 2], Kind.val (.agg #[.int .u64 (wd aj 0 : Nat), .int .u64 (wd aj 1 : Nat), .int .u64 (wd aj 2 : Nat), .int .u64 (wd aj 3 : Nat)]), false⟩ :: ⟨6, 68, [], Kind.val (.agg #[.int .u64 (wd j 0 : Nat), .int .u64 (wd j 1 : Nat), .int .u64 (wd j 2 : Nat), .int .u64 (wd j 3 : Nat)]), false⟩ :: ⟨7, 69, [2, 5, 6], Kind.val (.tuple #[.agg #[.int .u64 (wd d 0 : Nat), .int .u64 (wd d 1 : Nat), .int .u64 (wd d 2 : Nat), .int .u64 (wd d 3 : Nat)], .int .i64 0]), false⟩ :: ⟨8, 61, [7], Kind.val (.tuple #[.agg #[.int .u64 (wd d 0 : Nat), .int .u64 (wd d 1 : Nat), .int .u64 (wd d 2 : Nat), .int .u64 (wd d 3 : Nat)], .int .i64 0]), true⟩ :: ⟨9, 70, [8], Kind.val (.agg #[.int .u64 (wd d 0 : Nat), .int .u64 (wd d 1 : Nat), .int .u64 (wd d 2 : Nat), .int .u64 (wd d 3 : Nat)]), true⟩ :: ⟨10, 71, [8], Kind.val (.int .i64 0), true⟩ :: ⟨11, 12, [], Kind.cell y14_9.heap.size 24 #[.int .u64 0, .int .u64 0, .int .u64 0, .int .u64 0], false⟩ :: []) _ _ y14_9 _ ?_ ?_ ?_ ?_ ?_ ?_ ?_ ?_ ?_ ?_ ?_
  · rfl
  · kernel_rfl
  · exact of_decide_eq_true rfl
  · exact all_cons ⟨_, rfl, rfl⟩ (all_cons ⟨_, rfl, rfl⟩ (all_cons ⟨_, rfl, rfl⟩ (all_cons ⟨_, rfl, rfl⟩ (all_cons ⟨_, rfl, rfl⟩ (all_cons ⟨_, rfl, rfl⟩ (all_cons ⟨_, rfl, rfl⟩ (all_cons ⟨_, rfl, rfl⟩ (all_cons ⟨_, rfl, rfl⟩ (all_cons ⟨_, rfl, rfl⟩ (all_cons ⟨_, rfl, rfl⟩ (all_cons ⟨_, rfl, rfl⟩ (all_nil))))))))))))
  · exact fun _ hb => trivial
  · exact (Below.refl _ _).drew
  · kernel_rfl
  · exact fun _ _ _ _ _ h => h
  · refine all_cons ?_ (all_cons ?_ (all_cons ?_ (all_cons ?_ (all_cons ?_ (all_cons ?_ (all_cons ?_ (all_cons ?_ (all_cons ?_ (all_cons ?_ (all_cons ?_ (all_cons ?_ (all_nil))))))))))))
    · exact core_pureAs _ (by rfl)
    · exact core_pureAs _ (by rfl)
    · exact core_pureAs _ (by rfl)
    · exact core_pureAs _ (by rfl)
    · exact core_pureAs _ (by rfl)
    · exact core_pureAs _ (by rfl)
    · exact core_pureAs _ (by rfl)
    · exact core_pureAs _ (by rfl)
    · exact core_move _ _ _ _ _ _ (by rfl) (by rfl) (known_core 7 69 _ _ (of_decide_eq_true (by rfl)) (by rfl) (by rfl) (by rfl))
    · exact core_extract _ _ 0 _ _ _ _ _ (by rfl) (by rfl) (known_core 8 61 _ _ (of_decide_eq_true (by rfl)) (by rfl) (by rfl) (by rfl)) (by rfl)
    · exact core_extract _ _ 1 _ _ _ _ _ (by rfl) (by rfl) (known_core 8 61 _ _ (of_decide_eq_true (by rfl)) (by rfl) (by rfl) (by rfl)) (by rfl)
    · exact core_pureAs _ (by rfl)
  · refine all_cons ?_ (all_cons ?_ (all_cons ?_ (all_cons ?_ (all_cons ?_ (all_cons ?_ (all_cons ?_ (all_cons ?_ (all_cons ?_ (all_cons ?_ (all_cons ?_ (all_cons ?_ (all_nil))))))))))))
    · exact fun _ => core_load _ _ _ _ _ gx _ _ _ _ (by rfl) (by rfl) (known_old 3 _ (of_decide_eq_true (by rfl)) (by rfl)) Fx.out
    · exact fun _ => core_load _ _ _ _ _ gn _ _ _ _ (by rfl) (by rfl) (known_old 6 _ (of_decide_eq_true (by rfl)) (by rfl)) Fn.out
    · exact fun _ => core_call _ 30 _ _ [.tmp 62, .tmp 63] _ _ _ _ _ _ (by rfl) Try.func30 (by kernel_rfl) (by rfl) (by rfl) (.cons (known_core 0 62 _ _ (of_decide_eq_true (by rfl)) (by rfl) (by rfl) (by rfl)) (.cons (known_core 1 63 _ _ (of_decide_eq_true (by rfl)) (by rfl) (by rfl) (by rfl)) .nil)) (HB4.out)
    · exact fun _ => core_load _ _ _ _ _ ga _ _ _ _ (by rfl) (by rfl) (known_old 9 _ (of_decide_eq_true (by rfl)) (by rfl)) Fa.out
    · exact fun _ => core_load _ _ _ _ _ gn _ _ _ _ (by rfl) (by rfl) (known_old 6 _ (of_decide_eq_true (by rfl)) (by rfl)) Fn.out
    · exact fun _ => core_call _ 30 _ _ [.tmp 65, .tmp 66] _ _ _ _ _ _ (by rfl) Try.func30 (by kernel_rfl) (by rfl) (by rfl) (.cons (known_core 3 65 _ _ (of_decide_eq_true (by rfl)) (by rfl) (by rfl) (by rfl)) (.cons (known_core 4 66 _ _ (of_decide_eq_true (by rfl)) (by rfl) (by rfl) (by rfl)) .nil)) (HB5.out)
    · exact fun _ => core_load _ _ _ _ _ gn _ _ _ _ (by rfl) (by rfl) (known_old 6 _ (of_decide_eq_true (by rfl)) (by rfl)) Fn.out
    · exact fun _ => core_call _ 18 _ _ [.tmp 64, .tmp 67, .tmp 68] _ _ _ _ _ _ (by rfl) Try.func18 (by kernel_rfl) (by rfl) (by rfl) (.cons (known_core 2 64 _ _ (of_decide_eq_true (by rfl)) (by rfl) (by rfl) (by rfl)) (.cons (known_core 5 67 _ _ (of_decide_eq_true (by rfl)) (by rfl) (by rfl) (by rfl)) (.cons (known_core 6 68 _ _ (of_decide_eq_true (by rfl)) (by rfl) (by rfl) (by rfl)) .nil))) (HS.out)
    · exact core_stepAs _ (by rfl)
    · exact core_stepAs _ (by rfl)
    · exact core_stepAs _ (by rfl)
    · exact fun _ => core_alloc _ _ _ _ _ (by rfl) (by rfl) (Nat.le_refl _)
  intro vs y15 hc
  obtain ⟨vv0, vv1, vv2, vv3, vv4, vv5, vv6, vv7, vv8, vv9, vv10, vv11, rfl⟩ := len12 vs hc.lv
  have qq0 : vv0 = .agg #[.int .u64 (wd x 0 : Nat), .int .u64 (wd x 1 : Nat), .int .u64 (wd x 2 : Nat), .int .u64 (wd x 3 : Nat)] := by obtain ⟨xx, hx, hy⟩ := hc.ok 0 _ rfl rfl; exact (Option.some.inj (show some vv0 = some xx from hx)).trans hy
  have qq1 : vv1 = .agg #[.int .u64 (wd j 0 : Nat), .int .u64 (wd j 1 : Nat), .int .u64 (wd j 2 : Nat), .int .u64 (wd j 3 : Nat)] := by obtain ⟨xx, hx, hy⟩ := hc.ok 1 _ rfl rfl; exact (Option.some.inj (show some vv1 = some xx from hx)).trans hy
  have qq2 : vv2 = .agg #[.int .u64 (wd xj 0 : Nat), .int .u64 (wd xj 1 : Nat), .int .u64 (wd xj 2 : Nat), .int .u64 (wd xj 3 : Nat)] := by obtain ⟨xx, hx, hy⟩ := hc.ok 2 _ rfl rfl; exact (Option.some.inj (show some vv2 = some xx from hx)).trans hy
  have qq3 : vv3 = .agg #[.int .u64 (wd a 0 : Nat), .int .u64 (wd a 1 : Nat), .int .u64 (wd a 2 : Nat), .int .u64 (wd a 3 : Nat)] := by obtain ⟨xx, hx, hy⟩ := hc.ok 3 _ rfl rfl; exact (Option.some.inj (show some vv3 = some xx from hx)).trans hy
  have qq4 : vv4 = .agg #[.int .u64 (wd j 0 : Nat), .int .u64 (wd j 1 : Nat), .int .u64 (wd j 2 : Nat), .int .u64 (wd j 3 : Nat)] := by obtain ⟨xx, hx, hy⟩ := hc.ok 4 _ rfl rfl; exact (Option.some.inj (show some vv4 = some xx from hx)).trans hy
  have qq5 : vv5 = .agg #[.int .u64 (wd aj 0 : Nat), .int .u64 (wd aj 1 : Nat), .int .u64 (wd aj 2 : Nat), .int .u64 (wd aj 3 : Nat)] := by obtain ⟨xx, hx, hy⟩ := hc.ok 5 _ rfl rfl; exact (Option.some.inj (show some vv5 = some xx from hx)).trans hy
  have qq6 : vv6 = .agg #[.int .u64 (wd j 0 : Nat), .int .u64 (wd j 1 : Nat), .int .u64 (wd j 2 : Nat), .int .u64 (wd j 3 : Nat)] := by obtain ⟨xx, hx, hy⟩ := hc.ok 6 _ rfl rfl; exact (Option.some.inj (show some vv6 = some xx from hx)).trans hy
  have qq7 : vv7 = .tuple #[.agg #[.int .u64 (wd d 0 : Nat), .int .u64 (wd d 1 : Nat), .int .u64 (wd d 2 : Nat), .int .u64 (wd d 3 : Nat)], .int .i64 0] := by obtain ⟨xx, hx, hy⟩ := hc.ok 7 _ rfl rfl; exact (Option.some.inj (show some vv7 = some xx from hx)).trans hy
  have qq8 : vv8 = .tuple #[.agg #[.int .u64 (wd d 0 : Nat), .int .u64 (wd d 1 : Nat), .int .u64 (wd d 2 : Nat), .int .u64 (wd d 3 : Nat)], .int .i64 0] := by obtain ⟨xx, hx, hy⟩ := hc.ok 8 _ rfl rfl; exact (Option.some.inj (show some vv8 = some xx from hx)).trans hy
  have qq9 : vv9 = .agg #[.int .u64 (wd d 0 : Nat), .int .u64 (wd d 1 : Nat), .int .u64 (wd d 2 : Nat), .int .u64 (wd d 3 : Nat)] := by obtain ⟨xx, hx, hy⟩ := hc.ok 9 _ rfl rfl; exact (Option.some.inj (show some vv9 = some xx from hx)).trans hy
  have qq10 : vv10 = .int .i64 0 := by obtain ⟨xx, hx, hy⟩ := hc.ok 10 _ rfl rfl; exact (Option.some.inj (show some vv10 = some xx from hx)).trans hy
  obtain ⟨xx, hx, gd, hv, Ed, Ad⟩ := hc.ok 11 _ rfl rfl
  have qq11 : vv11 = .pointer (some ⟨gd, 0, none⟩) := (Option.some.inj (show some vv11 = some xx from hx)).trans hv
  clear hx hv
  have BZ := hc.bel
  clear hc
  have Nx := Fx.out.on BZ
  have Nm := Fm.out.on BZ
  have Nn := Fn.out.on BZ
  have Nhi := Fhi.out.on BZ
  have Na := Fa.out.on BZ
  have Nby := Fby.out.on BZ
  have Dxd : gx ≠ gd := by have := Fx.out.lt; omega
  have Dmd : gm ≠ gd := by have := Fm.out.lt; omega
  have Dnd : gn ≠ gd := by have := Fn.out.lt; omega
  have Dhid : ghi ≠ gd := by have := Fhi.out.lt; omega
  have Dad : ga ≠ gd := by have := Fa.out.lt; omega
  have Dbyd : gby ≠ gd := by have := Fby.out.lt; omega
  have HSZ15 := BW.out.size
  have NB := bel_tr BW.out BZ
  clear BW BZ Fx Fm Fn Fhi Fa Fby
  subst qq0 qq1 qq2 qq3 qq4 qq5 qq6 qq7 qq8 qq9 qq10 qq11
  simp only [List.map_cons, List.map_nil, over, Act.put, List.setIfInBounds_toArray, List.set_cons_zero, List.set_cons_succ]
  have OLD := Ad
  replace Nx := put4_far Nx Dxd (.int .u64 (wd d 0 : Nat)) (.int .u64 (wd d 1 : Nat)) (.int .u64 (wd d 2 : Nat)) (.int .u64 (wd d 3 : Nat))
  replace Nm := put4_far Nm Dmd (.int .u64 (wd d 0 : Nat)) (.int .u64 (wd d 1 : Nat)) (.int .u64 (wd d 2 : Nat)) (.int .u64 (wd d 3 : Nat))
  replace Nn := put4_far Nn Dnd (.int .u64 (wd d 0 : Nat)) (.int .u64 (wd d 1 : Nat)) (.int .u64 (wd d 2 : Nat)) (.int .u64 (wd d 3 : Nat))
  replace Nhi := put4_far Nhi Dhid (.int .u64 (wd d 0 : Nat)) (.int .u64 (wd d 1 : Nat)) (.int .u64 (wd d 2 : Nat)) (.int .u64 (wd d 3 : Nat))
  replace Na := put4_far Na Dad (.int .u64 (wd d 0 : Nat)) (.int .u64 (wd d 1 : Nat)) (.int .u64 (wd d 2 : Nat)) (.int .u64 (wd d 3 : Nat))
  replace Nby := put4_far Nby Dbyd (.int .u64 (wd d 0 : Nat)) (.int .u64 (wd d 1 : Nat)) (.int .u64 (wd d 2 : Nat)) (.int .u64 (wd d 3 : Nat))
  replace Ad := put4_at Ad (.int .u64 (wd d 0 : Nat)) (.int .u64 (wd d 1 : Nat)) (.int .u64 (wd d 2 : Nat)) (.int .u64 (wd d 3 : Nat))
  replace NB := put4_below NB (Nat.le_trans HSZ15 Ed) (.int .u64 (wd d 0 : Nat)) (.int .u64 (wd d 1 : Nat)) (.int .u64 (wd d 2 : Nat)) (.int .u64 (wd d 3 : Nat))
  refine store_one (i := 12) _ _ _ _ _ gd _ _ _ _ _ _ _ _ (by kernel_rfl) (by rfl) (by rfl) (by rfl) OLD (trivial) ?_
  clear OLD
  generalize (put4 y15 gd (.int .u64 (wd d 0 : Nat)) (.int .u64 (wd d 1 : Nat)) (.int .u64 (wd d 2 : Nat)) (.int .u64 (wd d 3 : Nat))) = y15_12 at *
  refine assign_one (i := 13) _ 13 _ _ _ (.int .i64 0) (by kernel_rfl) (by rfl) (by rfl) (trivial) ?_
  try simp only [Act.put, List.setIfInBounds_toArray, List.set_cons_zero, List.set_cons_succ]
  refine wpAnyH_done (by kernel_rfl) ?_ _
  refine NoPanic.normal ?_
  have Fx := Lib.hid Nx
  have Fm := Lib.hid Nm
  have Fn := Lib.hid Nn
  have Fhi := Lib.hid Nhi
  have Fa := Lib.hid Na
  have Fby := Lib.hid Nby
  have Fd := Lib.hid Ad
  have BW := Lib.hid NB
  clear NB Nx Nm Nn Nhi Na Nby Ad
  clear Ed
  clear HSZ15
  have Ld := Fd.out.lt
  have cd0 : y15_12.cell? ⟨gd, 0, none⟩ = some (.int .u64 (wd d 0 : Nat)) := Fd.out.cell 0
  have cd1 : y15_12.cell? ⟨gd, 1, none⟩ = some (.int .u64 (wd d 1 : Nat)) := Fd.out.cell 1
  have cd2 : y15_12.cell? ⟨gd, 2, none⟩ = some (.int .u64 (wd d 2 : Nat)) := Fd.out.cell 2
  have cd3 : y15_12.cell? ⟨gd, 3, none⟩ = some (.int .u64 (wd d 3 : Nat)) := Fd.out.cell 3
  have Lby := Fby.out.lt
  have cby0 : y15_12.cell? ⟨gby, 0, none⟩ = some (.int .u64 (wd bb 0 : Nat)) := Fby.out.cell 0
  have cby1 : y15_12.cell? ⟨gby, 1, none⟩ = some (.int .u64 (wd bb 1 : Nat)) := Fby.out.cell 1
  have cby2 : y15_12.cell? ⟨gby, 2, none⟩ = some (.int .u64 (wd bb 2 : Nat)) := Fby.out.cell 2
  have cby3 : y15_12.cell? ⟨gby, 3, none⟩ = some (.int .u64 (wd bb 3 : Nat)) := Fby.out.cell 3
  have Ln := Fn.out.lt
  have cn0 : y15_12.cell? ⟨gn, 0, none⟩ = some (.int .u64 (wd j 0 : Nat)) := Fn.out.cell 0
  have cn1 : y15_12.cell? ⟨gn, 1, none⟩ = some (.int .u64 (wd j 1 : Nat)) := Fn.out.cell 1
  have cn2 : y15_12.cell? ⟨gn, 2, none⟩ = some (.int .u64 (wd j 2 : Nat)) := Fn.out.cell 2
  have cn3 : y15_12.cell? ⟨gn, 3, none⟩ = some (.int .u64 (wd j 3 : Nat)) := Fn.out.cell 3
  go_wp2_with fail
  clear Ld cd0 cd1 cd2 cd3 Lby cby0 cby1 cby2 cby3 Ln cn0 cn1 cn2 cn3
  refine (HM2.out _).mono ?_
  rintro e v16 ⟨rfl, z16⟩
  have Nx := Lib.hid (Fx.out.on z16)
  have Nm := Lib.hid (Fm.out.on z16)
  have Nn := Lib.hid (Fn.out.on z16)
  have Nhi := Lib.hid (Fhi.out.on z16)
  have Na := Lib.hid (Fa.out.on z16)
  have Nby := Lib.hid (Fby.out.on z16)
  have Nd := Lib.hid (Fd.out.on z16)
  have NB := Lib.hid (bel_tr BW.out z16)
  clear BW z16 Fx Fm Fn Fhi Fa Fby Fd
  have Fx := Nx
  have Fm := Nm
  have Fn := Nn
  have Fhi := Nhi
  have Fa := Na
  have Fby := Nby
  have Fd := Nd
  have BW := NB
  clear NB Nx Nm Nn Nhi Na Nby Nd
  have Lm := Fm.out.lt
  have cm0 : v16.cell? ⟨gm, 0, none⟩ = some (.int .u64 (wd i 0 : Nat)) := Fm.out.cell 0
  have cm1 : v16.cell? ⟨gm, 1, none⟩ = some (.int .u64 (wd i 1 : Nat)) := Fm.out.cell 1
  have cm2 : v16.cell? ⟨gm, 2, none⟩ = some (.int .u64 (wd i 2 : Nat)) := Fm.out.cell 2
  have cm3 : v16.cell? ⟨gm, 3, none⟩ = some (.int .u64 (wd i 3 : Nat)) := Fm.out.cell 3
  go_wp2_with fail
  clear Lm cm0 cm1 cm2 cm3
  have Nt : At (v16.alloc (.cells #[.int .u64 (wd t 0 : Nat), .int .u64 (wd t 1 : Nat), .int .u64 (wd t 2 : Nat), .int .u64 (wd t 3 : Nat)] 24)) (v16.heap.size) 24 #[.int .u64 (wd t 0 : Nat), .int .u64 (wd t 1 : Nat), .int .u64 (wd t 2 : Nat), .int .u64 (wd t 3 : Nat)] := At.at_ _ _ _ _ (by simp)
  have Dxt : gx ≠ v16.heap.size := by have := Fx.out.lt; omega
  have Nx : At (v16.alloc (.cells #[.int .u64 (wd t 0 : Nat), .int .u64 (wd t 1 : Nat), .int .u64 (wd t 2 : Nat), .int .u64 (wd t 3 : Nat)] 24)) gx 24 #[.int .u64 (wd x 0 : Nat), .int .u64 (wd x 1 : Nat), .int .u64 (wd x 2 : Nat), .int .u64 (wd x 3 : Nat)] := Fx.out.alloc _
  have Nm : At (v16.alloc (.cells #[.int .u64 (wd t 0 : Nat), .int .u64 (wd t 1 : Nat), .int .u64 (wd t 2 : Nat), .int .u64 (wd t 3 : Nat)] 24)) gm 24 #[.int .u64 (wd i 0 : Nat), .int .u64 (wd i 1 : Nat), .int .u64 (wd i 2 : Nat), .int .u64 (wd i 3 : Nat)] := Fm.out.alloc _
  have Nn : At (v16.alloc (.cells #[.int .u64 (wd t 0 : Nat), .int .u64 (wd t 1 : Nat), .int .u64 (wd t 2 : Nat), .int .u64 (wd t 3 : Nat)] 24)) gn 24 #[.int .u64 (wd j 0 : Nat), .int .u64 (wd j 1 : Nat), .int .u64 (wd j 2 : Nat), .int .u64 (wd j 3 : Nat)] := Fn.out.alloc _
  have Nhi : At (v16.alloc (.cells #[.int .u64 (wd t 0 : Nat), .int .u64 (wd t 1 : Nat), .int .u64 (wd t 2 : Nat), .int .u64 (wd t 3 : Nat)] 24)) ghi 24 #[.int .u64 (wd N0 0 : Nat), .int .u64 (wd N0 1 : Nat), .int .u64 (wd N0 2 : Nat), .int .u64 (wd N0 3 : Nat)] := Fhi.out.alloc _
  have Na : At (v16.alloc (.cells #[.int .u64 (wd t 0 : Nat), .int .u64 (wd t 1 : Nat), .int .u64 (wd t 2 : Nat), .int .u64 (wd t 3 : Nat)] 24)) ga 24 #[.int .u64 (wd a 0 : Nat), .int .u64 (wd a 1 : Nat), .int .u64 (wd a 2 : Nat), .int .u64 (wd a 3 : Nat)] := Fa.out.alloc _
  have Nby : At (v16.alloc (.cells #[.int .u64 (wd t 0 : Nat), .int .u64 (wd t 1 : Nat), .int .u64 (wd t 2 : Nat), .int .u64 (wd t 3 : Nat)] 24)) gby 24 #[.int .u64 (wd bb 0 : Nat), .int .u64 (wd bb 1 : Nat), .int .u64 (wd bb 2 : Nat), .int .u64 (wd bb 3 : Nat)] := Fby.out.alloc _
  have Nd : At (v16.alloc (.cells #[.int .u64 (wd t 0 : Nat), .int .u64 (wd t 1 : Nat), .int .u64 (wd t 2 : Nat), .int .u64 (wd t 3 : Nat)] 24)) gd 24 #[.int .u64 (wd d 0 : Nat), .int .u64 (wd d 1 : Nat), .int .u64 (wd d 2 : Nat), .int .u64 (wd d 3 : Nat)] := Fd.out.alloc _
  have NB : Below w.heap.size w (v16.alloc (.cells #[.int .u64 (wd t 0 : Nat), .int .u64 (wd t 1 : Nat), .int .u64 (wd t 2 : Nat), .int .u64 (wd t 3 : Nat)] 24)) := gr_alloc BW.out _
  clear BW Fx Fm Fn Fhi Fa Fby Fd
  generalize (v16.alloc (.cells #[.int .u64 (wd t 0 : Nat), .int .u64 (wd t 1 : Nat), .int .u64 (wd t 2 : Nat), .int .u64 (wd t 3 : Nat)] 24)) = W17 at *
  generalize v16.heap.size = gt at *
  have Fx := Lib.hid Nx
  have Fm := Lib.hid Nm
  have Fn := Lib.hid Nn
  have Fhi := Lib.hid Nhi
  have Fa := Lib.hid Na
  have Fby := Lib.hid Nby
  have Fd := Lib.hid Nd
  have Ft := Lib.hid Nt
  have BW := Lib.hid NB
  clear NB Nx Nm Nn Nhi Na Nby Nd Nt
  clear Fd
  clear Fby
  clear Fn
  refine (HM3.out _).mono ?_
  rintro e v18 ⟨rfl, z18⟩
  have Nx := Lib.hid (Fx.out.on z18)
  have Nm := Lib.hid (Fm.out.on z18)
  have Nhi := Lib.hid (Fhi.out.on z18)
  have Na := Lib.hid (Fa.out.on z18)
  have Nt := Lib.hid (Ft.out.on z18)
  have NB := Lib.hid (bel_tr BW.out z18)
  clear BW z18 Fx Fm Fhi Fa Ft
  have Fx := Nx
  have Fm := Nm
  have Fhi := Nhi
  have Fa := Na
  have Ft := Nt
  have BW := NB
  clear NB Nx Nm Nhi Na Nt
  have La := Fa.out.lt
  have ca0 : v18.cell? ⟨ga, 0, none⟩ = some (.int .u64 (wd a 0 : Nat)) := Fa.out.cell 0
  have ca1 : v18.cell? ⟨ga, 1, none⟩ = some (.int .u64 (wd a 1 : Nat)) := Fa.out.cell 1
  have ca2 : v18.cell? ⟨ga, 2, none⟩ = some (.int .u64 (wd a 2 : Nat)) := Fa.out.cell 2
  have ca3 : v18.cell? ⟨ga, 3, none⟩ = some (.int .u64 (wd a 3 : Nat)) := Fa.out.cell 3
  go_wp2_with fail
  clear La ca0 ca1 ca2 ca3
  have Ny : At ((v18.alloc (.cells #[.int .u64 (wd y 0 : Nat), .int .u64 (wd y 1 : Nat), .int .u64 (wd y 2 : Nat), .int .u64 (wd y 3 : Nat)] 24)).alloc (.cells #[.int .u64 (wd N0 0 : Nat), .int .u64 (wd N0 1 : Nat), .int .u64 (wd N0 2 : Nat), .int .u64 (wd N0 3 : Nat)] 24)) (v18.heap.size) 24 #[.int .u64 (wd y 0 : Nat), .int .u64 (wd y 1 : Nat), .int .u64 (wd y 2 : Nat), .int .u64 (wd y 3 : Nat)] := (At.at_ _ _ _ _ (by simp)).alloc _
  have Ey : w.heap.size ≤ v18.heap.size := by have := BW.out.size; omega
  have Dxy : gx ≠ v18.heap.size := by have := Fx.out.lt; omega
  have Dmy : gm ≠ v18.heap.size := by have := Fm.out.lt; omega
  have Dhiy : ghi ≠ v18.heap.size := by have := Fhi.out.lt; omega
  have Day : ga ≠ v18.heap.size := by have := Fa.out.lt; omega
  have Dty : gt ≠ v18.heap.size := by have := Ft.out.lt; omega
  have Nbe : At ((v18.alloc (.cells #[.int .u64 (wd y 0 : Nat), .int .u64 (wd y 1 : Nat), .int .u64 (wd y 2 : Nat), .int .u64 (wd y 3 : Nat)] 24)).alloc (.cells #[.int .u64 (wd N0 0 : Nat), .int .u64 (wd N0 1 : Nat), .int .u64 (wd N0 2 : Nat), .int .u64 (wd N0 3 : Nat)] 24)) (v18.heap.size + 1) 24 #[.int .u64 (wd N0 0 : Nat), .int .u64 (wd N0 1 : Nat), .int .u64 (wd N0 2 : Nat), .int .u64 (wd N0 3 : Nat)] := At.at_ _ _ _ _ (by simp)
  have Dxbe : gx ≠ v18.heap.size + 1 := by have := Fx.out.lt; omega
  have Dybe : v18.heap.size ≠ v18.heap.size + 1 := by omega
  have Nx : At ((v18.alloc (.cells #[.int .u64 (wd y 0 : Nat), .int .u64 (wd y 1 : Nat), .int .u64 (wd y 2 : Nat), .int .u64 (wd y 3 : Nat)] 24)).alloc (.cells #[.int .u64 (wd N0 0 : Nat), .int .u64 (wd N0 1 : Nat), .int .u64 (wd N0 2 : Nat), .int .u64 (wd N0 3 : Nat)] 24)) gx 24 #[.int .u64 (wd x 0 : Nat), .int .u64 (wd x 1 : Nat), .int .u64 (wd x 2 : Nat), .int .u64 (wd x 3 : Nat)] := (Fx.out.alloc _).alloc _
  have Nm : At ((v18.alloc (.cells #[.int .u64 (wd y 0 : Nat), .int .u64 (wd y 1 : Nat), .int .u64 (wd y 2 : Nat), .int .u64 (wd y 3 : Nat)] 24)).alloc (.cells #[.int .u64 (wd N0 0 : Nat), .int .u64 (wd N0 1 : Nat), .int .u64 (wd N0 2 : Nat), .int .u64 (wd N0 3 : Nat)] 24)) gm 24 #[.int .u64 (wd i 0 : Nat), .int .u64 (wd i 1 : Nat), .int .u64 (wd i 2 : Nat), .int .u64 (wd i 3 : Nat)] := (Fm.out.alloc _).alloc _
  have Nhi : At ((v18.alloc (.cells #[.int .u64 (wd y 0 : Nat), .int .u64 (wd y 1 : Nat), .int .u64 (wd y 2 : Nat), .int .u64 (wd y 3 : Nat)] 24)).alloc (.cells #[.int .u64 (wd N0 0 : Nat), .int .u64 (wd N0 1 : Nat), .int .u64 (wd N0 2 : Nat), .int .u64 (wd N0 3 : Nat)] 24)) ghi 24 #[.int .u64 (wd N0 0 : Nat), .int .u64 (wd N0 1 : Nat), .int .u64 (wd N0 2 : Nat), .int .u64 (wd N0 3 : Nat)] := (Fhi.out.alloc _).alloc _
  have Na : At ((v18.alloc (.cells #[.int .u64 (wd y 0 : Nat), .int .u64 (wd y 1 : Nat), .int .u64 (wd y 2 : Nat), .int .u64 (wd y 3 : Nat)] 24)).alloc (.cells #[.int .u64 (wd N0 0 : Nat), .int .u64 (wd N0 1 : Nat), .int .u64 (wd N0 2 : Nat), .int .u64 (wd N0 3 : Nat)] 24)) ga 24 #[.int .u64 (wd a 0 : Nat), .int .u64 (wd a 1 : Nat), .int .u64 (wd a 2 : Nat), .int .u64 (wd a 3 : Nat)] := (Fa.out.alloc _).alloc _
  have Nt : At ((v18.alloc (.cells #[.int .u64 (wd y 0 : Nat), .int .u64 (wd y 1 : Nat), .int .u64 (wd y 2 : Nat), .int .u64 (wd y 3 : Nat)] 24)).alloc (.cells #[.int .u64 (wd N0 0 : Nat), .int .u64 (wd N0 1 : Nat), .int .u64 (wd N0 2 : Nat), .int .u64 (wd N0 3 : Nat)] 24)) gt 24 #[.int .u64 (wd t 0 : Nat), .int .u64 (wd t 1 : Nat), .int .u64 (wd t 2 : Nat), .int .u64 (wd t 3 : Nat)] := (Ft.out.alloc _).alloc _
  have NB : Below w.heap.size w ((v18.alloc (.cells #[.int .u64 (wd y 0 : Nat), .int .u64 (wd y 1 : Nat), .int .u64 (wd y 2 : Nat), .int .u64 (wd y 3 : Nat)] 24)).alloc (.cells #[.int .u64 (wd N0 0 : Nat), .int .u64 (wd N0 1 : Nat), .int .u64 (wd N0 2 : Nat), .int .u64 (wd N0 3 : Nat)] 24)) := gr_alloc (gr_alloc BW.out _) _
  clear BW Fx Fm Fhi Fa Ft
  generalize ((v18.alloc (.cells #[.int .u64 (wd y 0 : Nat), .int .u64 (wd y 1 : Nat), .int .u64 (wd y 2 : Nat), .int .u64 (wd y 3 : Nat)] 24)).alloc (.cells #[.int .u64 (wd N0 0 : Nat), .int .u64 (wd N0 1 : Nat), .int .u64 (wd N0 2 : Nat), .int .u64 (wd N0 3 : Nat)] 24)) = W19 at *
  generalize v18.heap.size + 1 = gbe at *
  generalize v18.heap.size = gy at *
  have Fx := Lib.hid Nx
  have Fm := Lib.hid Nm
  have Fhi := Lib.hid Nhi
  have Fa := Lib.hid Na
  have Ft := Lib.hid Nt
  have Fy := Lib.hid Ny
  have Fbe := Lib.hid Nbe
  have BW := Lib.hid NB
  clear NB Nx Nm Nhi Na Nt Ny Nbe
  refine (HA.out _).mono ?_
  rintro e v20 ⟨rfl, z20⟩
  have Nx := Lib.hid (Fx.out.on z20)
  have Nm := Lib.hid (Fm.out.on z20)
  have Nhi := Lib.hid (Fhi.out.on z20)
  have Na := Lib.hid (Fa.out.on z20)
  have Nt := Lib.hid (Ft.out.on z20)
  have Ny := Lib.hid (Fy.out.on z20)
  have Nbe := Lib.hid (Fbe.out.on z20)
  have NB := Lib.hid (bel_tr BW.out z20)
  clear BW z20 Fx Fm Fhi Fa Ft Fy Fbe
  have Fx := Nx
  have Fm := Nm
  have Fhi := Nhi
  have Fa := Na
  have Ft := Nt
  have Fy := Ny
  have Fbe := Nbe
  have BW := NB
  clear NB Nx Nm Nhi Na Nt Ny Nbe
  have Ly := Fy.out.lt
  have cy0 : v20.cell? ⟨gy, 0, none⟩ = some (.int .u64 (wd y 0 : Nat)) := Fy.out.cell 0
  have cy1 : v20.cell? ⟨gy, 1, none⟩ = some (.int .u64 (wd y 1 : Nat)) := Fy.out.cell 1
  have cy2 : v20.cell? ⟨gy, 2, none⟩ = some (.int .u64 (wd y 2 : Nat)) := Fy.out.cell 2
  have cy3 : v20.cell? ⟨gy, 3, none⟩ = some (.int .u64 (wd y 3 : Nat)) := Fy.out.cell 3
  have fy0 : v20.frozen? ⟨gy, 0, none⟩ = false := Fy.out.frozen 0
  have fy1 : v20.frozen? ⟨gy, 1, none⟩ = false := Fy.out.frozen 1
  have fy2 : v20.frozen? ⟨gy, 2, none⟩ = false := Fy.out.frozen 2
  have fy3 : v20.frozen? ⟨gy, 3, none⟩ = false := Fy.out.frozen 3
  go_wp2_with fail
  clear Ly cy0 cy1 cy2 cy3 fy0 fy1 fy2 fy3
  have Nx_0 : At ((((v20.setCell ⟨gy, 0, none⟩ (.int .u64 (wd x 0 : Nat))).setCell ⟨gy, 1, none⟩ (.int .u64 (wd x 1 : Nat))).setCell ⟨gy, 2, none⟩ (.int .u64 (wd x 2 : Nat))).setCell ⟨gy, 3, none⟩ (.int .u64 (wd x 3 : Nat))) gx 24 #[.int .u64 (wd x 0 : Nat), .int .u64 (wd x 1 : Nat), .int .u64 (wd x 2 : Nat), .int .u64 (wd x 3 : Nat)] := (Fx.out).far4 Dxy _ _ _ _
  have Nm_0 : At ((((v20.setCell ⟨gy, 0, none⟩ (.int .u64 (wd x 0 : Nat))).setCell ⟨gy, 1, none⟩ (.int .u64 (wd x 1 : Nat))).setCell ⟨gy, 2, none⟩ (.int .u64 (wd x 2 : Nat))).setCell ⟨gy, 3, none⟩ (.int .u64 (wd x 3 : Nat))) gm 24 #[.int .u64 (wd i 0 : Nat), .int .u64 (wd i 1 : Nat), .int .u64 (wd i 2 : Nat), .int .u64 (wd i 3 : Nat)] := (Fm.out).far4 Dmy _ _ _ _
  have Nhi_0 : At ((((v20.setCell ⟨gy, 0, none⟩ (.int .u64 (wd x 0 : Nat))).setCell ⟨gy, 1, none⟩ (.int .u64 (wd x 1 : Nat))).setCell ⟨gy, 2, none⟩ (.int .u64 (wd x 2 : Nat))).setCell ⟨gy, 3, none⟩ (.int .u64 (wd x 3 : Nat))) ghi 24 #[.int .u64 (wd N0 0 : Nat), .int .u64 (wd N0 1 : Nat), .int .u64 (wd N0 2 : Nat), .int .u64 (wd N0 3 : Nat)] := (Fhi.out).far4 Dhiy _ _ _ _
  have Na_0 : At ((((v20.setCell ⟨gy, 0, none⟩ (.int .u64 (wd x 0 : Nat))).setCell ⟨gy, 1, none⟩ (.int .u64 (wd x 1 : Nat))).setCell ⟨gy, 2, none⟩ (.int .u64 (wd x 2 : Nat))).setCell ⟨gy, 3, none⟩ (.int .u64 (wd x 3 : Nat))) ga 24 #[.int .u64 (wd a 0 : Nat), .int .u64 (wd a 1 : Nat), .int .u64 (wd a 2 : Nat), .int .u64 (wd a 3 : Nat)] := (Fa.out).far4 Day _ _ _ _
  have Nt_0 : At ((((v20.setCell ⟨gy, 0, none⟩ (.int .u64 (wd x 0 : Nat))).setCell ⟨gy, 1, none⟩ (.int .u64 (wd x 1 : Nat))).setCell ⟨gy, 2, none⟩ (.int .u64 (wd x 2 : Nat))).setCell ⟨gy, 3, none⟩ (.int .u64 (wd x 3 : Nat))) gt 24 #[.int .u64 (wd t 0 : Nat), .int .u64 (wd t 1 : Nat), .int .u64 (wd t 2 : Nat), .int .u64 (wd t 3 : Nat)] := (Ft.out).far4 Dty _ _ _ _
  have Ny_0 : At ((((v20.setCell ⟨gy, 0, none⟩ (.int .u64 (wd x 0 : Nat))).setCell ⟨gy, 1, none⟩ (.int .u64 (wd x 1 : Nat))).setCell ⟨gy, 2, none⟩ (.int .u64 (wd x 2 : Nat))).setCell ⟨gy, 3, none⟩ (.int .u64 (wd x 3 : Nat))) gy 24 #[.int .u64 (wd x 0 : Nat), .int .u64 (wd x 1 : Nat), .int .u64 (wd x 2 : Nat), .int .u64 (wd x 3 : Nat)] := (Fy.out).put4 _ _ _ _
  have Nbe_0 : At ((((v20.setCell ⟨gy, 0, none⟩ (.int .u64 (wd x 0 : Nat))).setCell ⟨gy, 1, none⟩ (.int .u64 (wd x 1 : Nat))).setCell ⟨gy, 2, none⟩ (.int .u64 (wd x 2 : Nat))).setCell ⟨gy, 3, none⟩ (.int .u64 (wd x 3 : Nat))) gbe 24 #[.int .u64 (wd N0 0 : Nat), .int .u64 (wd N0 1 : Nat), .int .u64 (wd N0 2 : Nat), .int .u64 (wd N0 3 : Nat)] := (Fbe.out).far4 Dybe.symm _ _ _ _
  have NB_0 : Below w.heap.size w ((((v20.setCell ⟨gy, 0, none⟩ (.int .u64 (wd x 0 : Nat))).setCell ⟨gy, 1, none⟩ (.int .u64 (wd x 1 : Nat))).setCell ⟨gy, 2, none⟩ (.int .u64 (wd x 2 : Nat))).setCell ⟨gy, 3, none⟩ (.int .u64 (wd x 3 : Nat))) := ((((BW.out).setCell Ey _).setCell Ey _).setCell Ey _).setCell Ey _
  have Nx := Nx_0
  have Nm := Nm_0
  have Nhi := Nhi_0
  have Na := Na_0
  have Nt := Nt_0
  have Ny := Ny_0
  have Nbe := Nbe_0
  have NB := NB_0
  clear BW Fx Fm Fhi Fa Ft Fy Fbe Nx_0 Nm_0 Nhi_0 Na_0 Nt_0 Ny_0 Nbe_0 NB_0
  generalize ((((v20.setCell ⟨gy, 0, none⟩ (.int .u64 (wd x 0 : Nat))).setCell ⟨gy, 1, none⟩ (.int .u64 (wd x 1 : Nat))).setCell ⟨gy, 2, none⟩ (.int .u64 (wd x 2 : Nat))).setCell ⟨gy, 3, none⟩ (.int .u64 (wd x 3 : Nat))) = W21 at *
  have Fx := Lib.hid Nx
  have Fm := Lib.hid Nm
  have Fhi := Lib.hid Nhi
  have Fa := Lib.hid Na
  have Ft := Lib.hid Nt
  have Fy := Lib.hid Ny
  have Fbe := Lib.hid Nbe
  have BW := Lib.hid NB
  clear NB Nx Nm Nhi Na Nt Ny Nbe
  clear Fa
  clear Ft
  clear Fm
  try simp only [List.append_eq, List.cons_append, List.nil_append]
  refine wp_region_noPanic ?_
  refine wp_region_held_drew (S := fun w' => At w' ghi 24 #[.int .u64 (wd N0 0 : Nat), .int .u64 (wd N0 1 : Nat), .int .u64 (wd N0 2 : Nat), .int .u64 (wd N0 3 : Nat)] ∧ At w' gbe 24 #[.int .u64 (wd N0 0 : Nat), .int .u64 (wd N0 1 : Nat), .int .u64 (wd N0 2 : Nat), .int .u64 (wd N0 3 : Nat)] ∧ At w' gy 24 #[.int .u64 (wd x 0 : Nat), .int .u64 (wd x 1 : Nat), .int .u64 (wd x 2 : Nat), .int .u64 (wd x 3 : Nat)] ∧ At w' gx 24 #[.int .u64 (wd x 0 : Nat), .int .u64 (wd x 1 : Nat), .int .u64 (wd x 2 : Nat), .int .u64 (wd x 3 : Nat)]) (by kernel_rfl) (⟨Fhi.out.drew, Fbe.out.drew, Fy.out.drew, Fx.out.drew⟩) (fun _ => ?_)
  refine wpAnyH_cores (fuel := 1) (⟨0, 91, [], Kind.val (.bool true), false⟩ :: ⟨1, 92, [0], Kind.val (.bool true), true⟩ :: ⟨2, 93, [1], Kind.val (.agg #[.int .u64 (wd N0 0 : Nat), .int .u64 (wd N0 1 : Nat), .int .u64 (wd N0 2 : Nat), .int .u64 (wd N0 3 : Nat)]), true⟩ :: ⟨3, 94, [1, 2], Kind.val (.agg #[.int .u64 (wd N0 0 : Nat), .int .u64 (wd N0 1 : Nat), .int .u64 (wd N0 2 : Nat), .int .u64 (wd N0 3 : Nat)]), false⟩ :: ⟨4, 95, [1, 2, 3], Kind.val (.bool true), true⟩ :: ⟨5, 96, [1, 4], Kind.val (.bool true), true⟩ :: ⟨6, 97, [5], Kind.val (.bool true), true⟩ :: ⟨7, 98, [6], Kind.val (.int .i64 0), true⟩ :: ⟨8, 99, [6, 7], Kind.val (.bool true), true⟩ :: ⟨9, 100, [6, 8], Kind.val (.bool true), true⟩ :: ⟨10, 101, [9], Kind.val (.bool true), true⟩ :: ⟨11, 102, [10], Kind.val (.int .i64 0), true⟩ :: ⟨12, 103, [10, 11], Kind.val (.bool true), true⟩ :: ⟨13, 104, [10, 12], Kind.val (.bool true), true⟩ :: ⟨14, 105, [13], Kind.val (.bool true), true⟩ :: ⟨15, 106, [14], Kind.val (.int .i64 0), true⟩ :: ⟨16, 107, [14, 15], Kind.val (.bool true), true⟩ :: ⟨17, 108, [14, 16], Kind.val (.bool true), true⟩ :: ⟨18, 109, [17], Kind.val (.bool true), true⟩ :: ⟨19, 110, [18], Kind.val (.agg #[.int .u64 (wd N0 0 : Nat), .int .u64 (wd N0 1 : Nat), .int .u64 (wd N0 2 : Nat), .int .u64 (wd N0 3 : Nat)]), true⟩ :: ⟨20, 111, [18, 19], Kind.val (.agg #[.int .u64 (wd N0 0 : Nat), .int .u64 (wd N0 1 : Nat), .int .u64 (wd N0 2 : Nat), .int .u64 (wd N0 3 : Nat)]), false⟩ :: ⟨21, 112, [18, 19, 20], Kind.val (.bool true), true⟩ :: ⟨22, 113, [18, 21], Kind.val (.bool true), true⟩ :: ⟨23, 114, [22], Kind.val (.bool true), true⟩ :: ⟨24, 115, [23], Kind.val (.int .u64 0), true⟩ :: ⟨25, 116, [23, 24], Kind.val (.bool true), true⟩ :: ⟨26, 117, [23, 25], Kind.val (.bool true), true⟩ :: ⟨27, 118, [26], Kind.val (.bool true), true⟩ :: ⟨28, 119, [27], Kind.val (.agg #[.int .u64 (wd x 0 : Nat), .int .u64 (wd x 1 : Nat), .int .u64 (wd x 2 : Nat), .int .u64 (wd x 3 : Nat)]), true⟩ :: ⟨29, 120, [27, 28], Kind.val (.agg #[.int .u64 (wd x 0 : Nat), .int .u64 (wd x 1 : Nat), .int .u64 (wd x 2 : Nat), .int .u64 (wd x 3 : Nat)]), true⟩ :: ⟨30, 121, [27, 28, 29], Kind.val (.bool true), true⟩ :: ⟨31, 122, [27, 30], Kind.val (.bool true), true⟩ :: []) _ _ W21 _ ?_ ?_ ?_ ?_ ?_ ?_ ?_ ?_ ?_ ?_ ?_
  · rfl
  · kernel_rfl
  · exact of_decide_eq_true (by kernel_rfl)
  · exact all_cons ⟨_, by rfl, by rfl⟩ (all_cons ⟨_, by rfl, by rfl⟩ (all_cons ⟨_, by rfl, by rfl⟩ (all_cons ⟨_, by rfl, by rfl⟩ (all_cons ⟨_, by rfl, by rfl⟩ (all_cons ⟨_, by rfl, by rfl⟩ (all_cons ⟨_, by rfl, by rfl⟩ (all_cons ⟨_, by rfl, by rfl⟩ (all_cons ⟨_, by rfl, by rfl⟩ (all_cons ⟨_, by rfl, by rfl⟩ (all_cons ⟨_, by rfl, by rfl⟩ (all_cons ⟨_, by rfl, by rfl⟩ (all_cons ⟨_, by rfl, by rfl⟩ (all_cons ⟨_, by rfl, by rfl⟩ (all_cons ⟨_, by rfl, by rfl⟩ (all_cons ⟨_, by rfl, by rfl⟩ (all_cons ⟨_, by rfl, by rfl⟩ (all_cons ⟨_, by rfl, by rfl⟩ (all_cons ⟨_, by rfl, by rfl⟩ (all_cons ⟨_, by rfl, by rfl⟩ (all_cons ⟨_, by rfl, by rfl⟩ (all_cons ⟨_, by rfl, by rfl⟩ (all_cons ⟨_, by rfl, by rfl⟩ (all_cons ⟨_, by rfl, by rfl⟩ (all_cons ⟨_, by rfl, by rfl⟩ (all_cons ⟨_, by rfl, by rfl⟩ (all_cons ⟨_, by rfl, by rfl⟩ (all_cons ⟨_, by rfl, by rfl⟩ (all_cons ⟨_, by rfl, by rfl⟩ (all_cons ⟨_, by rfl, by rfl⟩ (all_cons ⟨_, by rfl, by rfl⟩ (all_cons ⟨_, by rfl, by rfl⟩ (all_nil))))))))))))))))))))))))))))))))
  · exact fun _ hb => ⟨Fhi.out.on hb, Fbe.out.on hb, Fy.out.on hb, Fx.out.on hb⟩
  · exact (Below.refl _ _).drew
  · kernel_rfl
  · exact fun _ _ _ _ _ h => h
  · refine all_cons ?_ (all_cons ?_ (all_cons ?_ (all_cons ?_ (all_cons ?_ (all_cons ?_ (all_cons ?_ (all_cons ?_ (all_cons ?_ (all_cons ?_ (all_cons ?_ (all_cons ?_ (all_cons ?_ (all_cons ?_ (all_cons ?_ (all_cons ?_ (all_cons ?_ (all_cons ?_ (all_cons ?_ (all_cons ?_ (all_cons ?_ (all_cons ?_ (all_cons ?_ (all_cons ?_ (all_cons ?_ (all_cons ?_ (all_cons ?_ (all_cons ?_ (all_cons ?_ (all_cons ?_ (all_cons ?_ (all_cons ?_ (all_nil))))))))))))))))))))))))))))))))
    · exact core_pureAs _ (by rfl)
    · exact coreG_move _ _ _ _ _ _ _ (by rfl) (by rfl) (wants_none) (known_core 0 91 _ _ (of_decide_eq_true (by rfl)) (by rfl) (by rfl) (by rfl))
    · exact coreG_loadP _ _ _ _ _ _ ghi _ _ _ _ (by rfl) (by rfl) (wants_core 1 92 1 _ _ _ (by rfl) (by rfl) (by rfl) (known_core 1 92 _ _ (of_decide_eq_true (by rfl)) (by rfl) (by rfl) (by rfl)) _ (by rfl)) (known_old 8 _ (of_decide_eq_true (by rfl)) (by rfl)) (fun _ hs => hs.1)
    · exact core_pureAs _ (by rfl)
    · exact coreG_bin _ _ _ _ _ _ _ _ _ _ _ _ _ (by rfl) (by rfl) (wants_core 1 92 1 _ _ _ (by rfl) (by rfl) (by rfl) (known_core 1 92 _ _ (of_decide_eq_true (by rfl)) (by rfl) (by rfl) (by rfl)) _ (by rfl)) (known_core 2 93 _ _ (of_decide_eq_true (by rfl)) (by rfl) (by rfl) (by rfl)) (known_core 3 94 _ _ (of_decide_eq_true (by rfl)) (by rfl) (by rfl) (by rfl)) (eql_run true _ _ _ _ _ _ _ _ _ _ _ _ _ _ _ (eqY N0))
    · exact coreG_pick _ _ _ _ _ _ _ _ _ _ _ _ (by rfl) (by rfl) (wants_none) (known_core 1 92 _ _ (of_decide_eq_true (by rfl)) (by rfl) (by rfl) (by rfl)) (known_core 4 95 _ _ (of_decide_eq_true (by rfl)) (by rfl) (by rfl) (by rfl)) (known_const _) (by rfl)
    · exact coreG_move _ _ _ _ _ _ _ (by rfl) (by rfl) (wants_none) (known_core 5 96 _ _ (of_decide_eq_true (by rfl)) (by rfl) (by rfl) (by rfl))
    · exact coreG_move _ _ _ _ _ _ _ (by rfl) (by rfl) (wants_core 6 97 6 _ _ _ (by rfl) (by rfl) (by rfl) (known_core 6 97 _ _ (of_decide_eq_true (by rfl)) (by rfl) (by rfl) (by rfl)) _ (by rfl)) (known_old 11 _ (of_decide_eq_true (by rfl)) (by rfl))
    · exact coreG_bin _ _ _ _ _ _ _ _ _ _ _ _ _ (by rfl) (by rfl) (wants_core 6 97 6 _ _ _ (by rfl) (by rfl) (by rfl) (known_core 6 97 _ _ (of_decide_eq_true (by rfl)) (by rfl) (by rfl) (by rfl)) _ (by rfl)) (known_core 7 98 _ _ (of_decide_eq_true (by rfl)) (by rfl) (by rfl) (by rfl)) (known_const _) ((fun ρ w hx hy => by simp only [execOp, hx, hy]; simp [go_sem]))
    · exact coreG_pick _ _ _ _ _ _ _ _ _ _ _ _ (by rfl) (by rfl) (wants_none) (known_core 6 97 _ _ (of_decide_eq_true (by rfl)) (by rfl) (by rfl) (by rfl)) (known_core 8 99 _ _ (of_decide_eq_true (by rfl)) (by rfl) (by rfl) (by rfl)) (known_const _) (by rfl)
    · exact coreG_move _ _ _ _ _ _ _ (by rfl) (by rfl) (wants_none) (known_core 9 100 _ _ (of_decide_eq_true (by rfl)) (by rfl) (by rfl) (by rfl))
    · exact coreG_move _ _ _ _ _ _ _ (by rfl) (by rfl) (wants_core 10 101 10 _ _ _ (by rfl) (by rfl) (by rfl) (known_core 10 101 _ _ (of_decide_eq_true (by rfl)) (by rfl) (by rfl) (by rfl)) _ (by rfl)) (known_old 13 _ (of_decide_eq_true (by rfl)) (by rfl))
    · exact coreG_bin _ _ _ _ _ _ _ _ _ _ _ _ _ (by rfl) (by rfl) (wants_core 10 101 10 _ _ _ (by rfl) (by rfl) (by rfl) (known_core 10 101 _ _ (of_decide_eq_true (by rfl)) (by rfl) (by rfl) (by rfl)) _ (by rfl)) (known_core 11 102 _ _ (of_decide_eq_true (by rfl)) (by rfl) (by rfl) (by rfl)) (known_const _) ((fun ρ w hx hy => by simp only [execOp, hx, hy]; simp [go_sem]))
    · exact coreG_pick _ _ _ _ _ _ _ _ _ _ _ _ (by rfl) (by rfl) (wants_none) (known_core 10 101 _ _ (of_decide_eq_true (by rfl)) (by rfl) (by rfl) (by rfl)) (known_core 12 103 _ _ (of_decide_eq_true (by rfl)) (by rfl) (by rfl) (by rfl)) (known_const _) (by rfl)
    · exact coreG_move _ _ _ _ _ _ _ (by rfl) (by rfl) (wants_none) (known_core 13 104 _ _ (of_decide_eq_true (by rfl)) (by rfl) (by rfl) (by rfl))
    · exact coreG_move _ _ _ _ _ _ _ (by rfl) (by rfl) (wants_core 14 105 14 _ _ _ (by rfl) (by rfl) (by rfl) (known_core 14 105 _ _ (of_decide_eq_true (by rfl)) (by rfl) (by rfl) (by rfl)) _ (by rfl)) (known_old 15 _ (of_decide_eq_true (by rfl)) (by rfl))
    · exact coreG_bin _ _ _ _ _ _ _ _ _ _ _ _ _ (by rfl) (by rfl) (wants_core 14 105 14 _ _ _ (by rfl) (by rfl) (by rfl) (known_core 14 105 _ _ (of_decide_eq_true (by rfl)) (by rfl) (by rfl) (by rfl)) _ (by rfl)) (known_core 15 106 _ _ (of_decide_eq_true (by rfl)) (by rfl) (by rfl) (by rfl)) (known_const _) ((fun ρ w hx hy => by simp only [execOp, hx, hy]; simp [go_sem]))
    · exact coreG_pick _ _ _ _ _ _ _ _ _ _ _ _ (by rfl) (by rfl) (wants_none) (known_core 14 105 _ _ (of_decide_eq_true (by rfl)) (by rfl) (by rfl) (by rfl)) (known_core 16 107 _ _ (of_decide_eq_true (by rfl)) (by rfl) (by rfl) (by rfl)) (known_const _) (by rfl)
    · exact coreG_move _ _ _ _ _ _ _ (by rfl) (by rfl) (wants_none) (known_core 17 108 _ _ (of_decide_eq_true (by rfl)) (by rfl) (by rfl) (by rfl))
    · exact coreG_loadP _ _ _ _ _ _ gbe _ _ _ _ (by rfl) (by rfl) (wants_core 18 109 18 _ _ _ (by rfl) (by rfl) (by rfl) (known_core 18 109 _ _ (of_decide_eq_true (by rfl)) (by rfl) (by rfl) (by rfl)) _ (by rfl)) (known_old 17 _ (of_decide_eq_true (by rfl)) (by rfl)) (fun _ hs => hs.2.1)
    · exact core_pureAs _ (by rfl)
    · exact coreG_bin _ _ _ _ _ _ _ _ _ _ _ _ _ (by rfl) (by rfl) (wants_core 18 109 18 _ _ _ (by rfl) (by rfl) (by rfl) (known_core 18 109 _ _ (of_decide_eq_true (by rfl)) (by rfl) (by rfl) (by rfl)) _ (by rfl)) (known_core 19 110 _ _ (of_decide_eq_true (by rfl)) (by rfl) (by rfl) (by rfl)) (known_core 20 111 _ _ (of_decide_eq_true (by rfl)) (by rfl) (by rfl) (by rfl)) (eql_run true _ _ _ _ _ _ _ _ _ _ _ _ _ _ _ (eqY N0))
    · exact coreG_pick _ _ _ _ _ _ _ _ _ _ _ _ (by rfl) (by rfl) (wants_none) (known_core 18 109 _ _ (of_decide_eq_true (by rfl)) (by rfl) (by rfl) (by rfl)) (known_core 21 112 _ _ (of_decide_eq_true (by rfl)) (by rfl) (by rfl) (by rfl)) (known_const _) (by rfl)
    · exact coreG_move _ _ _ _ _ _ _ (by rfl) (by rfl) (wants_none) (known_core 22 113 _ _ (of_decide_eq_true (by rfl)) (by rfl) (by rfl) (by rfl))
    · exact coreG_move _ _ _ _ _ _ _ (by rfl) (by rfl) (wants_core 23 114 23 _ _ _ (by rfl) (by rfl) (by rfl) (known_core 23 114 _ _ (of_decide_eq_true (by rfl)) (by rfl) (by rfl) (by rfl)) _ (by rfl)) (known_old 18 _ (of_decide_eq_true (by rfl)) (by rfl))
    · exact coreG_bin _ _ _ _ _ _ _ _ _ _ _ _ _ (by rfl) (by rfl) (wants_core 23 114 23 _ _ _ (by rfl) (by rfl) (by rfl) (known_core 23 114 _ _ (of_decide_eq_true (by rfl)) (by rfl) (by rfl) (by rfl)) _ (by rfl)) (known_core 24 115 _ _ (of_decide_eq_true (by rfl)) (by rfl) (by rfl) (by rfl)) (known_const _) ((fun ρ w hx hy => by simp only [execOp, hx, hy]; simp [go_sem]))
    · exact coreG_pick _ _ _ _ _ _ _ _ _ _ _ _ (by rfl) (by rfl) (wants_none) (known_core 23 114 _ _ (of_decide_eq_true (by rfl)) (by rfl) (by rfl) (by rfl)) (known_core 25 116 _ _ (of_decide_eq_true (by rfl)) (by rfl) (by rfl) (by rfl)) (known_const _) (by rfl)
    · exact coreG_move _ _ _ _ _ _ _ (by rfl) (by rfl) (wants_none) (known_core 26 117 _ _ (of_decide_eq_true (by rfl)) (by rfl) (by rfl) (by rfl))
    · exact coreG_loadP _ _ _ _ _ _ gy _ _ _ _ (by rfl) (by rfl) (wants_core 27 118 27 _ _ _ (by rfl) (by rfl) (by rfl) (known_core 27 118 _ _ (of_decide_eq_true (by rfl)) (by rfl) (by rfl) (by rfl)) _ (by rfl)) (known_old 16 _ (of_decide_eq_true (by rfl)) (by rfl)) (fun _ hs => hs.2.2.1)
    · exact coreG_loadP _ _ _ _ _ _ gx _ _ _ _ (by rfl) (by rfl) (wants_core 27 118 27 _ _ _ (by rfl) (by rfl) (by rfl) (known_core 27 118 _ _ (of_decide_eq_true (by rfl)) (by rfl) (by rfl) (by rfl)) _ (by rfl)) (known_old 3 _ (of_decide_eq_true (by rfl)) (by rfl)) (fun _ hs => hs.2.2.2)
    · exact coreG_bin _ _ _ _ _ _ _ _ _ _ _ _ _ (by rfl) (by rfl) (wants_core 27 118 27 _ _ _ (by rfl) (by rfl) (by rfl) (known_core 27 118 _ _ (of_decide_eq_true (by rfl)) (by rfl) (by rfl) (by rfl)) _ (by rfl)) (known_core 28 119 _ _ (of_decide_eq_true (by rfl)) (by rfl) (by rfl) (by rfl)) (known_core 29 120 _ _ (of_decide_eq_true (by rfl)) (by rfl) (by rfl) (by rfl)) (eql_run true _ _ _ _ _ _ _ _ _ _ _ _ _ _ _ (eqY x))
    · exact coreG_pick _ _ _ _ _ _ _ _ _ _ _ _ (by rfl) (by rfl) (wants_none) (known_core 27 118 _ _ (of_decide_eq_true (by rfl)) (by rfl) (by rfl) (by rfl)) (known_core 30 121 _ _ (of_decide_eq_true (by rfl)) (by rfl) (by rfl) (by rfl)) (known_const _) (by rfl)
  · refine all_cons ?_ (all_cons ?_ (all_cons ?_ (all_cons ?_ (all_cons ?_ (all_cons ?_ (all_cons ?_ (all_cons ?_ (all_cons ?_ (all_cons ?_ (all_cons ?_ (all_cons ?_ (all_cons ?_ (all_cons ?_ (all_cons ?_ (all_cons ?_ (all_cons ?_ (all_cons ?_ (all_cons ?_ (all_cons ?_ (all_cons ?_ (all_cons ?_ (all_cons ?_ (all_cons ?_ (all_cons ?_ (all_cons ?_ (all_cons ?_ (all_cons ?_ (all_cons ?_ (all_cons ?_ (all_cons ?_ (all_cons ?_ (all_nil))))))))))))))))))))))))))))))))
    · exact fun _ => coreG_call _ 29 _ _ [] _ _ _ _ _ _ _ (by rfl) Try.func29 (by kernel_rfl) (by rfl) (by rfl) (wants_none) .nil (alive4_any)
    · exact core_stepAs _ (by rfl)
    · exact core_stepAs _ (by rfl)
    · exact fun _ => coreG_call _ 28 _ _ [.const (.int .u64 0)] _ _ _ _ _ _ _ (by rfl) Try.func28 (by kernel_rfl) (by rfl) (by rfl) (wants_core 1 92 1 _ _ _ (by rfl) (by rfl) (by rfl) (known_core 1 92 _ _ (of_decide_eq_true (by rfl)) (by rfl) (by rfl) (by rfl)) _ (by rfl)) (.cons (known_const _) .nil) (HN.out)
    · exact core_stepAs _ (by rfl)
    · exact core_stepAs _ (by rfl)
    · exact core_stepAs _ (by rfl)
    · exact core_stepAs _ (by rfl)
    · exact core_stepAs _ (by rfl)
    · exact core_stepAs _ (by rfl)
    · exact core_stepAs _ (by rfl)
    · exact core_stepAs _ (by rfl)
    · exact core_stepAs _ (by rfl)
    · exact core_stepAs _ (by rfl)
    · exact core_stepAs _ (by rfl)
    · exact core_stepAs _ (by rfl)
    · exact core_stepAs _ (by rfl)
    · exact core_stepAs _ (by rfl)
    · exact core_stepAs _ (by rfl)
    · exact core_stepAs _ (by rfl)
    · exact fun _ => coreG_call _ 28 _ _ [.const (.int .u64 0)] _ _ _ _ _ _ _ (by rfl) Try.func28 (by kernel_rfl) (by rfl) (by rfl) (wants_core 18 109 18 _ _ _ (by rfl) (by rfl) (by rfl) (known_core 18 109 _ _ (of_decide_eq_true (by rfl)) (by rfl) (by rfl) (by rfl)) _ (by rfl)) (.cons (known_const _) .nil) (HN.out)
    · exact core_stepAs _ (by rfl)
    · exact core_stepAs _ (by rfl)
    · exact core_stepAs _ (by rfl)
    · exact core_stepAs _ (by rfl)
    · exact core_stepAs _ (by rfl)
    · exact core_stepAs _ (by rfl)
    · exact core_stepAs _ (by rfl)
    · exact core_stepAs _ (by rfl)
    · exact core_stepAs _ (by rfl)
    · exact core_stepAs _ (by rfl)
    · exact core_stepAs _ (by rfl)
  intro vs y22 hc
  have BZ := bel_tr BW.out hc.bel
  refine assign_one (i := 32) (.tmp 122) 4 _ _ _ (.bool true) (by kernel_rfl) (by rfl) (hc.at_ (of_decide_eq_true (by kernel_rfl)) (by rfl) 31 122 _ (.bool true) (by rfl) (by rfl) (by rfl)) (⟨Fhi.out.on hc.bel, Fbe.out.on hc.bel, Fy.out.on hc.bel, Fx.out.on hc.bel⟩) ?_
  refine wpAnyH_done (by kernel_rfl) ?_ _
  refine NoPanic.normal ?_
  generalize hA : Act.put (over _ _ vs) (some 4) (.bool true) = A
  have hA0 : A.tmps.getD 4 undef = .bool true := by rw [← hA]; exact put_at _ _ _ (by rw [over_size]; exact Nat.le_of_ble_eq_true rfl)
  have hAd : A.defers = [] := by rw [← hA, put_defers, over_defers]
  clear hA hc
  go_wp2_with fail
  refine bodyPost_ret (v := .bool true) (by simp [results, Try.results10, go_sem] at hA0 ⊢; simp [hA0]) hAd ⟨rfl, BZ⟩

/-- the sentence of the Chinese -/
theorem chinese (i j x a mj b xj aj d t : Nat) (hj : 0 < j) (hx : x < i * j) (ea : a = x % i) (em : mj = i % j) (hb : mj * b % j = 1) (ex : xj = x % j) (eaj : aj = a % j) (ed : d = (xj + j - aj) % j) (et : t = d * b % j) : i * t + a = x := by
  obtain ⟨q, hq⟩ := mod_ex x i
  rw [← ea] at hq
  have hi : 0 < i := by rcases Nat.eq_zero_or_pos i with h | h; · rw [h] at hx; omega
                        · exact h
  have hqj : q < j := by
    apply Decidable.byContradiction; intro hc
    have : i * j ≤ i * q := Nat.mul_le_mul_left _ (by omega)
    omega
  have htj : t < j := by rw [et]; exact Nat.mod_lt _ hj
  have haj : aj < j := by rw [eaj]; exact Nat.mod_lt _ hj
  have htq : t = q := by
    refine eq_of_dvd j t q htj hqj ?_
    obtain ⟨k1, h1⟩ := mod_ex (d * b) j
    obtain ⟨k2, h2⟩ := mod_ex (xj + j - aj) j
    obtain ⟨k3, h3⟩ := mod_ex x j
    obtain ⟨k4, h4⟩ := mod_ex a j
    obtain ⟨k5, h5⟩ := mod_ex i j
    obtain ⟨k6, h6⟩ := mod_ex (mj * b) j
    rw [← et] at h1; rw [← ed] at h2; rw [← ex] at h3; rw [← eaj] at h4; rw [← em] at h5; rw [hb] at h6
    have h2' : xj + j = j * k2 + d + aj := by omega
    have c1 := cst h1; have c2 := cst h2'; have c3 := cst h3; have c4 := cst h4; have c5 := cst h5; have c6 := cst h6; have c7 := cst hq
    simp only [Int.natCast_add, Int.natCast_mul] at c1 c2 c3 c4 c5 c6 c7
    clear h1 h2 h2' h3 h4 h5 h6 hq ea em hb ex eaj ed et htj hqj hx hj hi haj
    generalize (i : Int) = i' at *
    generalize (j : Int) = j' at *
    generalize (x : Int) = x' at *
    generalize (a : Int) = a' at *
    generalize (mj : Int) = m' at *
    generalize (b : Int) = b' at *
    generalize (xj : Int) = xj' at *
    generalize (aj : Int) = aj' at *
    generalize (d : Int) = d' at *
    generalize (t : Int) = t' at *
    generalize (q : Int) = q' at *
    generalize (k1 : Int) = k1' at *
    generalize (k2 : Int) = k2' at *
    generalize (k3 : Int) = k3' at *
    generalize (k4 : Int) = k4' at *
    generalize (k5 : Int) = k5' at *
    generalize (k6 : Int) = k6' at *
    obtain rfl : t' = d' * b' - j' * k1' := by omega
    obtain rfl : d' = xj' + j' - j' * k2' - aj' := by omega
    obtain rfl : xj' = x' - j' * k3' := by omega
    obtain rfl : aj' = a' - j' * k4' := by omega
    obtain rfl : x' = i' * q' + a' := by omega
    obtain rfl : m' = i' - j' * k5' := by omega
    refine ⟨q' * k6' + q' * k5' * b' + (1 - k2' - k3' + k4') * b' - k1', ?_⟩
    have k : ((i' * q' + a' - j' * k3' + j' - j' * k2' - (a' - j' * k4')) * b' - j' * k1' - q') - j' * (q' * k6' + q' * k5' * b' + (1 - k2' - k3' + k4') * b' - k1') = q' * ((i' - j' * k5') * b' - (1 + j' * k6')) := by
      clear c1 c2 c3 c4 c5 c6 c7; grind
    have k0 : (i' - j' * k5') * b' - (1 + j' * k6') = 0 := by omega
    rw [k0, Int.mul_zero] at k
    omega
  rw [htq]; exact hq.symm
theorem two_walk (i j X : Nat) (hi : i < 18446744073709551616) (hj : j < 18446744073709551616) (hX : X < 2 ^ 256) (w : World) : Calls Try.prog 10 #[.agg #[.int .u64 (i : Nat), .int .u64 (j : Nat)], num X] w fun e w' => e = .returned (.bool true) ∧ Below w.heap.size w w' := by
  by_cases h1 : i < 2
  · exact two_i X i j h1 (fun w => ofM_any i hi w) (fun w => ofM_any j hj w) w
  by_cases h2 : j < 2
  · exact two_j X i j (by omega) h2 (fun w => ofM_any i hi w) (fun w => ofM_any j hj w) w
  have CM := common_any i j (by omega) (by omega)
  by_cases hg : Nat.gcd i j = 1
  · rw [hg] at CM
    have lt : ∀ x, x % j < j := fun x => Nat.mod_lt _ (by omega)
    have hp : i * j ≤ 18446744073709551615 * 18446744073709551615 := Nat.mul_le_mul (by omega) (by omega)
    have hp0 : 0 < i * j := Nat.mul_pos (by omega) (by omega)
    have hxl : X % (i * j) < i * j := Nat.mod_lt _ hp0
    have ML : ∀ x y : Nat, x < 18446744073709551616 → y < 18446744073709551616 → ∀ w, Calls Try.prog 31 #[num x, num y] w fun e w' => e = .returned (.tuple #[num (x * y), num 0]) ∧ Below w.heap.size w w' := fun x y hx hy => by
      obtain ⟨L, H, hL, hH, he, C⟩ := mul_ex x y (by omega) (by omega)
      have : x * y ≤ 18446744073709551615 * 18446744073709551615 := Nat.mul_le_mul (by omega) (by omega)
      have h0 : H = 0 := by omega
      subst h0
      rw [show x * y = L by omega]
      exact C
    have hg2 : Nat.gcd (i % j) j = 1 := by rw [← Nat.gcd_rec, Nat.gcd_comm]; exact hg
    obtain ⟨b, hb, hmb⟩ := inv_there (i % j) j (by omega) hg2
    obtain ⟨x, ex⟩ : ∃ x, x = X % (i * j) := ⟨_, rfl⟩
    obtain ⟨t, et⟩ : ∃ t, t = (x % j + j - x % i % j) % j * b % j := ⟨_, rfl⟩
    have htj : t < j := by rw [et]; exact lt _
    have key := chinese i j x (x % i) (i % j) b (x % j) (x % i % j) _ t (by omega) (by rw [ex]; exact hxl) rfl rfl hmb rfl rfl rfl et
    have hxi : x % i < i := Nat.mod_lt _ (by omega)
    have hx256 : x < 2 ^ 256 := by rw [ex]; omega
    obtain ⟨S, c, hS, hc, he, CA⟩ := add_ex (i * t) (x % i) (by have := Nat.mul_le_mul (show i ≤ 18446744073709551615 by omega) (show t ≤ 18446744073709551615 by omega); omega) (by omega)
    have hc0 : c = 0 := by omega
    subst hc0
    have hSx : S = x := by omega
    subst hSx
    have B1 := belowM_any X (i * j) hX (by omega) (by omega)
    rw [← ex] at B1
    have M2 := mmul_yes ((S % j + j - S % i % j) % j) b j (by omega) (by omega) (lt _) hb
    rw [← et] at M2
    exact two_some X i j 1 0 (i * j) S (S % i) (i % j) b (S % j) (S % i % j) _ t (i * t) (by omega) (by omega) (fun w => ofM_any i hi w) (fun w => ofM_any j hj w) (fun w => ofM_any 1 (by decide) w) (fun w => ofM_any 0 (by decide) w) CM (ML i j hi hj) B1
      (belowM_any S i hS (by omega) (by omega)) (belowM_any i j (by omega) (by omega) (by omega)) (minv_yes (i % j) j b (by omega) (by omega) (lt _) hb hmb) (belowM_any S j hS (by omega) (by omega)) (belowM_any (S % i) j (by omega) (by omega) (by omega))
      (msub_yes (S % j) (S % i % j) j (by omega) (by omega) (lt _) (lt _)) M2 (ML i t hi (by omega)) CA w
  · have hg256 : Nat.gcd i j < 2 ^ 256 := Nat.lt_of_le_of_lt (Nat.gcd_le_right _ (by omega)) (by omega)
    exact two_g X i j _ 1 (by omega) (by omega) (fun w => ofM_any i hi w) (fun w => ofM_any j hj w) (fun w => ofM_any 1 (by decide) w) CM (fun w => by rw [eqN _ 1 hg256 (by decide)]; simp [hg]) w
end Go.Proofs.Ytmhmdbjjmmmgkaa
