/-
  The walk of DividesOf: it answers true, and nothing that was there is changed.
-/
import Derived.Test.YtmhmdbjjmmmgkaaRDiv
import Derived.Test.YtmhmdbjjmmmgkaaRWWord
import Derived.Test.YtmhmdbjjmmmgkaaRCommon
import Derived.Test.YtmhmdbjjmmmgkaaEq
namespace Go.Proofs.Ytmhmdbjjmmmgkaa
open Go.RowKit
set_option linter.unusedSimpArgs false
set_option linter.unusedVariables false
attribute [local go_sem ↓] Go.wp_at_zero Go.wp_at_succ

theorem idx3_0 (dst : Option Tmp) (ty : TypeId) (pos : String) (after : Array Edge) (gd : Option (Nat × Bool)) (x : Operand) (ρ : Operand → Value) (w : World) (g : Nat) (hx : ρ x = .pointer (some ⟨g, 0, none⟩)) (hcc : ρ (.const (.int .i64 0)) = .int .i64 0) :
    (execOp ρ ⟨dst, .indexAddr 25 x (.const (.int .i64 0)), ty, pos, after, gd⟩).run Try.prog w = .ok (.value (.pointer (some ⟨g, 0, none⟩))) w := by
  simp [execOp, hx, hcc, go_sem]
theorem load3_0 (dst : Option Tmp) (ty : TypeId) (pos : String) (after : Array Edge) (gd : Option (Nat × Bool)) (x : Operand) (ρ : Operand → Value) (w : World) (g : Nat) (a0 a1 a2 a3 a4 a5 a6 a7 a8 a9 a10 a11 : Value) (hx : ρ x = .pointer (some ⟨g, 0, none⟩)) (h : At w g 25 #[a0, a1, a2, a3, a4, a5, a6, a7, a8, a9, a10, a11]) :
    (execOp ρ ⟨dst, .load 24 x, ty, pos, after, gd⟩).run Try.prog w = .ok (.value (.agg #[a0, a1, a2, a3])) w := by
  have c0 : w.cell? ⟨g, 0, none⟩ = some a0 := h.cell 0
  have c1 : w.cell? ⟨g, 1, none⟩ = some a1 := h.cell 1
  have c2 : w.cell? ⟨g, 2, none⟩ = some a2 := h.cell 2
  have c3 : w.cell? ⟨g, 3, none⟩ = some a3 := h.cell 3
  simp [execOp, hx, go_sem, c0, c1, c2, c3]
theorem idx3_1 (dst : Option Tmp) (ty : TypeId) (pos : String) (after : Array Edge) (gd : Option (Nat × Bool)) (x : Operand) (ρ : Operand → Value) (w : World) (g : Nat) (hx : ρ x = .pointer (some ⟨g, 0, none⟩)) (hcc : ρ (.const (.int .i64 1)) = .int .i64 1) :
    (execOp ρ ⟨dst, .indexAddr 25 x (.const (.int .i64 1)), ty, pos, after, gd⟩).run Try.prog w = .ok (.value (.pointer (some ⟨g, 4, none⟩))) w := by
  simp [execOp, hx, hcc, go_sem]
theorem load3_1 (dst : Option Tmp) (ty : TypeId) (pos : String) (after : Array Edge) (gd : Option (Nat × Bool)) (x : Operand) (ρ : Operand → Value) (w : World) (g : Nat) (a0 a1 a2 a3 a4 a5 a6 a7 a8 a9 a10 a11 : Value) (hx : ρ x = .pointer (some ⟨g, 4, none⟩)) (h : At w g 25 #[a0, a1, a2, a3, a4, a5, a6, a7, a8, a9, a10, a11]) :
    (execOp ρ ⟨dst, .load 24 x, ty, pos, after, gd⟩).run Try.prog w = .ok (.value (.agg #[a4, a5, a6, a7])) w := by
  have c0 : w.cell? ⟨g, 4, none⟩ = some a4 := h.cell 4
  have c1 : w.cell? ⟨g, 5, none⟩ = some a5 := h.cell 5
  have c2 : w.cell? ⟨g, 6, none⟩ = some a6 := h.cell 6
  have c3 : w.cell? ⟨g, 7, none⟩ = some a7 := h.cell 7
  simp [execOp, hx, go_sem, c0, c1, c2, c3]
set_option maxRecDepth 100000 in
set_option maxHeartbeats 8000000 in
theorem dof_some (X Y V Q r W G : Nat) (e1 e2 : Int)
    (D1 : ∀ w, Calls Try.prog 11 #[num X, num Y] w fun e w' => e = .returned (.tuple #[num Q, num r, .int .i64 e1]) ∧ Below w.heap.size w w')
    (D2 : ∀ w, Calls Try.prog 12 #[num X, num Y] w fun e w' => e = .returned (.tuple #[num Q, num r, .int .i64 e1]) ∧ Below w.heap.size w w')
    (W1 : ∀ w, Calls Try.prog 13 #[num X, num Y, num V] w fun e w' => e = .returned (.tuple #[num W, .int .i64 e2]) ∧ Below w.heap.size w w')
    (W2 : ∀ w, Calls Try.prog 14 #[num X, num Y, num V] w fun e w' => e = .returned (.tuple #[num W, .int .i64 e2]) ∧ Below w.heap.size w w')
    (C1 : ∀ w, Calls Try.prog 15 #[num X, num Y] w fun e w' => e = .returned (num G) ∧ Below w.heap.size w w')
    (C2 : ∀ w, Calls Try.prog 16 #[num X, num Y] w fun e w' => e = .returned (num G) ∧ Below w.heap.size w w')
    (w : World) : Calls Try.prog 3 #[.agg #[.int .u64 (wd X 0 : Nat), .int .u64 (wd X 1 : Nat), .int .u64 (wd X 2 : Nat), .int .u64 (wd X 3 : Nat), .int .u64 (wd Y 0 : Nat), .int .u64 (wd Y 1 : Nat), .int .u64 (wd Y 2 : Nat), .int .u64 (wd Y 3 : Nat), .int .u64 (wd V 0 : Nat), .int .u64 (wd V 1 : Nat), .int .u64 (wd V 2 : Nat), .int .u64 (wd V 3 : Nat)]] w fun e w' => e = .returned (.bool true) ∧ Below w.heap.size w w' := by
  have HD1 := Lib.hid D1
  have HD2 := Lib.hid D2
  have HW1 := Lib.hid W1
  have HW2 := Lib.hid W2
  have HC1 := Lib.hid C1
  have HC2 := Lib.hid C2
  clear D1 D2 W1 W2 C1 C2
  go_enter Try.func3, Try.ntmps3
  go_wp2_with fail
  have BW := Lib.hid (Below.refl w.heap.size w)
  have Narr : At (w.alloc (.cells #[.int .u64 (wd X 0 : Nat), .int .u64 (wd X 1 : Nat), .int .u64 (wd X 2 : Nat), .int .u64 (wd X 3 : Nat), .int .u64 (wd Y 0 : Nat), .int .u64 (wd Y 1 : Nat), .int .u64 (wd Y 2 : Nat), .int .u64 (wd Y 3 : Nat), .int .u64 (wd V 0 : Nat), .int .u64 (wd V 1 : Nat), .int .u64 (wd V 2 : Nat), .int .u64 (wd V 3 : Nat)] 25)) (w.heap.size) 25 #[.int .u64 (wd X 0 : Nat), .int .u64 (wd X 1 : Nat), .int .u64 (wd X 2 : Nat), .int .u64 (wd X 3 : Nat), .int .u64 (wd Y 0 : Nat), .int .u64 (wd Y 1 : Nat), .int .u64 (wd Y 2 : Nat), .int .u64 (wd Y 3 : Nat), .int .u64 (wd V 0 : Nat), .int .u64 (wd V 1 : Nat), .int .u64 (wd V 2 : Nat), .int .u64 (wd V 3 : Nat)] := At.at_ _ _ _ _ (by simp)
  have NB : Below w.heap.size w (w.alloc (.cells #[.int .u64 (wd X 0 : Nat), .int .u64 (wd X 1 : Nat), .int .u64 (wd X 2 : Nat), .int .u64 (wd X 3 : Nat), .int .u64 (wd Y 0 : Nat), .int .u64 (wd Y 1 : Nat), .int .u64 (wd Y 2 : Nat), .int .u64 (wd Y 3 : Nat), .int .u64 (wd V 0 : Nat), .int .u64 (wd V 1 : Nat), .int .u64 (wd V 2 : Nat), .int .u64 (wd V 3 : Nat)] 25)) := gr_alloc BW.out _
  clear BW 
  generalize (w.alloc (.cells #[.int .u64 (wd X 0 : Nat), .int .u64 (wd X 1 : Nat), .int .u64 (wd X 2 : Nat), .int .u64 (wd X 3 : Nat), .int .u64 (wd Y 0 : Nat), .int .u64 (wd Y 1 : Nat), .int .u64 (wd Y 2 : Nat), .int .u64 (wd Y 3 : Nat), .int .u64 (wd V 0 : Nat), .int .u64 (wd V 1 : Nat), .int .u64 (wd V 2 : Nat), .int .u64 (wd V 3 : Nat)] 25)) = W1 at *
  obtain ⟨garr, hg0⟩ : ∃ g, g = w.heap.size := ⟨_, rfl⟩
  rw [← hg0] at Narr ⊢
  clear hg0
  have Farr := Lib.hid Narr
  have BW := Lib.hid NB
  clear NB Narr
  refine (HD1.out _).mono ?_
  rintro e v2 ⟨rfl, z2⟩
  have Narr := Lib.hid (Farr.out.on z2)
  have NB := Lib.hid (bel_tr BW.out z2)
  clear BW z2 Farr
  have Farr := Narr
  have BW := NB
  clear NB Narr
  have Larr := Farr.out.lt
  have carr0 : v2.cell? ⟨garr, 0, none⟩ = some (.int .u64 (wd X 0 : Nat)) := Farr.out.cell 0
  have carr1 : v2.cell? ⟨garr, 1, none⟩ = some (.int .u64 (wd X 1 : Nat)) := Farr.out.cell 1
  have carr2 : v2.cell? ⟨garr, 2, none⟩ = some (.int .u64 (wd X 2 : Nat)) := Farr.out.cell 2
  have carr3 : v2.cell? ⟨garr, 3, none⟩ = some (.int .u64 (wd X 3 : Nat)) := Farr.out.cell 3
  have carr4 : v2.cell? ⟨garr, 4, none⟩ = some (.int .u64 (wd Y 0 : Nat)) := Farr.out.cell 4
  have carr5 : v2.cell? ⟨garr, 5, none⟩ = some (.int .u64 (wd Y 1 : Nat)) := Farr.out.cell 5
  have carr6 : v2.cell? ⟨garr, 6, none⟩ = some (.int .u64 (wd Y 2 : Nat)) := Farr.out.cell 6
  have carr7 : v2.cell? ⟨garr, 7, none⟩ = some (.int .u64 (wd Y 3 : Nat)) := Farr.out.cell 7
  have carr8 : v2.cell? ⟨garr, 8, none⟩ = some (.int .u64 (wd V 0 : Nat)) := Farr.out.cell 8
  have carr9 : v2.cell? ⟨garr, 9, none⟩ = some (.int .u64 (wd V 1 : Nat)) := Farr.out.cell 9
  have carr10 : v2.cell? ⟨garr, 10, none⟩ = some (.int .u64 (wd V 2 : Nat)) := Farr.out.cell 10
  have carr11 : v2.cell? ⟨garr, 11, none⟩ = some (.int .u64 (wd V 3 : Nat)) := Farr.out.cell 11
  go_wp2_with fail
  clear Larr carr0 carr1 carr2 carr3 carr4 carr5 carr6 carr7 carr8 carr9 carr10 carr11
  have Nq : At ((v2.alloc (.cells #[.int .u64 (wd Q 0 : Nat), .int .u64 (wd Q 1 : Nat), .int .u64 (wd Q 2 : Nat), .int .u64 (wd Q 3 : Nat)] 24)).alloc (.cells #[.int .u64 (wd r 0 : Nat), .int .u64 (wd r 1 : Nat), .int .u64 (wd r 2 : Nat), .int .u64 (wd r 3 : Nat)] 24)) (v2.heap.size) 24 #[.int .u64 (wd Q 0 : Nat), .int .u64 (wd Q 1 : Nat), .int .u64 (wd Q 2 : Nat), .int .u64 (wd Q 3 : Nat)] := (At.at_ _ _ _ _ (by simp)).alloc _
  have Ny : At ((v2.alloc (.cells #[.int .u64 (wd Q 0 : Nat), .int .u64 (wd Q 1 : Nat), .int .u64 (wd Q 2 : Nat), .int .u64 (wd Q 3 : Nat)] 24)).alloc (.cells #[.int .u64 (wd r 0 : Nat), .int .u64 (wd r 1 : Nat), .int .u64 (wd r 2 : Nat), .int .u64 (wd r 3 : Nat)] 24)) (v2.heap.size + 1) 24 #[.int .u64 (wd r 0 : Nat), .int .u64 (wd r 1 : Nat), .int .u64 (wd r 2 : Nat), .int .u64 (wd r 3 : Nat)] := At.at_ _ _ _ _ (by simp)
  have Narr : At ((v2.alloc (.cells #[.int .u64 (wd Q 0 : Nat), .int .u64 (wd Q 1 : Nat), .int .u64 (wd Q 2 : Nat), .int .u64 (wd Q 3 : Nat)] 24)).alloc (.cells #[.int .u64 (wd r 0 : Nat), .int .u64 (wd r 1 : Nat), .int .u64 (wd r 2 : Nat), .int .u64 (wd r 3 : Nat)] 24)) garr 25 #[.int .u64 (wd X 0 : Nat), .int .u64 (wd X 1 : Nat), .int .u64 (wd X 2 : Nat), .int .u64 (wd X 3 : Nat), .int .u64 (wd Y 0 : Nat), .int .u64 (wd Y 1 : Nat), .int .u64 (wd Y 2 : Nat), .int .u64 (wd Y 3 : Nat), .int .u64 (wd V 0 : Nat), .int .u64 (wd V 1 : Nat), .int .u64 (wd V 2 : Nat), .int .u64 (wd V 3 : Nat)] := (Farr.out.alloc _).alloc _
  have NB : Below w.heap.size w ((v2.alloc (.cells #[.int .u64 (wd Q 0 : Nat), .int .u64 (wd Q 1 : Nat), .int .u64 (wd Q 2 : Nat), .int .u64 (wd Q 3 : Nat)] 24)).alloc (.cells #[.int .u64 (wd r 0 : Nat), .int .u64 (wd r 1 : Nat), .int .u64 (wd r 2 : Nat), .int .u64 (wd r 3 : Nat)] 24)) := gr_alloc (gr_alloc BW.out _) _
  clear BW Farr
  generalize ((v2.alloc (.cells #[.int .u64 (wd Q 0 : Nat), .int .u64 (wd Q 1 : Nat), .int .u64 (wd Q 2 : Nat), .int .u64 (wd Q 3 : Nat)] 24)).alloc (.cells #[.int .u64 (wd r 0 : Nat), .int .u64 (wd r 1 : Nat), .int .u64 (wd r 2 : Nat), .int .u64 (wd r 3 : Nat)] 24)) = W3 at *
  generalize v2.heap.size + 1 = gy at *
  generalize v2.heap.size = gq at *
  have Farr := Lib.hid Narr
  have Fq := Lib.hid Nq
  have Fy := Lib.hid Ny
  have BW := Lib.hid NB
  clear NB Narr Nq Ny
  refine (HD2.out _).mono ?_
  rintro e v4 ⟨rfl, z4⟩
  have Narr := Lib.hid (Farr.out.on z4)
  have Nq := Lib.hid (Fq.out.on z4)
  have Ny := Lib.hid (Fy.out.on z4)
  have NB := Lib.hid (bel_tr BW.out z4)
  clear BW z4 Farr Fq Fy
  have Farr := Narr
  have Fq := Nq
  have Fy := Ny
  have BW := NB
  clear NB Narr Nq Ny
  have Larr := Farr.out.lt
  have carr0 : v4.cell? ⟨garr, 0, none⟩ = some (.int .u64 (wd X 0 : Nat)) := Farr.out.cell 0
  have carr1 : v4.cell? ⟨garr, 1, none⟩ = some (.int .u64 (wd X 1 : Nat)) := Farr.out.cell 1
  have carr2 : v4.cell? ⟨garr, 2, none⟩ = some (.int .u64 (wd X 2 : Nat)) := Farr.out.cell 2
  have carr3 : v4.cell? ⟨garr, 3, none⟩ = some (.int .u64 (wd X 3 : Nat)) := Farr.out.cell 3
  have carr4 : v4.cell? ⟨garr, 4, none⟩ = some (.int .u64 (wd Y 0 : Nat)) := Farr.out.cell 4
  have carr5 : v4.cell? ⟨garr, 5, none⟩ = some (.int .u64 (wd Y 1 : Nat)) := Farr.out.cell 5
  have carr6 : v4.cell? ⟨garr, 6, none⟩ = some (.int .u64 (wd Y 2 : Nat)) := Farr.out.cell 6
  have carr7 : v4.cell? ⟨garr, 7, none⟩ = some (.int .u64 (wd Y 3 : Nat)) := Farr.out.cell 7
  have carr8 : v4.cell? ⟨garr, 8, none⟩ = some (.int .u64 (wd V 0 : Nat)) := Farr.out.cell 8
  have carr9 : v4.cell? ⟨garr, 9, none⟩ = some (.int .u64 (wd V 1 : Nat)) := Farr.out.cell 9
  have carr10 : v4.cell? ⟨garr, 10, none⟩ = some (.int .u64 (wd V 2 : Nat)) := Farr.out.cell 10
  have carr11 : v4.cell? ⟨garr, 11, none⟩ = some (.int .u64 (wd V 3 : Nat)) := Farr.out.cell 11
  go_wp2_with fail
  clear Larr carr0 carr1 carr2 carr3 carr4 carr5 carr6 carr7 carr8 carr9 carr10 carr11
  have Np : At ((v4.alloc (.cells #[.int .u64 (wd Q 0 : Nat), .int .u64 (wd Q 1 : Nat), .int .u64 (wd Q 2 : Nat), .int .u64 (wd Q 3 : Nat)] 24)).alloc (.cells #[.int .u64 (wd r 0 : Nat), .int .u64 (wd r 1 : Nat), .int .u64 (wd r 2 : Nat), .int .u64 (wd r 3 : Nat)] 24)) (v4.heap.size) 24 #[.int .u64 (wd Q 0 : Nat), .int .u64 (wd Q 1 : Nat), .int .u64 (wd Q 2 : Nat), .int .u64 (wd Q 3 : Nat)] := (At.at_ _ _ _ _ (by simp)).alloc _
  have Nz : At ((v4.alloc (.cells #[.int .u64 (wd Q 0 : Nat), .int .u64 (wd Q 1 : Nat), .int .u64 (wd Q 2 : Nat), .int .u64 (wd Q 3 : Nat)] 24)).alloc (.cells #[.int .u64 (wd r 0 : Nat), .int .u64 (wd r 1 : Nat), .int .u64 (wd r 2 : Nat), .int .u64 (wd r 3 : Nat)] 24)) (v4.heap.size + 1) 24 #[.int .u64 (wd r 0 : Nat), .int .u64 (wd r 1 : Nat), .int .u64 (wd r 2 : Nat), .int .u64 (wd r 3 : Nat)] := At.at_ _ _ _ _ (by simp)
  have Narr : At ((v4.alloc (.cells #[.int .u64 (wd Q 0 : Nat), .int .u64 (wd Q 1 : Nat), .int .u64 (wd Q 2 : Nat), .int .u64 (wd Q 3 : Nat)] 24)).alloc (.cells #[.int .u64 (wd r 0 : Nat), .int .u64 (wd r 1 : Nat), .int .u64 (wd r 2 : Nat), .int .u64 (wd r 3 : Nat)] 24)) garr 25 #[.int .u64 (wd X 0 : Nat), .int .u64 (wd X 1 : Nat), .int .u64 (wd X 2 : Nat), .int .u64 (wd X 3 : Nat), .int .u64 (wd Y 0 : Nat), .int .u64 (wd Y 1 : Nat), .int .u64 (wd Y 2 : Nat), .int .u64 (wd Y 3 : Nat), .int .u64 (wd V 0 : Nat), .int .u64 (wd V 1 : Nat), .int .u64 (wd V 2 : Nat), .int .u64 (wd V 3 : Nat)] := (Farr.out.alloc _).alloc _
  have Nq : At ((v4.alloc (.cells #[.int .u64 (wd Q 0 : Nat), .int .u64 (wd Q 1 : Nat), .int .u64 (wd Q 2 : Nat), .int .u64 (wd Q 3 : Nat)] 24)).alloc (.cells #[.int .u64 (wd r 0 : Nat), .int .u64 (wd r 1 : Nat), .int .u64 (wd r 2 : Nat), .int .u64 (wd r 3 : Nat)] 24)) gq 24 #[.int .u64 (wd Q 0 : Nat), .int .u64 (wd Q 1 : Nat), .int .u64 (wd Q 2 : Nat), .int .u64 (wd Q 3 : Nat)] := (Fq.out.alloc _).alloc _
  have Ny : At ((v4.alloc (.cells #[.int .u64 (wd Q 0 : Nat), .int .u64 (wd Q 1 : Nat), .int .u64 (wd Q 2 : Nat), .int .u64 (wd Q 3 : Nat)] 24)).alloc (.cells #[.int .u64 (wd r 0 : Nat), .int .u64 (wd r 1 : Nat), .int .u64 (wd r 2 : Nat), .int .u64 (wd r 3 : Nat)] 24)) gy 24 #[.int .u64 (wd r 0 : Nat), .int .u64 (wd r 1 : Nat), .int .u64 (wd r 2 : Nat), .int .u64 (wd r 3 : Nat)] := (Fy.out.alloc _).alloc _
  have NB : Below w.heap.size w ((v4.alloc (.cells #[.int .u64 (wd Q 0 : Nat), .int .u64 (wd Q 1 : Nat), .int .u64 (wd Q 2 : Nat), .int .u64 (wd Q 3 : Nat)] 24)).alloc (.cells #[.int .u64 (wd r 0 : Nat), .int .u64 (wd r 1 : Nat), .int .u64 (wd r 2 : Nat), .int .u64 (wd r 3 : Nat)] 24)) := gr_alloc (gr_alloc BW.out _) _
  clear BW Farr Fq Fy
  generalize ((v4.alloc (.cells #[.int .u64 (wd Q 0 : Nat), .int .u64 (wd Q 1 : Nat), .int .u64 (wd Q 2 : Nat), .int .u64 (wd Q 3 : Nat)] 24)).alloc (.cells #[.int .u64 (wd r 0 : Nat), .int .u64 (wd r 1 : Nat), .int .u64 (wd r 2 : Nat), .int .u64 (wd r 3 : Nat)] 24)) = W5 at *
  generalize v4.heap.size + 1 = gz at *
  generalize v4.heap.size = gp at *
  have Farr := Lib.hid Narr
  have Fq := Lib.hid Nq
  have Fy := Lib.hid Ny
  have Fp := Lib.hid Np
  have Fz := Lib.hid Nz
  have BW := Lib.hid NB
  clear NB Narr Nq Ny Np Nz
  refine (HW1.out _).mono ?_
  rintro e v6 ⟨rfl, z6⟩
  have Narr := Lib.hid (Farr.out.on z6)
  have Nq := Lib.hid (Fq.out.on z6)
  have Ny := Lib.hid (Fy.out.on z6)
  have Np := Lib.hid (Fp.out.on z6)
  have Nz := Lib.hid (Fz.out.on z6)
  have NB := Lib.hid (bel_tr BW.out z6)
  clear BW z6 Farr Fq Fy Fp Fz
  have Farr := Narr
  have Fq := Nq
  have Fy := Ny
  have Fp := Np
  have Fz := Nz
  have BW := NB
  clear NB Narr Nq Ny Np Nz
  have Larr := Farr.out.lt
  have carr0 : v6.cell? ⟨garr, 0, none⟩ = some (.int .u64 (wd X 0 : Nat)) := Farr.out.cell 0
  have carr1 : v6.cell? ⟨garr, 1, none⟩ = some (.int .u64 (wd X 1 : Nat)) := Farr.out.cell 1
  have carr2 : v6.cell? ⟨garr, 2, none⟩ = some (.int .u64 (wd X 2 : Nat)) := Farr.out.cell 2
  have carr3 : v6.cell? ⟨garr, 3, none⟩ = some (.int .u64 (wd X 3 : Nat)) := Farr.out.cell 3
  have carr4 : v6.cell? ⟨garr, 4, none⟩ = some (.int .u64 (wd Y 0 : Nat)) := Farr.out.cell 4
  have carr5 : v6.cell? ⟨garr, 5, none⟩ = some (.int .u64 (wd Y 1 : Nat)) := Farr.out.cell 5
  have carr6 : v6.cell? ⟨garr, 6, none⟩ = some (.int .u64 (wd Y 2 : Nat)) := Farr.out.cell 6
  have carr7 : v6.cell? ⟨garr, 7, none⟩ = some (.int .u64 (wd Y 3 : Nat)) := Farr.out.cell 7
  have carr8 : v6.cell? ⟨garr, 8, none⟩ = some (.int .u64 (wd V 0 : Nat)) := Farr.out.cell 8
  have carr9 : v6.cell? ⟨garr, 9, none⟩ = some (.int .u64 (wd V 1 : Nat)) := Farr.out.cell 9
  have carr10 : v6.cell? ⟨garr, 10, none⟩ = some (.int .u64 (wd V 2 : Nat)) := Farr.out.cell 10
  have carr11 : v6.cell? ⟨garr, 11, none⟩ = some (.int .u64 (wd V 3 : Nat)) := Farr.out.cell 11
  go_wp2_with fail
  clear Larr carr0 carr1 carr2 carr3 carr4 carr5 carr6 carr7 carr8 carr9 carr10 carr11
  have Nu : At (v6.alloc (.cells #[.int .u64 (wd W 0 : Nat), .int .u64 (wd W 1 : Nat), .int .u64 (wd W 2 : Nat), .int .u64 (wd W 3 : Nat)] 24)) (v6.heap.size) 24 #[.int .u64 (wd W 0 : Nat), .int .u64 (wd W 1 : Nat), .int .u64 (wd W 2 : Nat), .int .u64 (wd W 3 : Nat)] := At.at_ _ _ _ _ (by simp)
  have Narr : At (v6.alloc (.cells #[.int .u64 (wd W 0 : Nat), .int .u64 (wd W 1 : Nat), .int .u64 (wd W 2 : Nat), .int .u64 (wd W 3 : Nat)] 24)) garr 25 #[.int .u64 (wd X 0 : Nat), .int .u64 (wd X 1 : Nat), .int .u64 (wd X 2 : Nat), .int .u64 (wd X 3 : Nat), .int .u64 (wd Y 0 : Nat), .int .u64 (wd Y 1 : Nat), .int .u64 (wd Y 2 : Nat), .int .u64 (wd Y 3 : Nat), .int .u64 (wd V 0 : Nat), .int .u64 (wd V 1 : Nat), .int .u64 (wd V 2 : Nat), .int .u64 (wd V 3 : Nat)] := Farr.out.alloc _
  have Nq : At (v6.alloc (.cells #[.int .u64 (wd W 0 : Nat), .int .u64 (wd W 1 : Nat), .int .u64 (wd W 2 : Nat), .int .u64 (wd W 3 : Nat)] 24)) gq 24 #[.int .u64 (wd Q 0 : Nat), .int .u64 (wd Q 1 : Nat), .int .u64 (wd Q 2 : Nat), .int .u64 (wd Q 3 : Nat)] := Fq.out.alloc _
  have Ny : At (v6.alloc (.cells #[.int .u64 (wd W 0 : Nat), .int .u64 (wd W 1 : Nat), .int .u64 (wd W 2 : Nat), .int .u64 (wd W 3 : Nat)] 24)) gy 24 #[.int .u64 (wd r 0 : Nat), .int .u64 (wd r 1 : Nat), .int .u64 (wd r 2 : Nat), .int .u64 (wd r 3 : Nat)] := Fy.out.alloc _
  have Np : At (v6.alloc (.cells #[.int .u64 (wd W 0 : Nat), .int .u64 (wd W 1 : Nat), .int .u64 (wd W 2 : Nat), .int .u64 (wd W 3 : Nat)] 24)) gp 24 #[.int .u64 (wd Q 0 : Nat), .int .u64 (wd Q 1 : Nat), .int .u64 (wd Q 2 : Nat), .int .u64 (wd Q 3 : Nat)] := Fp.out.alloc _
  have Nz : At (v6.alloc (.cells #[.int .u64 (wd W 0 : Nat), .int .u64 (wd W 1 : Nat), .int .u64 (wd W 2 : Nat), .int .u64 (wd W 3 : Nat)] 24)) gz 24 #[.int .u64 (wd r 0 : Nat), .int .u64 (wd r 1 : Nat), .int .u64 (wd r 2 : Nat), .int .u64 (wd r 3 : Nat)] := Fz.out.alloc _
  have NB : Below w.heap.size w (v6.alloc (.cells #[.int .u64 (wd W 0 : Nat), .int .u64 (wd W 1 : Nat), .int .u64 (wd W 2 : Nat), .int .u64 (wd W 3 : Nat)] 24)) := gr_alloc BW.out _
  clear BW Farr Fq Fy Fp Fz
  generalize (v6.alloc (.cells #[.int .u64 (wd W 0 : Nat), .int .u64 (wd W 1 : Nat), .int .u64 (wd W 2 : Nat), .int .u64 (wd W 3 : Nat)] 24)) = W7 at *
  generalize v6.heap.size = gu at *
  have Farr := Lib.hid Narr
  have Fq := Lib.hid Nq
  have Fy := Lib.hid Ny
  have Fp := Lib.hid Np
  have Fz := Lib.hid Nz
  have Fu := Lib.hid Nu
  have BW := Lib.hid NB
  clear NB Narr Nq Ny Np Nz Nu
  refine (HW2.out _).mono ?_
  rintro e v8 ⟨rfl, z8⟩
  have Narr := Lib.hid (Farr.out.on z8)
  have Nq := Lib.hid (Fq.out.on z8)
  have Ny := Lib.hid (Fy.out.on z8)
  have Np := Lib.hid (Fp.out.on z8)
  have Nz := Lib.hid (Fz.out.on z8)
  have Nu := Lib.hid (Fu.out.on z8)
  have NB := Lib.hid (bel_tr BW.out z8)
  clear BW z8 Farr Fq Fy Fp Fz Fu
  have Farr := Narr
  have Fq := Nq
  have Fy := Ny
  have Fp := Np
  have Fz := Nz
  have Fu := Nu
  have BW := NB
  clear NB Narr Nq Ny Np Nz Nu
  go_wp2_with fail
  have Nv : At (v8.alloc (.cells #[.int .u64 (wd W 0 : Nat), .int .u64 (wd W 1 : Nat), .int .u64 (wd W 2 : Nat), .int .u64 (wd W 3 : Nat)] 24)) (v8.heap.size) 24 #[.int .u64 (wd W 0 : Nat), .int .u64 (wd W 1 : Nat), .int .u64 (wd W 2 : Nat), .int .u64 (wd W 3 : Nat)] := At.at_ _ _ _ _ (by simp)
  have Narr : At (v8.alloc (.cells #[.int .u64 (wd W 0 : Nat), .int .u64 (wd W 1 : Nat), .int .u64 (wd W 2 : Nat), .int .u64 (wd W 3 : Nat)] 24)) garr 25 #[.int .u64 (wd X 0 : Nat), .int .u64 (wd X 1 : Nat), .int .u64 (wd X 2 : Nat), .int .u64 (wd X 3 : Nat), .int .u64 (wd Y 0 : Nat), .int .u64 (wd Y 1 : Nat), .int .u64 (wd Y 2 : Nat), .int .u64 (wd Y 3 : Nat), .int .u64 (wd V 0 : Nat), .int .u64 (wd V 1 : Nat), .int .u64 (wd V 2 : Nat), .int .u64 (wd V 3 : Nat)] := Farr.out.alloc _
  have Nq : At (v8.alloc (.cells #[.int .u64 (wd W 0 : Nat), .int .u64 (wd W 1 : Nat), .int .u64 (wd W 2 : Nat), .int .u64 (wd W 3 : Nat)] 24)) gq 24 #[.int .u64 (wd Q 0 : Nat), .int .u64 (wd Q 1 : Nat), .int .u64 (wd Q 2 : Nat), .int .u64 (wd Q 3 : Nat)] := Fq.out.alloc _
  have Ny : At (v8.alloc (.cells #[.int .u64 (wd W 0 : Nat), .int .u64 (wd W 1 : Nat), .int .u64 (wd W 2 : Nat), .int .u64 (wd W 3 : Nat)] 24)) gy 24 #[.int .u64 (wd r 0 : Nat), .int .u64 (wd r 1 : Nat), .int .u64 (wd r 2 : Nat), .int .u64 (wd r 3 : Nat)] := Fy.out.alloc _
  have Np : At (v8.alloc (.cells #[.int .u64 (wd W 0 : Nat), .int .u64 (wd W 1 : Nat), .int .u64 (wd W 2 : Nat), .int .u64 (wd W 3 : Nat)] 24)) gp 24 #[.int .u64 (wd Q 0 : Nat), .int .u64 (wd Q 1 : Nat), .int .u64 (wd Q 2 : Nat), .int .u64 (wd Q 3 : Nat)] := Fp.out.alloc _
  have Nz : At (v8.alloc (.cells #[.int .u64 (wd W 0 : Nat), .int .u64 (wd W 1 : Nat), .int .u64 (wd W 2 : Nat), .int .u64 (wd W 3 : Nat)] 24)) gz 24 #[.int .u64 (wd r 0 : Nat), .int .u64 (wd r 1 : Nat), .int .u64 (wd r 2 : Nat), .int .u64 (wd r 3 : Nat)] := Fz.out.alloc _
  have Nu : At (v8.alloc (.cells #[.int .u64 (wd W 0 : Nat), .int .u64 (wd W 1 : Nat), .int .u64 (wd W 2 : Nat), .int .u64 (wd W 3 : Nat)] 24)) gu 24 #[.int .u64 (wd W 0 : Nat), .int .u64 (wd W 1 : Nat), .int .u64 (wd W 2 : Nat), .int .u64 (wd W 3 : Nat)] := Fu.out.alloc _
  have NB : Below w.heap.size w (v8.alloc (.cells #[.int .u64 (wd W 0 : Nat), .int .u64 (wd W 1 : Nat), .int .u64 (wd W 2 : Nat), .int .u64 (wd W 3 : Nat)] 24)) := gr_alloc BW.out _
  clear BW Farr Fq Fy Fp Fz Fu
  generalize (v8.alloc (.cells #[.int .u64 (wd W 0 : Nat), .int .u64 (wd W 1 : Nat), .int .u64 (wd W 2 : Nat), .int .u64 (wd W 3 : Nat)] 24)) = W9 at *
  generalize v8.heap.size = gv at *
  have Farr := Lib.hid Narr
  have Fq := Lib.hid Nq
  have Fy := Lib.hid Ny
  have Fp := Lib.hid Np
  have Fz := Lib.hid Nz
  have Fu := Lib.hid Nu
  have Fv := Lib.hid Nv
  have BW := Lib.hid NB
  clear NB Narr Nq Ny Np Nz Nu Nv
  try simp only [List.append_eq, List.cons_append, List.nil_append]
  refine wp_region_noPanic ?_
  refine wp_region_held_drew (S := fun w' => At w' garr 25 #[.int .u64 (wd X 0 : Nat), .int .u64 (wd X 1 : Nat), .int .u64 (wd X 2 : Nat), .int .u64 (wd X 3 : Nat), .int .u64 (wd Y 0 : Nat), .int .u64 (wd Y 1 : Nat), .int .u64 (wd Y 2 : Nat), .int .u64 (wd Y 3 : Nat), .int .u64 (wd V 0 : Nat), .int .u64 (wd V 1 : Nat), .int .u64 (wd V 2 : Nat), .int .u64 (wd V 3 : Nat)] ∧ At w' gq 24 #[.int .u64 (wd Q 0 : Nat), .int .u64 (wd Q 1 : Nat), .int .u64 (wd Q 2 : Nat), .int .u64 (wd Q 3 : Nat)] ∧ At w' gp 24 #[.int .u64 (wd Q 0 : Nat), .int .u64 (wd Q 1 : Nat), .int .u64 (wd Q 2 : Nat), .int .u64 (wd Q 3 : Nat)] ∧ At w' gy 24 #[.int .u64 (wd r 0 : Nat), .int .u64 (wd r 1 : Nat), .int .u64 (wd r 2 : Nat), .int .u64 (wd r 3 : Nat)] ∧ At w' gz 24 #[.int .u64 (wd r 0 : Nat), .int .u64 (wd r 1 : Nat), .int .u64 (wd r 2 : Nat), .int .u64 (wd r 3 : Nat)] ∧ At w' gu 24 #[.int .u64 (wd W 0 : Nat), .int .u64 (wd W 1 : Nat), .int .u64 (wd W 2 : Nat), .int .u64 (wd W 3 : Nat)] ∧ At w' gv 24 #[.int .u64 (wd W 0 : Nat), .int .u64 (wd W 1 : Nat), .int .u64 (wd W 2 : Nat), .int .u64 (wd W 3 : Nat)]) (by kernel_rfl) (⟨Farr.out.drew, Fq.out.drew, Fp.out.drew, Fy.out.drew, Fz.out.drew, Fu.out.drew, Fv.out.drew⟩) (fun _ => ?_)
  refine wpAnyH_cores (fuel := 1) (⟨0, 51, [], Kind.val (.agg #[.int .u64 (wd Q 0 : Nat), .int .u64 (wd Q 1 : Nat), .int .u64 (wd Q 2 : Nat), .int .u64 (wd Q 3 : Nat)]), true⟩ :: ⟨1, 52, [0], Kind.val (.agg #[.int .u64 (wd Q 0 : Nat), .int .u64 (wd Q 1 : Nat), .int .u64 (wd Q 2 : Nat), .int .u64 (wd Q 3 : Nat)]), true⟩ :: ⟨2, 53, [0, 1], Kind.val (.bool true), true⟩ :: ⟨3, 54, [2], Kind.val (.bool true), true⟩ :: ⟨4, 55, [3], Kind.val (.agg #[.int .u64 (wd r 0 : Nat), .int .u64 (wd r 1 : Nat), .int .u64 (wd r 2 : Nat), .int .u64 (wd r 3 : Nat)]), true⟩ :: ⟨5, 56, [3, 4], Kind.val (.agg #[.int .u64 (wd r 0 : Nat), .int .u64 (wd r 1 : Nat), .int .u64 (wd r 2 : Nat), .int .u64 (wd r 3 : Nat)]), true⟩ :: ⟨6, 57, [3, 4, 5], Kind.val (.bool true), true⟩ :: ⟨7, 58, [3, 6], Kind.val (.bool true), true⟩ :: ⟨8, 59, [7], Kind.val (.bool true), true⟩ :: ⟨9, 60, [8], Kind.val (.int .i64 e1), true⟩ :: ⟨10, 61, [8, 9], Kind.val (.int .i64 e1), true⟩ :: ⟨11, 62, [8, 9, 10], Kind.val (.bool true), true⟩ :: ⟨12, 63, [8, 11], Kind.val (.bool true), true⟩ :: ⟨13, 64, [12], Kind.val (.bool true), true⟩ :: ⟨14, 65, [13], Kind.val (.agg #[.int .u64 (wd W 0 : Nat), .int .u64 (wd W 1 : Nat), .int .u64 (wd W 2 : Nat), .int .u64 (wd W 3 : Nat)]), true⟩ :: ⟨15, 66, [13, 14], Kind.val (.agg #[.int .u64 (wd W 0 : Nat), .int .u64 (wd W 1 : Nat), .int .u64 (wd W 2 : Nat), .int .u64 (wd W 3 : Nat)]), true⟩ :: ⟨16, 67, [13, 14, 15], Kind.val (.bool true), true⟩ :: ⟨17, 68, [13, 16], Kind.val (.bool true), true⟩ :: ⟨18, 69, [17], Kind.val (.bool true), true⟩ :: ⟨19, 70, [18], Kind.val (.int .i64 e2), true⟩ :: ⟨20, 71, [18, 19], Kind.val (.int .i64 e2), true⟩ :: ⟨21, 72, [18, 19, 20], Kind.val (.bool true), true⟩ :: ⟨22, 73, [18, 21], Kind.val (.bool true), true⟩ :: ⟨23, 74, [22], Kind.val (.bool true), true⟩ :: ⟨24, 75, [23], Kind.val (.pointer (some ⟨garr, 0, none⟩)), true⟩ :: ⟨25, 76, [23, 24], Kind.val (.agg #[.int .u64 (wd X 0 : Nat), .int .u64 (wd X 1 : Nat), .int .u64 (wd X 2 : Nat), .int .u64 (wd X 3 : Nat)]), true⟩ :: ⟨26, 77, [23, 25], Kind.val (.pointer (some ⟨garr, 4, none⟩)), true⟩ :: ⟨27, 78, [23, 26], Kind.val (.agg #[.int .u64 (wd Y 0 : Nat), .int .u64 (wd Y 1 : Nat), .int .u64 (wd Y 2 : Nat), .int .u64 (wd Y 3 : Nat)]), true⟩ :: ⟨29, 80, [23, 27], Kind.val (.pointer (some ⟨garr, 0, none⟩)), true⟩ :: ⟨30, 81, [23, 28], Kind.val (.agg #[.int .u64 (wd X 0 : Nat), .int .u64 (wd X 1 : Nat), .int .u64 (wd X 2 : Nat), .int .u64 (wd X 3 : Nat)]), true⟩ :: ⟨31, 82, [23, 29], Kind.val (.pointer (some ⟨garr, 4, none⟩)), true⟩ :: ⟨32, 83, [23, 30], Kind.val (.agg #[.int .u64 (wd Y 0 : Nat), .int .u64 (wd Y 1 : Nat), .int .u64 (wd Y 2 : Nat), .int .u64 (wd Y 3 : Nat)]), true⟩ :: ⟨28, 79, [23, 25, 27, 31], Kind.val (.agg #[.int .u64 (wd G 0 : Nat), .int .u64 (wd G 1 : Nat), .int .u64 (wd G 2 : Nat), .int .u64 (wd G 3 : Nat)]), false⟩ :: ⟨33, 84, [23, 29, 31, 32], Kind.val (.agg #[.int .u64 (wd G 0 : Nat), .int .u64 (wd G 1 : Nat), .int .u64 (wd G 2 : Nat), .int .u64 (wd G 3 : Nat)]), false⟩ :: ⟨34, 85, [23, 32, 33], Kind.val (.bool true), true⟩ :: ⟨35, 86, [23, 34], Kind.val (.bool true), true⟩ :: []) _ _ W9 _ ?_ ?_ ?_ ?_ ?_ ?_ ?_ ?_ ?_ ?_ ?_
  · rfl
  · kernel_rfl
  · exact of_decide_eq_true (by kernel_rfl)
  · exact all_cons ⟨_, by rfl, by rfl⟩ (all_cons ⟨_, by rfl, by rfl⟩ (all_cons ⟨_, by rfl, by rfl⟩ (all_cons ⟨_, by rfl, by rfl⟩ (all_cons ⟨_, by rfl, by rfl⟩ (all_cons ⟨_, by rfl, by rfl⟩ (all_cons ⟨_, by rfl, by rfl⟩ (all_cons ⟨_, by rfl, by rfl⟩ (all_cons ⟨_, by rfl, by rfl⟩ (all_cons ⟨_, by rfl, by rfl⟩ (all_cons ⟨_, by rfl, by rfl⟩ (all_cons ⟨_, by rfl, by rfl⟩ (all_cons ⟨_, by rfl, by rfl⟩ (all_cons ⟨_, by rfl, by rfl⟩ (all_cons ⟨_, by rfl, by rfl⟩ (all_cons ⟨_, by rfl, by rfl⟩ (all_cons ⟨_, by rfl, by rfl⟩ (all_cons ⟨_, by rfl, by rfl⟩ (all_cons ⟨_, by rfl, by rfl⟩ (all_cons ⟨_, by rfl, by rfl⟩ (all_cons ⟨_, by rfl, by rfl⟩ (all_cons ⟨_, by rfl, by rfl⟩ (all_cons ⟨_, by rfl, by rfl⟩ (all_cons ⟨_, by rfl, by rfl⟩ (all_cons ⟨_, by rfl, by rfl⟩ (all_cons ⟨_, by rfl, by rfl⟩ (all_cons ⟨_, by rfl, by rfl⟩ (all_cons ⟨_, by rfl, by rfl⟩ (all_cons ⟨_, by rfl, by rfl⟩ (all_cons ⟨_, by rfl, by rfl⟩ (all_cons ⟨_, by rfl, by rfl⟩ (all_cons ⟨_, by rfl, by rfl⟩ (all_cons ⟨_, by rfl, by rfl⟩ (all_cons ⟨_, by rfl, by rfl⟩ (all_cons ⟨_, by rfl, by rfl⟩ (all_cons ⟨_, by rfl, by rfl⟩ (all_nil))))))))))))))))))))))))))))))))))))
  · exact fun _ hb => ⟨Farr.out.on hb, Fq.out.on hb, Fp.out.on hb, Fy.out.on hb, Fz.out.on hb, Fu.out.on hb, Fv.out.on hb⟩
  · exact (Below.refl _ _).drew
  · kernel_rfl
  · exact fun _ _ _ _ _ h => h
  · refine all_cons ?_ (all_cons ?_ (all_cons ?_ (all_cons ?_ (all_cons ?_ (all_cons ?_ (all_cons ?_ (all_cons ?_ (all_cons ?_ (all_cons ?_ (all_cons ?_ (all_cons ?_ (all_cons ?_ (all_cons ?_ (all_cons ?_ (all_cons ?_ (all_cons ?_ (all_cons ?_ (all_cons ?_ (all_cons ?_ (all_cons ?_ (all_cons ?_ (all_cons ?_ (all_cons ?_ (all_cons ?_ (all_cons ?_ (all_cons ?_ (all_cons ?_ (all_cons ?_ (all_cons ?_ (all_cons ?_ (all_cons ?_ (all_cons ?_ (all_cons ?_ (all_cons ?_ (all_cons ?_ (all_nil))))))))))))))))))))))))))))))))))))
    · exact coreG_loadP _ _ _ _ _ _ gq _ _ _ _ (by rfl) (by rfl) (wants_none) (known_old 3 _ (of_decide_eq_true (by rfl)) (by rfl)) (fun _ hs => hs.2.1)
    · exact coreG_loadP _ _ _ _ _ _ gp _ _ _ _ (by rfl) (by rfl) (wants_none) (known_old 6 _ (of_decide_eq_true (by rfl)) (by rfl)) (fun _ hs => hs.2.2.1)
    · exact coreG_bin _ _ _ _ _ _ _ _ _ _ _ _ _ (by rfl) (by rfl) (wants_none) (known_core 0 51 _ _ (of_decide_eq_true (by rfl)) (by rfl) (by rfl) (by rfl)) (known_core 1 52 _ _ (of_decide_eq_true (by rfl)) (by rfl) (by rfl) (by rfl)) (eql_run true _ _ _ _ _ _ _ _ _ _ _ _ _ _ _ (eqY Q))
    · exact coreG_move _ _ _ _ _ _ _ (by rfl) (by rfl) (wants_none) (known_core 2 53 _ _ (of_decide_eq_true (by rfl)) (by rfl) (by rfl) (by rfl))
    · exact coreG_loadP _ _ _ _ _ _ gy _ _ _ _ (by rfl) (by rfl) (wants_core 3 54 3 _ _ _ (by rfl) (by rfl) (by rfl) (known_core 3 54 _ _ (of_decide_eq_true (by rfl)) (by rfl) (by rfl) (by rfl)) _ (by rfl)) (known_old 4 _ (of_decide_eq_true (by rfl)) (by rfl)) (fun _ hs => hs.2.2.2.1)
    · exact coreG_loadP _ _ _ _ _ _ gz _ _ _ _ (by rfl) (by rfl) (wants_core 3 54 3 _ _ _ (by rfl) (by rfl) (by rfl) (known_core 3 54 _ _ (of_decide_eq_true (by rfl)) (by rfl) (by rfl) (by rfl)) _ (by rfl)) (known_old 7 _ (of_decide_eq_true (by rfl)) (by rfl)) (fun _ hs => hs.2.2.2.2.1)
    · exact coreG_bin _ _ _ _ _ _ _ _ _ _ _ _ _ (by rfl) (by rfl) (wants_core 3 54 3 _ _ _ (by rfl) (by rfl) (by rfl) (known_core 3 54 _ _ (of_decide_eq_true (by rfl)) (by rfl) (by rfl) (by rfl)) _ (by rfl)) (known_core 4 55 _ _ (of_decide_eq_true (by rfl)) (by rfl) (by rfl) (by rfl)) (known_core 5 56 _ _ (of_decide_eq_true (by rfl)) (by rfl) (by rfl) (by rfl)) (eql_run true _ _ _ _ _ _ _ _ _ _ _ _ _ _ _ (eqY r))
    · exact coreG_pick _ _ _ _ _ _ _ _ _ _ _ _ (by rfl) (by rfl) (wants_none) (known_core 3 54 _ _ (of_decide_eq_true (by rfl)) (by rfl) (by rfl) (by rfl)) (known_core 6 57 _ _ (of_decide_eq_true (by rfl)) (by rfl) (by rfl) (by rfl)) (known_const _) (by rfl)
    · exact coreG_move _ _ _ _ _ _ _ (by rfl) (by rfl) (wants_none) (known_core 7 58 _ _ (of_decide_eq_true (by rfl)) (by rfl) (by rfl) (by rfl))
    · exact coreG_move _ _ _ _ _ _ _ (by rfl) (by rfl) (wants_core 8 59 8 _ _ _ (by rfl) (by rfl) (by rfl) (known_core 8 59 _ _ (of_decide_eq_true (by rfl)) (by rfl) (by rfl) (by rfl)) _ (by rfl)) (known_old 5 _ (of_decide_eq_true (by rfl)) (by rfl))
    · exact coreG_move _ _ _ _ _ _ _ (by rfl) (by rfl) (wants_core 8 59 8 _ _ _ (by rfl) (by rfl) (by rfl) (known_core 8 59 _ _ (of_decide_eq_true (by rfl)) (by rfl) (by rfl) (by rfl)) _ (by rfl)) (known_old 8 _ (of_decide_eq_true (by rfl)) (by rfl))
    · exact coreG_bin _ _ _ _ _ _ _ _ _ _ _ _ _ (by rfl) (by rfl) (wants_core 8 59 8 _ _ _ (by rfl) (by rfl) (by rfl) (known_core 8 59 _ _ (of_decide_eq_true (by rfl)) (by rfl) (by rfl) (by rfl)) _ (by rfl)) (known_core 9 60 _ _ (of_decide_eq_true (by rfl)) (by rfl) (by rfl) (by rfl)) (known_core 10 61 _ _ (of_decide_eq_true (by rfl)) (by rfl) (by rfl) (by rfl)) ((fun ρ w hx hy => by simp only [execOp, hx, hy]; simp [go_sem]))
    · exact coreG_pick _ _ _ _ _ _ _ _ _ _ _ _ (by rfl) (by rfl) (wants_none) (known_core 8 59 _ _ (of_decide_eq_true (by rfl)) (by rfl) (by rfl) (by rfl)) (known_core 11 62 _ _ (of_decide_eq_true (by rfl)) (by rfl) (by rfl) (by rfl)) (known_const _) (by rfl)
    · exact coreG_move _ _ _ _ _ _ _ (by rfl) (by rfl) (wants_none) (known_core 12 63 _ _ (of_decide_eq_true (by rfl)) (by rfl) (by rfl) (by rfl))
    · exact coreG_loadP _ _ _ _ _ _ gu _ _ _ _ (by rfl) (by rfl) (wants_core 13 64 13 _ _ _ (by rfl) (by rfl) (by rfl) (known_core 13 64 _ _ (of_decide_eq_true (by rfl)) (by rfl) (by rfl) (by rfl)) _ (by rfl)) (known_old 9 _ (of_decide_eq_true (by rfl)) (by rfl)) (fun _ hs => hs.2.2.2.2.2.1)
    · exact coreG_loadP _ _ _ _ _ _ gv _ _ _ _ (by rfl) (by rfl) (wants_core 13 64 13 _ _ _ (by rfl) (by rfl) (by rfl) (known_core 13 64 _ _ (of_decide_eq_true (by rfl)) (by rfl) (by rfl) (by rfl)) _ (by rfl)) (known_old 11 _ (of_decide_eq_true (by rfl)) (by rfl)) (fun _ hs => hs.2.2.2.2.2.2)
    · exact coreG_bin _ _ _ _ _ _ _ _ _ _ _ _ _ (by rfl) (by rfl) (wants_core 13 64 13 _ _ _ (by rfl) (by rfl) (by rfl) (known_core 13 64 _ _ (of_decide_eq_true (by rfl)) (by rfl) (by rfl) (by rfl)) _ (by rfl)) (known_core 14 65 _ _ (of_decide_eq_true (by rfl)) (by rfl) (by rfl) (by rfl)) (known_core 15 66 _ _ (of_decide_eq_true (by rfl)) (by rfl) (by rfl) (by rfl)) (eql_run true _ _ _ _ _ _ _ _ _ _ _ _ _ _ _ (eqY W))
    · exact coreG_pick _ _ _ _ _ _ _ _ _ _ _ _ (by rfl) (by rfl) (wants_none) (known_core 13 64 _ _ (of_decide_eq_true (by rfl)) (by rfl) (by rfl) (by rfl)) (known_core 16 67 _ _ (of_decide_eq_true (by rfl)) (by rfl) (by rfl) (by rfl)) (known_const _) (by rfl)
    · exact coreG_move _ _ _ _ _ _ _ (by rfl) (by rfl) (wants_none) (known_core 17 68 _ _ (of_decide_eq_true (by rfl)) (by rfl) (by rfl) (by rfl))
    · exact coreG_move _ _ _ _ _ _ _ (by rfl) (by rfl) (wants_core 18 69 18 _ _ _ (by rfl) (by rfl) (by rfl) (known_core 18 69 _ _ (of_decide_eq_true (by rfl)) (by rfl) (by rfl) (by rfl)) _ (by rfl)) (known_old 10 _ (of_decide_eq_true (by rfl)) (by rfl))
    · exact coreG_move _ _ _ _ _ _ _ (by rfl) (by rfl) (wants_core 18 69 18 _ _ _ (by rfl) (by rfl) (by rfl) (known_core 18 69 _ _ (of_decide_eq_true (by rfl)) (by rfl) (by rfl) (by rfl)) _ (by rfl)) (known_old 12 _ (of_decide_eq_true (by rfl)) (by rfl))
    · exact coreG_bin _ _ _ _ _ _ _ _ _ _ _ _ _ (by rfl) (by rfl) (wants_core 18 69 18 _ _ _ (by rfl) (by rfl) (by rfl) (known_core 18 69 _ _ (of_decide_eq_true (by rfl)) (by rfl) (by rfl) (by rfl)) _ (by rfl)) (known_core 19 70 _ _ (of_decide_eq_true (by rfl)) (by rfl) (by rfl) (by rfl)) (known_core 20 71 _ _ (of_decide_eq_true (by rfl)) (by rfl) (by rfl) (by rfl)) ((fun ρ w hx hy => by simp only [execOp, hx, hy]; simp [go_sem]))
    · exact coreG_pick _ _ _ _ _ _ _ _ _ _ _ _ (by rfl) (by rfl) (wants_none) (known_core 18 69 _ _ (of_decide_eq_true (by rfl)) (by rfl) (by rfl) (by rfl)) (known_core 21 72 _ _ (of_decide_eq_true (by rfl)) (by rfl) (by rfl) (by rfl)) (known_const _) (by rfl)
    · exact coreG_move _ _ _ _ _ _ _ (by rfl) (by rfl) (wants_none) (known_core 22 73 _ _ (of_decide_eq_true (by rfl)) (by rfl) (by rfl) (by rfl))
    · exact coreG_pure _ _ _ _ _ _ _ (by rfl) (by rfl) (wants_core 23 74 23 _ _ _ (by rfl) (by rfl) (by rfl) (known_core 23 74 _ _ (of_decide_eq_true (by rfl)) (by rfl) (by rfl) (by rfl)) _ (by rfl)) (fun vs w hl hp w' _ => idx3_0 _ _ _ _ _ _ _ w' garr ((show Known _ _ [] (.tmp 1) (.pointer (some ⟨garr, 0, none⟩)) from known_old 1 _ (of_decide_eq_true (by rfl)) (by rfl)) vs w hl (fun _ h => by cases h)) rfl)
    · exact coreG_pure _ _ _ _ _ _ _ (by rfl) (by rfl) (wants_core 23 74 23 _ _ _ (by rfl) (by rfl) (by rfl) (known_core 23 74 _ _ (of_decide_eq_true (by rfl)) (by rfl) (by rfl) (by rfl)) _ (by rfl)) (fun vs w hl hp w' hs => load3_0 _ _ _ _ _ _ _ w' garr _ _ _ _ _ _ _ _ _ _ _ _ ((known_core 24 75 _ _ (of_decide_eq_true (by rfl)) (by rfl) (by rfl) (by rfl)) vs w hl hp) hs.1)
    · exact coreG_pure _ _ _ _ _ _ _ (by rfl) (by rfl) (wants_core 23 74 23 _ _ _ (by rfl) (by rfl) (by rfl) (known_core 23 74 _ _ (of_decide_eq_true (by rfl)) (by rfl) (by rfl) (by rfl)) _ (by rfl)) (fun vs w hl hp w' _ => idx3_1 _ _ _ _ _ _ _ w' garr ((show Known _ _ [] (.tmp 1) (.pointer (some ⟨garr, 0, none⟩)) from known_old 1 _ (of_decide_eq_true (by rfl)) (by rfl)) vs w hl (fun _ h => by cases h)) rfl)
    · exact coreG_pure _ _ _ _ _ _ _ (by rfl) (by rfl) (wants_core 23 74 23 _ _ _ (by rfl) (by rfl) (by rfl) (known_core 23 74 _ _ (of_decide_eq_true (by rfl)) (by rfl) (by rfl) (by rfl)) _ (by rfl)) (fun vs w hl hp w' hs => load3_1 _ _ _ _ _ _ _ w' garr _ _ _ _ _ _ _ _ _ _ _ _ ((known_core 26 77 _ _ (of_decide_eq_true (by rfl)) (by rfl) (by rfl) (by rfl)) vs w hl hp) hs.1)
    · exact coreG_pure _ _ _ _ _ _ _ (by rfl) (by rfl) (wants_core 23 74 23 _ _ _ (by rfl) (by rfl) (by rfl) (known_core 23 74 _ _ (of_decide_eq_true (by rfl)) (by rfl) (by rfl) (by rfl)) _ (by rfl)) (fun vs w hl hp w' _ => idx3_0 _ _ _ _ _ _ _ w' garr ((show Known _ _ [] (.tmp 1) (.pointer (some ⟨garr, 0, none⟩)) from known_old 1 _ (of_decide_eq_true (by rfl)) (by rfl)) vs w hl (fun _ h => by cases h)) rfl)
    · exact coreG_pure _ _ _ _ _ _ _ (by rfl) (by rfl) (wants_core 23 74 23 _ _ _ (by rfl) (by rfl) (by rfl) (known_core 23 74 _ _ (of_decide_eq_true (by rfl)) (by rfl) (by rfl) (by rfl)) _ (by rfl)) (fun vs w hl hp w' hs => load3_0 _ _ _ _ _ _ _ w' garr _ _ _ _ _ _ _ _ _ _ _ _ ((known_core 28 80 _ _ (of_decide_eq_true (by rfl)) (by rfl) (by rfl) (by rfl)) vs w hl hp) hs.1)
    · exact coreG_pure _ _ _ _ _ _ _ (by rfl) (by rfl) (wants_core 23 74 23 _ _ _ (by rfl) (by rfl) (by rfl) (known_core 23 74 _ _ (of_decide_eq_true (by rfl)) (by rfl) (by rfl) (by rfl)) _ (by rfl)) (fun vs w hl hp w' _ => idx3_1 _ _ _ _ _ _ _ w' garr ((show Known _ _ [] (.tmp 1) (.pointer (some ⟨garr, 0, none⟩)) from known_old 1 _ (of_decide_eq_true (by rfl)) (by rfl)) vs w hl (fun _ h => by cases h)) rfl)
    · exact coreG_pure _ _ _ _ _ _ _ (by rfl) (by rfl) (wants_core 23 74 23 _ _ _ (by rfl) (by rfl) (by rfl) (known_core 23 74 _ _ (of_decide_eq_true (by rfl)) (by rfl) (by rfl) (by rfl)) _ (by rfl)) (fun vs w hl hp w' hs => load3_1 _ _ _ _ _ _ _ w' garr _ _ _ _ _ _ _ _ _ _ _ _ ((known_core 30 82 _ _ (of_decide_eq_true (by rfl)) (by rfl) (by rfl) (by rfl)) vs w hl hp) hs.1)
    · exact core_pureAs _ (by rfl)
    · exact core_pureAs _ (by rfl)
    · exact coreG_bin _ _ _ _ _ _ _ _ _ _ _ _ _ (by rfl) (by rfl) (wants_core 23 74 23 _ _ _ (by rfl) (by rfl) (by rfl) (known_core 23 74 _ _ (of_decide_eq_true (by rfl)) (by rfl) (by rfl) (by rfl)) _ (by rfl)) (known_core 32 79 _ _ (of_decide_eq_true (by rfl)) (by rfl) (by rfl) (by rfl)) (known_core 33 84 _ _ (of_decide_eq_true (by rfl)) (by rfl) (by rfl) (by rfl)) (eql_run true _ _ _ _ _ _ _ _ _ _ _ _ _ _ _ (eqY G))
    · exact coreG_pick _ _ _ _ _ _ _ _ _ _ _ _ (by rfl) (by rfl) (wants_none) (known_core 23 74 _ _ (of_decide_eq_true (by rfl)) (by rfl) (by rfl) (by rfl)) (known_core 34 85 _ _ (of_decide_eq_true (by rfl)) (by rfl) (by rfl) (by rfl)) (known_const _) (by rfl)
  · refine all_cons ?_ (all_cons ?_ (all_cons ?_ (all_cons ?_ (all_cons ?_ (all_cons ?_ (all_cons ?_ (all_cons ?_ (all_cons ?_ (all_cons ?_ (all_cons ?_ (all_cons ?_ (all_cons ?_ (all_cons ?_ (all_cons ?_ (all_cons ?_ (all_cons ?_ (all_cons ?_ (all_cons ?_ (all_cons ?_ (all_cons ?_ (all_cons ?_ (all_cons ?_ (all_cons ?_ (all_cons ?_ (all_cons ?_ (all_cons ?_ (all_cons ?_ (all_cons ?_ (all_cons ?_ (all_cons ?_ (all_cons ?_ (all_cons ?_ (all_cons ?_ (all_cons ?_ (all_cons ?_ (all_nil))))))))))))))))))))))))))))))))))))
    · exact core_stepAs _ (by rfl)
    · exact core_stepAs _ (by rfl)
    · exact core_stepAs _ (by rfl)
    · exact core_stepAs _ (by rfl)
    · exact core_stepAs _ (by rfl)
    · exact core_stepAs _ (by rfl)
    · exact core_stepAs _ (by rfl)
    · exact core_stepAs _ (by rfl)
    · exact core_stepAs _ (by rfl)
    · exact core_stepAs _ (by rfl)
    · exact core_stepAs _ (by rfl)
    · exact core_stepAs _ (by rfl)
    · exact core_stepAs _ (by rfl)
    · exact core_stepAs _ (by rfl)
    · exact core_stepAs _ (by rfl)
    · exact core_stepAs _ (by rfl)
    · exact core_stepAs _ (by rfl)
    · exact core_stepAs _ (by rfl)
    · exact core_stepAs _ (by rfl)
    · exact core_stepAs _ (by rfl)
    · exact core_stepAs _ (by rfl)
    · exact core_stepAs _ (by rfl)
    · exact core_stepAs _ (by rfl)
    · exact core_stepAs _ (by rfl)
    · exact core_stepAs _ (by rfl)
    · exact core_stepAs _ (by rfl)
    · exact core_stepAs _ (by rfl)
    · exact core_stepAs _ (by rfl)
    · exact core_stepAs _ (by rfl)
    · exact core_stepAs _ (by rfl)
    · exact core_stepAs _ (by rfl)
    · exact core_stepAs _ (by rfl)
    · exact fun _ => coreG_call _ 15 _ _ [.tmp 76, .tmp 78] _ _ _ _ _ _ _ (by rfl) Try.func15 (by kernel_rfl) (by rfl) (by rfl) (wants_core 23 74 23 _ _ _ (by rfl) (by rfl) (by rfl) (known_core 23 74 _ _ (of_decide_eq_true (by rfl)) (by rfl) (by rfl) (by rfl)) _ (by rfl)) (.cons (known_core 25 76 _ _ (of_decide_eq_true (by rfl)) (by rfl) (by rfl) (by rfl)) (.cons (known_core 27 78 _ _ (of_decide_eq_true (by rfl)) (by rfl) (by rfl) (by rfl)) .nil)) (HC1.out)
    · exact fun _ => coreG_call _ 16 _ _ [.tmp 81, .tmp 83] _ _ _ _ _ _ _ (by rfl) Try.func16 (by kernel_rfl) (by rfl) (by rfl) (wants_core 23 74 23 _ _ _ (by rfl) (by rfl) (by rfl) (known_core 23 74 _ _ (of_decide_eq_true (by rfl)) (by rfl) (by rfl) (by rfl)) _ (by rfl)) (.cons (known_core 29 81 _ _ (of_decide_eq_true (by rfl)) (by rfl) (by rfl) (by rfl)) (.cons (known_core 31 83 _ _ (of_decide_eq_true (by rfl)) (by rfl) (by rfl) (by rfl)) .nil)) (HC2.out)
    · exact core_stepAs _ (by rfl)
    · exact core_stepAs _ (by rfl)
  intro vs y10 hc
  have BZ := bel_tr BW.out hc.bel
  refine assign_one (i := 36) (.tmp 86) 2 _ _ _ (.bool true) (by kernel_rfl) (by rfl) (hc.at_ (of_decide_eq_true (by kernel_rfl)) (by rfl) 35 86 _ (.bool true) (by rfl) (by rfl) (by rfl)) (⟨Farr.out.on hc.bel, Fq.out.on hc.bel, Fp.out.on hc.bel, Fy.out.on hc.bel, Fz.out.on hc.bel, Fu.out.on hc.bel, Fv.out.on hc.bel⟩) ?_
  refine wpAnyH_done (by kernel_rfl) ?_ _
  refine NoPanic.normal ?_
  generalize hA : Act.put (over _ _ vs) (some 2) (.bool true) = A
  have hA0 : A.tmps.getD 2 undef = .bool true := by rw [← hA]; exact put_at _ _ _ (by rw [over_size]; exact Nat.le_of_ble_eq_true rfl)
  have hAd : A.defers = [] := by rw [← hA, put_defers, over_defers]
  clear hA hc
  go_wp2_with fail
  refine bodyPost_ret (v := .bool true) (by simp [results, Try.results3, go_sem] at hA0 ⊢; simp [hA0]) hAd ⟨rfl, BZ⟩

theorem rdiv_both (X Y : Nat) (hX : X < 2 ^ 256) (hY : Y < 2 ^ 256) : ∃ (Q r : Nat) (e1 : Int), (∀ w, Calls Try.prog 11 #[num X, num Y] w fun e w' => e = .returned (.tuple #[num Q, num r, .int .i64 e1]) ∧ Below w.heap.size w w') ∧ (∀ w, Calls Try.prog 12 #[num X, num Y] w fun e w' => e = .returned (.tuple #[num Q, num r, .int .i64 e1]) ∧ Below w.heap.size w w') := by
  by_cases h : Y = 0
  · subst h; exact ⟨0, 0, 1, fun w => div_zero X w, fun w => rdiv_zero X w⟩
  · obtain ⟨Q, r, hQ, hr, he, C⟩ := div_ex X Y hX hY h
    have e1 : X / Y = Q := by rw [he, Nat.mul_comm, Nat.mul_add_div (by omega), Nat.div_eq_of_lt hr, Nat.add_zero]
    have e2 : X % Y = r := by rw [he, Nat.mul_comm, Nat.mul_add_mod, Nat.mod_eq_of_lt hr]
    have R := rdiv_any X Y hX hY h
    rw [e1, e2] at R
    exact ⟨Q, r, 0, C, R⟩
theorem rwide_both (X Y V : Nat) (hX : X < 2 ^ 256) (hY : Y < 2 ^ 256) (hV : V < 2 ^ 256) : ∃ (W : Nat) (e2 : Int), (∀ w, Calls Try.prog 13 #[num X, num Y, num V] w fun e w' => e = .returned (.tuple #[num W, .int .i64 e2]) ∧ Below w.heap.size w w') ∧ (∀ w, Calls Try.prog 14 #[num X, num Y, num V] w fun e w' => e = .returned (.tuple #[num W, .int .i64 e2]) ∧ Below w.heap.size w w') := by
  by_cases h : V = 0
  · subst h; exact ⟨0, 1, fun w => wide_none X Y w, fun w => rwide_zero X Y w⟩
  · obtain ⟨W, hW, he, C⟩ := wide_ex X Y V hX hY hV h
    by_cases hv : V < 18446744073709551616
    · have R := rwide_word X Y V hX hY hv h
      rw [← he] at R
      exact ⟨W, 0, C, R⟩
    · have WV := rword_any V hV
      rw [show decide (V < 18446744073709551616) = false from decide_eq_false hv] at WV
      have R := rwide_long X Y V hX hY hV (by omega) (fun w => by rw [eqZ V hV]; simp [h]) WV
      rw [← he] at R
      exact ⟨W, 0, C, R⟩
theorem rcom_any (X Y : Nat) (hX : X < 2 ^ 256) (hY : Y < 2 ^ 256) (w : World) : Calls Try.prog 16 #[num X, num Y] w fun e w' => e = .returned (num (Nat.gcd X Y)) ∧ Below w.heap.size w w' := by
  refine rcommon_any (fun A B hA hB h0 => ?_) X Y hX hY w
  have hB0 : 0 < B := by omega
  exact ⟨A / B, A % B, Nat.mod_lt _ hB0, by rw [Nat.mul_comm]; exact (Nat.div_add_mod _ _).symm, fun w => rdiv_any A B hA hB h0 w⟩
theorem dof_walk (X Y V : Nat) (hX : X < 2 ^ 256) (hY : Y < 2 ^ 256) (hV : V < 2 ^ 256) (w : World) : Calls Try.prog 3 #[.agg #[.int .u64 (wd X 0 : Nat), .int .u64 (wd X 1 : Nat), .int .u64 (wd X 2 : Nat), .int .u64 (wd X 3 : Nat), .int .u64 (wd Y 0 : Nat), .int .u64 (wd Y 1 : Nat), .int .u64 (wd Y 2 : Nat), .int .u64 (wd Y 3 : Nat), .int .u64 (wd V 0 : Nat), .int .u64 (wd V 1 : Nat), .int .u64 (wd V 2 : Nat), .int .u64 (wd V 3 : Nat)]] w fun e w' => e = .returned (.bool true) ∧ Below w.heap.size w w' := by
  obtain ⟨Q, r, e1, D1, D2⟩ := rdiv_both X Y hX hY
  obtain ⟨W, e2, W1, W2⟩ := rwide_both X Y V hX hY hV
  exact dof_some X Y V Q r W _ e1 e2 D1 D2 W1 W2 (fun w => common_any X Y hX hY w) (fun w => rcom_any X Y hX hY w) w
end Go.Proofs.Ytmhmdbjjmmmgkaa
