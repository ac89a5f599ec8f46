/-
  The walk of LimbsOf: it answers true, and nothing that was there is changed.
-/
import Derived.Test.YtgfgicpffajgdaaRShift
import Derived.Test.YtgfgicpffajgdaaRMul
import Derived.Test.YtgfgicpffajgdaaRbits
import Derived.Test.YtgfgicpffajgdaaChain
import Derived.Test.YtgfgicpffajgdaaLens
import Derived.Test.YtgfgicpffajgdaaEq
namespace Go.Proofs.Ytgfgicpffajgdaa
open Go.RowKit
attribute [local go_sem ↓] Go.wp_at_zero Go.wp_at_succ

theorem index1_run (dst : Option Tmp) (ty : TypeId) (pos : String) (after : Array Edge) (gd : Option (Nat × Bool)) (x : Operand) (ρ : Operand → Value) (w : World) (g : Nat) (hx : ρ x = .pointer (some ⟨g, 0, none⟩)) (hc : ρ (.const (.int .i64 1)) = .int .i64 1) :
    (execOp ρ ⟨dst, .indexAddr 24 x (.const (.int .i64 1)), ty, pos, after, gd⟩).run Try.prog w = .ok (.value (.pointer (some ⟨g, 1, none⟩))) w := by
  simp [execOp, hx, hc, go_sem]
theorem load1_run (x : Operand) (dst : Option Tmp) (ty : TypeId) (pos : String) (after : Array Edge) (gd : Option (Nat × Bool)) (ρ : Operand → Value) (w : World) (g : Nat) (u0 u1 u2 u3 : Value)
    (hx : ρ x = .pointer (some ⟨g, 1, none⟩)) (h : At w g 24 #[u0, u1, u2, u3]) :
    (execOp ρ ⟨dst, .load 22 x, ty, pos, after, gd⟩).run Try.prog w = .ok (.value u1) w := by
  have c1 : w.cell? ⟨g, 1, none⟩ = some u1 := h.cell 1
  simp [execOp, hx, go_sem, c1]

set_option maxRecDepth 100000 in
set_option maxHeartbeats 8000000 in
theorem of_some (X Y S c D l L H V bl z T : Nat)
    (cm : Int)
    (n : Int)
    (AD : ∀ w, Calls Try.prog 13 #[num X, num Y] w fun e w' => e = .returned (.tuple #[num S, .int .u64 (c : Nat)]) ∧ Below w.heap.size w w')
    (ADr : ∀ w, Calls Try.prog 16 #[num X, num Y] w fun e w' => e = .returned (.tuple #[num S, .int .u64 (c : Nat)]) ∧ Below w.heap.size w w')
    (SU : ∀ w, Calls Try.prog 14 #[num X, num Y] w fun e w' => e = .returned (.tuple #[num D, .int .u64 (l : Nat)]) ∧ Below w.heap.size w w')
    (SUr : ∀ w, Calls Try.prog 17 #[num X, num Y] w fun e w' => e = .returned (.tuple #[num D, .int .u64 (l : Nat)]) ∧ Below w.heap.size w w')
    (MU : ∀ w, Calls Try.prog 15 #[num X, num Y] w fun e w' => e = .returned (.tuple #[num L, num H]) ∧ Below w.heap.size w w')
    (MUr : ∀ w, Calls Try.prog 18 #[num X, num Y] w fun e w' => e = .returned (.tuple #[num L, num H]) ∧ Below w.heap.size w w')
    (OF : ∀ w, Calls Try.prog 19 #[.int .u64 (wd X 1 : Nat)] w fun e w' => e = .returned (num V) ∧ Below w.heap.size w w')
    (OFr : ∀ w, Calls Try.prog 20 #[.int .u64 (wd X 1 : Nat)] w fun e w' => e = .returned (num V) ∧ Below w.heap.size w w')
    (CM : ∀ w, Calls Try.prog 21 #[num X, num Y] w fun e w' => e = .returned (.int .i64 cm) ∧ Below w.heap.size w w')
    (CMr : ∀ w, Calls Try.prog 22 #[num X, num Y] w fun e w' => e = .returned (.int .i64 cm) ∧ Below w.heap.size w w')
    (BS : ∀ w, Calls Try.prog 23 #[num X] w fun e w' => e = .returned (.int .i64 (bl : Nat)) ∧ Below w.heap.size w w')
    (BSr : ∀ w, Calls Try.prog 24 #[num X] w fun e w' => e = .returned (.int .i64 (bl : Nat)) ∧ Below w.heap.size w w')
    (BT : ∀ w, Calls Try.prog 25 #[num X, .int .i64 n] w fun e w' => e = .returned (.int .u64 (z : Nat)) ∧ Below w.heap.size w w')
    (BTr : ∀ w, Calls Try.prog 26 #[num X, .int .i64 n] w fun e w' => e = .returned (.int .u64 (z : Nat)) ∧ Below w.heap.size w w')
    (SH : ∀ w, Calls Try.prog 27 #[num X, .int .i64 n] w fun e w' => e = .returned (num T) ∧ Below w.heap.size w w')
    (SHr : ∀ w, Calls Try.prog 28 #[num X, .int .i64 n] w fun e w' => e = .returned (num T) ∧ Below w.heap.size w w')
    (w : World) : Calls Try.prog 3 #[num X, num Y, .int .i64 n] w fun e w' => e = .returned (.bool true) ∧ Below w.heap.size w w' := by
  have HAD := Lib.hid AD
  have HADr := Lib.hid ADr
  have HSU := Lib.hid SU
  have HSUr := Lib.hid SUr
  have HMU := Lib.hid MU
  have HMUr := Lib.hid MUr
  have HOF := Lib.hid OF
  have HOFr := Lib.hid OFr
  have HCM := Lib.hid CM
  have HCMr := Lib.hid CMr
  have HBS := Lib.hid BS
  have HBSr := Lib.hid BSr
  have HBT := Lib.hid BT
  have HBTr := Lib.hid BTr
  have HSH := Lib.hid SH
  have HSHr := Lib.hid SHr
  clear AD ADr SU SUr MU MUr OF OFr CM CMr BS BSr BT BTr SH SHr
  go_enter Try.func3, Try.ntmps3
  go_wp2_with fail
  have BW := Lib.hid (Below.refl w.heap.size w)
  have Na : At ((w.alloc (.cells #[.int .u64 (wd X 0 : Nat), .int .u64 (wd X 1 : Nat), .int .u64 (wd X 2 : Nat), .int .u64 (wd X 3 : Nat)] 24)).alloc (.cells #[.int .u64 (wd Y 0 : Nat), .int .u64 (wd Y 1 : Nat), .int .u64 (wd Y 2 : Nat), .int .u64 (wd Y 3 : Nat)] 24)) (w.heap.size) 24 #[.int .u64 (wd X 0 : Nat), .int .u64 (wd X 1 : Nat), .int .u64 (wd X 2 : Nat), .int .u64 (wd X 3 : Nat)] := (At.at_ _ _ _ _ (by simp)).alloc _
  have Nb : At ((w.alloc (.cells #[.int .u64 (wd X 0 : Nat), .int .u64 (wd X 1 : Nat), .int .u64 (wd X 2 : Nat), .int .u64 (wd X 3 : Nat)] 24)).alloc (.cells #[.int .u64 (wd Y 0 : Nat), .int .u64 (wd Y 1 : Nat), .int .u64 (wd Y 2 : Nat), .int .u64 (wd Y 3 : Nat)] 24)) (w.heap.size + 1) 24 #[.int .u64 (wd Y 0 : Nat), .int .u64 (wd Y 1 : Nat), .int .u64 (wd Y 2 : Nat), .int .u64 (wd Y 3 : Nat)] := At.at_ _ _ _ _ (by simp)
  have NB : Below w.heap.size w ((w.alloc (.cells #[.int .u64 (wd X 0 : Nat), .int .u64 (wd X 1 : Nat), .int .u64 (wd X 2 : Nat), .int .u64 (wd X 3 : Nat)] 24)).alloc (.cells #[.int .u64 (wd Y 0 : Nat), .int .u64 (wd Y 1 : Nat), .int .u64 (wd Y 2 : Nat), .int .u64 (wd Y 3 : Nat)] 24)) := gr_alloc (gr_alloc BW.out _) _
  clear BW 
  generalize ((w.alloc (.cells #[.int .u64 (wd X 0 : Nat), .int .u64 (wd X 1 : Nat), .int .u64 (wd X 2 : Nat), .int .u64 (wd X 3 : Nat)] 24)).alloc (.cells #[.int .u64 (wd Y 0 : Nat), .int .u64 (wd Y 1 : Nat), .int .u64 (wd Y 2 : Nat), .int .u64 (wd Y 3 : Nat)] 24)) = W1 at *
  generalize w.heap.size + 1 = gb at *
  obtain ⟨ga, hg0⟩ : ∃ g, g = w.heap.size := ⟨_, rfl⟩
  rw [← hg0] at Na ⊢
  clear hg0
  have Fa := Lib.hid Na
  have Fb := Lib.hid Nb
  have BW := Lib.hid NB
  clear NB Na Nb
  refine (HAD.out _).mono ?_
  rintro e v2 ⟨rfl, z2⟩
  have Na := Lib.hid (Fa.out.on z2)
  have Nb := Lib.hid (Fb.out.on z2)
  have NB := Lib.hid (bel_tr BW.out z2)
  clear BW z2 Fa Fb
  have Fa := Na
  have Fb := Nb
  have BW := NB
  clear NB Na Nb
  have La := Fa.out.lt
  have ca0 : v2.cell? ⟨ga, 0, none⟩ = some (.int .u64 (wd X 0 : Nat)) := Fa.out.cell 0
  have ca1 : v2.cell? ⟨ga, 1, none⟩ = some (.int .u64 (wd X 1 : Nat)) := Fa.out.cell 1
  have ca2 : v2.cell? ⟨ga, 2, none⟩ = some (.int .u64 (wd X 2 : Nat)) := Fa.out.cell 2
  have ca3 : v2.cell? ⟨ga, 3, none⟩ = some (.int .u64 (wd X 3 : Nat)) := Fa.out.cell 3
  have Lb := Fb.out.lt
  have cb0 : v2.cell? ⟨gb, 0, none⟩ = some (.int .u64 (wd Y 0 : Nat)) := Fb.out.cell 0
  have cb1 : v2.cell? ⟨gb, 1, none⟩ = some (.int .u64 (wd Y 1 : Nat)) := Fb.out.cell 1
  have cb2 : v2.cell? ⟨gb, 2, none⟩ = some (.int .u64 (wd Y 2 : Nat)) := Fb.out.cell 2
  have cb3 : v2.cell? ⟨gb, 3, none⟩ = some (.int .u64 (wd Y 3 : Nat)) := Fb.out.cell 3
  go_wp2_with fail
  clear La ca0 ca1 ca2 ca3 Lb cb0 cb1 cb2 cb3
  have Ns : At (v2.alloc (.cells #[.int .u64 (wd S 0 : Nat), .int .u64 (wd S 1 : Nat), .int .u64 (wd S 2 : Nat), .int .u64 (wd S 3 : Nat)] 24)) (v2.heap.size) 24 #[.int .u64 (wd S 0 : Nat), .int .u64 (wd S 1 : Nat), .int .u64 (wd S 2 : Nat), .int .u64 (wd S 3 : Nat)] := At.at_ _ _ _ _ (by simp)
  have Na : At (v2.alloc (.cells #[.int .u64 (wd S 0 : Nat), .int .u64 (wd S 1 : Nat), .int .u64 (wd S 2 : Nat), .int .u64 (wd S 3 : Nat)] 24)) ga 24 #[.int .u64 (wd X 0 : Nat), .int .u64 (wd X 1 : Nat), .int .u64 (wd X 2 : Nat), .int .u64 (wd X 3 : Nat)] := Fa.out.alloc _
  have Nb : At (v2.alloc (.cells #[.int .u64 (wd S 0 : Nat), .int .u64 (wd S 1 : Nat), .int .u64 (wd S 2 : Nat), .int .u64 (wd S 3 : Nat)] 24)) gb 24 #[.int .u64 (wd Y 0 : Nat), .int .u64 (wd Y 1 : Nat), .int .u64 (wd Y 2 : Nat), .int .u64 (wd Y 3 : Nat)] := Fb.out.alloc _
  have NB : Below w.heap.size w (v2.alloc (.cells #[.int .u64 (wd S 0 : Nat), .int .u64 (wd S 1 : Nat), .int .u64 (wd S 2 : Nat), .int .u64 (wd S 3 : Nat)] 24)) := gr_alloc BW.out _
  clear BW Fa Fb
  generalize (v2.alloc (.cells #[.int .u64 (wd S 0 : Nat), .int .u64 (wd S 1 : Nat), .int .u64 (wd S 2 : Nat), .int .u64 (wd S 3 : Nat)] 24)) = W3 at *
  generalize v2.heap.size = gs at *
  have Fa := Lib.hid Na
  have Fb := Lib.hid Nb
  have Fs := Lib.hid Ns
  have BW := Lib.hid NB
  clear NB Na Nb Ns
  refine (HSU.out _).mono ?_
  rintro e v4 ⟨rfl, z4⟩
  have Na := Lib.hid (Fa.out.on z4)
  have Nb := Lib.hid (Fb.out.on z4)
  have Ns := Lib.hid (Fs.out.on z4)
  have NB := Lib.hid (bel_tr BW.out z4)
  clear BW z4 Fa Fb Fs
  have Fa := Na
  have Fb := Nb
  have Fs := Ns
  have BW := NB
  clear NB Na Nb Ns
  have La := Fa.out.lt
  have ca0 : v4.cell? ⟨ga, 0, none⟩ = some (.int .u64 (wd X 0 : Nat)) := Fa.out.cell 0
  have ca1 : v4.cell? ⟨ga, 1, none⟩ = some (.int .u64 (wd X 1 : Nat)) := Fa.out.cell 1
  have ca2 : v4.cell? ⟨ga, 2, none⟩ = some (.int .u64 (wd X 2 : Nat)) := Fa.out.cell 2
  have ca3 : v4.cell? ⟨ga, 3, none⟩ = some (.int .u64 (wd X 3 : Nat)) := Fa.out.cell 3
  have Lb := Fb.out.lt
  have cb0 : v4.cell? ⟨gb, 0, none⟩ = some (.int .u64 (wd Y 0 : Nat)) := Fb.out.cell 0
  have cb1 : v4.cell? ⟨gb, 1, none⟩ = some (.int .u64 (wd Y 1 : Nat)) := Fb.out.cell 1
  have cb2 : v4.cell? ⟨gb, 2, none⟩ = some (.int .u64 (wd Y 2 : Nat)) := Fb.out.cell 2
  have cb3 : v4.cell? ⟨gb, 3, none⟩ = some (.int .u64 (wd Y 3 : Nat)) := Fb.out.cell 3
  go_wp2_with fail
  clear La ca0 ca1 ca2 ca3 Lb cb0 cb1 cb2 cb3
  have Nd : At (v4.alloc (.cells #[.int .u64 (wd D 0 : Nat), .int .u64 (wd D 1 : Nat), .int .u64 (wd D 2 : Nat), .int .u64 (wd D 3 : Nat)] 24)) (v4.heap.size) 24 #[.int .u64 (wd D 0 : Nat), .int .u64 (wd D 1 : Nat), .int .u64 (wd D 2 : Nat), .int .u64 (wd D 3 : Nat)] := At.at_ _ _ _ _ (by simp)
  have Na : At (v4.alloc (.cells #[.int .u64 (wd D 0 : Nat), .int .u64 (wd D 1 : Nat), .int .u64 (wd D 2 : Nat), .int .u64 (wd D 3 : Nat)] 24)) ga 24 #[.int .u64 (wd X 0 : Nat), .int .u64 (wd X 1 : Nat), .int .u64 (wd X 2 : Nat), .int .u64 (wd X 3 : Nat)] := Fa.out.alloc _
  have Nb : At (v4.alloc (.cells #[.int .u64 (wd D 0 : Nat), .int .u64 (wd D 1 : Nat), .int .u64 (wd D 2 : Nat), .int .u64 (wd D 3 : Nat)] 24)) gb 24 #[.int .u64 (wd Y 0 : Nat), .int .u64 (wd Y 1 : Nat), .int .u64 (wd Y 2 : Nat), .int .u64 (wd Y 3 : Nat)] := Fb.out.alloc _
  have Ns : At (v4.alloc (.cells #[.int .u64 (wd D 0 : Nat), .int .u64 (wd D 1 : Nat), .int .u64 (wd D 2 : Nat), .int .u64 (wd D 3 : Nat)] 24)) gs 24 #[.int .u64 (wd S 0 : Nat), .int .u64 (wd S 1 : Nat), .int .u64 (wd S 2 : Nat), .int .u64 (wd S 3 : Nat)] := Fs.out.alloc _
  have NB : Below w.heap.size w (v4.alloc (.cells #[.int .u64 (wd D 0 : Nat), .int .u64 (wd D 1 : Nat), .int .u64 (wd D 2 : Nat), .int .u64 (wd D 3 : Nat)] 24)) := gr_alloc BW.out _
  clear BW Fa Fb Fs
  generalize (v4.alloc (.cells #[.int .u64 (wd D 0 : Nat), .int .u64 (wd D 1 : Nat), .int .u64 (wd D 2 : Nat), .int .u64 (wd D 3 : Nat)] 24)) = W5 at *
  generalize v4.heap.size = gd at *
  have Fa := Lib.hid Na
  have Fb := Lib.hid Nb
  have Fs := Lib.hid Ns
  have Fd := Lib.hid Nd
  have BW := Lib.hid NB
  clear NB Na Nb Ns Nd
  refine (HMU.out _).mono ?_
  rintro e v6 ⟨rfl, z6⟩
  have Na := Lib.hid (Fa.out.on z6)
  have Nb := Lib.hid (Fb.out.on z6)
  have Ns := Lib.hid (Fs.out.on z6)
  have Nd := Lib.hid (Fd.out.on z6)
  have NB := Lib.hid (bel_tr BW.out z6)
  clear BW z6 Fa Fb Fs Fd
  have Fa := Na
  have Fb := Nb
  have Fs := Ns
  have Fd := Nd
  have BW := NB
  clear NB Na Nb Ns Nd
  have La := Fa.out.lt
  have ca0 : v6.cell? ⟨ga, 0, none⟩ = some (.int .u64 (wd X 0 : Nat)) := Fa.out.cell 0
  have ca1 : v6.cell? ⟨ga, 1, none⟩ = some (.int .u64 (wd X 1 : Nat)) := Fa.out.cell 1
  have ca2 : v6.cell? ⟨ga, 2, none⟩ = some (.int .u64 (wd X 2 : Nat)) := Fa.out.cell 2
  have ca3 : v6.cell? ⟨ga, 3, none⟩ = some (.int .u64 (wd X 3 : Nat)) := Fa.out.cell 3
  have Lb := Fb.out.lt
  have cb0 : v6.cell? ⟨gb, 0, none⟩ = some (.int .u64 (wd Y 0 : Nat)) := Fb.out.cell 0
  have cb1 : v6.cell? ⟨gb, 1, none⟩ = some (.int .u64 (wd Y 1 : Nat)) := Fb.out.cell 1
  have cb2 : v6.cell? ⟨gb, 2, none⟩ = some (.int .u64 (wd Y 2 : Nat)) := Fb.out.cell 2
  have cb3 : v6.cell? ⟨gb, 3, none⟩ = some (.int .u64 (wd Y 3 : Nat)) := Fb.out.cell 3
  go_wp2_with fail
  clear La ca0 ca1 ca2 ca3 Lb cb0 cb1 cb2 cb3
  have Nlo : At ((v6.alloc (.cells #[.int .u64 (wd L 0 : Nat), .int .u64 (wd L 1 : Nat), .int .u64 (wd L 2 : Nat), .int .u64 (wd L 3 : Nat)] 24)).alloc (.cells #[.int .u64 (wd H 0 : Nat), .int .u64 (wd H 1 : Nat), .int .u64 (wd H 2 : Nat), .int .u64 (wd H 3 : Nat)] 24)) (v6.heap.size) 24 #[.int .u64 (wd L 0 : Nat), .int .u64 (wd L 1 : Nat), .int .u64 (wd L 2 : Nat), .int .u64 (wd L 3 : Nat)] := (At.at_ _ _ _ _ (by simp)).alloc _
  have Nhi : At ((v6.alloc (.cells #[.int .u64 (wd L 0 : Nat), .int .u64 (wd L 1 : Nat), .int .u64 (wd L 2 : Nat), .int .u64 (wd L 3 : Nat)] 24)).alloc (.cells #[.int .u64 (wd H 0 : Nat), .int .u64 (wd H 1 : Nat), .int .u64 (wd H 2 : Nat), .int .u64 (wd H 3 : Nat)] 24)) (v6.heap.size + 1) 24 #[.int .u64 (wd H 0 : Nat), .int .u64 (wd H 1 : Nat), .int .u64 (wd H 2 : Nat), .int .u64 (wd H 3 : Nat)] := At.at_ _ _ _ _ (by simp)
  have Na : At ((v6.alloc (.cells #[.int .u64 (wd L 0 : Nat), .int .u64 (wd L 1 : Nat), .int .u64 (wd L 2 : Nat), .int .u64 (wd L 3 : Nat)] 24)).alloc (.cells #[.int .u64 (wd H 0 : Nat), .int .u64 (wd H 1 : Nat), .int .u64 (wd H 2 : Nat), .int .u64 (wd H 3 : Nat)] 24)) ga 24 #[.int .u64 (wd X 0 : Nat), .int .u64 (wd X 1 : Nat), .int .u64 (wd X 2 : Nat), .int .u64 (wd X 3 : Nat)] := (Fa.out.alloc _).alloc _
  have Nb : At ((v6.alloc (.cells #[.int .u64 (wd L 0 : Nat), .int .u64 (wd L 1 : Nat), .int .u64 (wd L 2 : Nat), .int .u64 (wd L 3 : Nat)] 24)).alloc (.cells #[.int .u64 (wd H 0 : Nat), .int .u64 (wd H 1 : Nat), .int .u64 (wd H 2 : Nat), .int .u64 (wd H 3 : Nat)] 24)) gb 24 #[.int .u64 (wd Y 0 : Nat), .int .u64 (wd Y 1 : Nat), .int .u64 (wd Y 2 : Nat), .int .u64 (wd Y 3 : Nat)] := (Fb.out.alloc _).alloc _
  have Ns : At ((v6.alloc (.cells #[.int .u64 (wd L 0 : Nat), .int .u64 (wd L 1 : Nat), .int .u64 (wd L 2 : Nat), .int .u64 (wd L 3 : Nat)] 24)).alloc (.cells #[.int .u64 (wd H 0 : Nat), .int .u64 (wd H 1 : Nat), .int .u64 (wd H 2 : Nat), .int .u64 (wd H 3 : Nat)] 24)) gs 24 #[.int .u64 (wd S 0 : Nat), .int .u64 (wd S 1 : Nat), .int .u64 (wd S 2 : Nat), .int .u64 (wd S 3 : Nat)] := (Fs.out.alloc _).alloc _
  have Nd : At ((v6.alloc (.cells #[.int .u64 (wd L 0 : Nat), .int .u64 (wd L 1 : Nat), .int .u64 (wd L 2 : Nat), .int .u64 (wd L 3 : Nat)] 24)).alloc (.cells #[.int .u64 (wd H 0 : Nat), .int .u64 (wd H 1 : Nat), .int .u64 (wd H 2 : Nat), .int .u64 (wd H 3 : Nat)] 24)) gd 24 #[.int .u64 (wd D 0 : Nat), .int .u64 (wd D 1 : Nat), .int .u64 (wd D 2 : Nat), .int .u64 (wd D 3 : Nat)] := (Fd.out.alloc _).alloc _
  have NB : Below w.heap.size w ((v6.alloc (.cells #[.int .u64 (wd L 0 : Nat), .int .u64 (wd L 1 : Nat), .int .u64 (wd L 2 : Nat), .int .u64 (wd L 3 : Nat)] 24)).alloc (.cells #[.int .u64 (wd H 0 : Nat), .int .u64 (wd H 1 : Nat), .int .u64 (wd H 2 : Nat), .int .u64 (wd H 3 : Nat)] 24)) := gr_alloc (gr_alloc BW.out _) _
  clear BW Fa Fb Fs Fd
  generalize ((v6.alloc (.cells #[.int .u64 (wd L 0 : Nat), .int .u64 (wd L 1 : Nat), .int .u64 (wd L 2 : Nat), .int .u64 (wd L 3 : Nat)] 24)).alloc (.cells #[.int .u64 (wd H 0 : Nat), .int .u64 (wd H 1 : Nat), .int .u64 (wd H 2 : Nat), .int .u64 (wd H 3 : Nat)] 24)) = W7 at *
  generalize v6.heap.size + 1 = ghi at *
  generalize v6.heap.size = glo at *
  have Fa := Lib.hid Na
  have Fb := Lib.hid Nb
  have Fs := Lib.hid Ns
  have Fd := Lib.hid Nd
  have Flo := Lib.hid Nlo
  have Fhi := Lib.hid Nhi
  have BW := Lib.hid NB
  clear NB Na Nb Ns Nd Nlo Nhi
  refine (HADr.out _).mono ?_
  rintro e v8 ⟨rfl, z8⟩
  have Na := Lib.hid (Fa.out.on z8)
  have Nb := Lib.hid (Fb.out.on z8)
  have Ns := Lib.hid (Fs.out.on z8)
  have Nd := Lib.hid (Fd.out.on z8)
  have Nlo := Lib.hid (Flo.out.on z8)
  have Nhi := Lib.hid (Fhi.out.on z8)
  have NB := Lib.hid (bel_tr BW.out z8)
  clear BW z8 Fa Fb Fs Fd Flo Fhi
  have Fa := Na
  have Fb := Nb
  have Fs := Ns
  have Fd := Nd
  have Flo := Nlo
  have Fhi := Nhi
  have BW := NB
  clear NB Na Nb Ns Nd Nlo Nhi
  have La := Fa.out.lt
  have ca0 : v8.cell? ⟨ga, 0, none⟩ = some (.int .u64 (wd X 0 : Nat)) := Fa.out.cell 0
  have ca1 : v8.cell? ⟨ga, 1, none⟩ = some (.int .u64 (wd X 1 : Nat)) := Fa.out.cell 1
  have ca2 : v8.cell? ⟨ga, 2, none⟩ = some (.int .u64 (wd X 2 : Nat)) := Fa.out.cell 2
  have ca3 : v8.cell? ⟨ga, 3, none⟩ = some (.int .u64 (wd X 3 : Nat)) := Fa.out.cell 3
  have Lb := Fb.out.lt
  have cb0 : v8.cell? ⟨gb, 0, none⟩ = some (.int .u64 (wd Y 0 : Nat)) := Fb.out.cell 0
  have cb1 : v8.cell? ⟨gb, 1, none⟩ = some (.int .u64 (wd Y 1 : Nat)) := Fb.out.cell 1
  have cb2 : v8.cell? ⟨gb, 2, none⟩ = some (.int .u64 (wd Y 2 : Nat)) := Fb.out.cell 2
  have cb3 : v8.cell? ⟨gb, 3, none⟩ = some (.int .u64 (wd Y 3 : Nat)) := Fb.out.cell 3
  go_wp2_with fail
  clear La ca0 ca1 ca2 ca3 Lb cb0 cb1 cb2 cb3
  have Nt : At (v8.alloc (.cells #[.int .u64 (wd S 0 : Nat), .int .u64 (wd S 1 : Nat), .int .u64 (wd S 2 : Nat), .int .u64 (wd S 3 : Nat)] 24)) (v8.heap.size) 24 #[.int .u64 (wd S 0 : Nat), .int .u64 (wd S 1 : Nat), .int .u64 (wd S 2 : Nat), .int .u64 (wd S 3 : Nat)] := At.at_ _ _ _ _ (by simp)
  have Na : At (v8.alloc (.cells #[.int .u64 (wd S 0 : Nat), .int .u64 (wd S 1 : Nat), .int .u64 (wd S 2 : Nat), .int .u64 (wd S 3 : Nat)] 24)) ga 24 #[.int .u64 (wd X 0 : Nat), .int .u64 (wd X 1 : Nat), .int .u64 (wd X 2 : Nat), .int .u64 (wd X 3 : Nat)] := Fa.out.alloc _
  have Nb : At (v8.alloc (.cells #[.int .u64 (wd S 0 : Nat), .int .u64 (wd S 1 : Nat), .int .u64 (wd S 2 : Nat), .int .u64 (wd S 3 : Nat)] 24)) gb 24 #[.int .u64 (wd Y 0 : Nat), .int .u64 (wd Y 1 : Nat), .int .u64 (wd Y 2 : Nat), .int .u64 (wd Y 3 : Nat)] := Fb.out.alloc _
  have Ns : At (v8.alloc (.cells #[.int .u64 (wd S 0 : Nat), .int .u64 (wd S 1 : Nat), .int .u64 (wd S 2 : Nat), .int .u64 (wd S 3 : Nat)] 24)) gs 24 #[.int .u64 (wd S 0 : Nat), .int .u64 (wd S 1 : Nat), .int .u64 (wd S 2 : Nat), .int .u64 (wd S 3 : Nat)] := Fs.out.alloc _
  have Nd : At (v8.alloc (.cells #[.int .u64 (wd S 0 : Nat), .int .u64 (wd S 1 : Nat), .int .u64 (wd S 2 : Nat), .int .u64 (wd S 3 : Nat)] 24)) gd 24 #[.int .u64 (wd D 0 : Nat), .int .u64 (wd D 1 : Nat), .int .u64 (wd D 2 : Nat), .int .u64 (wd D 3 : Nat)] := Fd.out.alloc _
  have Nlo : At (v8.alloc (.cells #[.int .u64 (wd S 0 : Nat), .int .u64 (wd S 1 : Nat), .int .u64 (wd S 2 : Nat), .int .u64 (wd S 3 : Nat)] 24)) glo 24 #[.int .u64 (wd L 0 : Nat), .int .u64 (wd L 1 : Nat), .int .u64 (wd L 2 : Nat), .int .u64 (wd L 3 : Nat)] := Flo.out.alloc _
  have Nhi : At (v8.alloc (.cells #[.int .u64 (wd S 0 : Nat), .int .u64 (wd S 1 : Nat), .int .u64 (wd S 2 : Nat), .int .u64 (wd S 3 : Nat)] 24)) ghi 24 #[.int .u64 (wd H 0 : Nat), .int .u64 (wd H 1 : Nat), .int .u64 (wd H 2 : Nat), .int .u64 (wd H 3 : Nat)] := Fhi.out.alloc _
  have NB : Below w.heap.size w (v8.alloc (.cells #[.int .u64 (wd S 0 : Nat), .int .u64 (wd S 1 : Nat), .int .u64 (wd S 2 : Nat), .int .u64 (wd S 3 : Nat)] 24)) := gr_alloc BW.out _
  clear BW Fa Fb Fs Fd Flo Fhi
  generalize (v8.alloc (.cells #[.int .u64 (wd S 0 : Nat), .int .u64 (wd S 1 : Nat), .int .u64 (wd S 2 : Nat), .int .u64 (wd S 3 : Nat)] 24)) = W9 at *
  generalize v8.heap.size = gt at *
  have Fa := Lib.hid Na
  have Fb := Lib.hid Nb
  have Fs := Lib.hid Ns
  have Fd := Lib.hid Nd
  have Flo := Lib.hid Nlo
  have Fhi := Lib.hid Nhi
  have Ft := Lib.hid Nt
  have BW := Lib.hid NB
  clear NB Na Nb Ns Nd Nlo Nhi Nt
  refine (HSUr.out _).mono ?_
  rintro e v10 ⟨rfl, z10⟩
  have Na := Lib.hid (Fa.out.on z10)
  have Nb := Lib.hid (Fb.out.on z10)
  have Ns := Lib.hid (Fs.out.on z10)
  have Nd := Lib.hid (Fd.out.on z10)
  have Nlo := Lib.hid (Flo.out.on z10)
  have Nhi := Lib.hid (Fhi.out.on z10)
  have Nt := Lib.hid (Ft.out.on z10)
  have NB := Lib.hid (bel_tr BW.out z10)
  clear BW z10 Fa Fb Fs Fd Flo Fhi Ft
  have Fa := Na
  have Fb := Nb
  have Fs := Ns
  have Fd := Nd
  have Flo := Nlo
  have Fhi := Nhi
  have Ft := Nt
  have BW := NB
  clear NB Na Nb Ns Nd Nlo Nhi Nt
  have La := Fa.out.lt
  have ca0 : v10.cell? ⟨ga, 0, none⟩ = some (.int .u64 (wd X 0 : Nat)) := Fa.out.cell 0
  have ca1 : v10.cell? ⟨ga, 1, none⟩ = some (.int .u64 (wd X 1 : Nat)) := Fa.out.cell 1
  have ca2 : v10.cell? ⟨ga, 2, none⟩ = some (.int .u64 (wd X 2 : Nat)) := Fa.out.cell 2
  have ca3 : v10.cell? ⟨ga, 3, none⟩ = some (.int .u64 (wd X 3 : Nat)) := Fa.out.cell 3
  have Lb := Fb.out.lt
  have cb0 : v10.cell? ⟨gb, 0, none⟩ = some (.int .u64 (wd Y 0 : Nat)) := Fb.out.cell 0
  have cb1 : v10.cell? ⟨gb, 1, none⟩ = some (.int .u64 (wd Y 1 : Nat)) := Fb.out.cell 1
  have cb2 : v10.cell? ⟨gb, 2, none⟩ = some (.int .u64 (wd Y 2 : Nat)) := Fb.out.cell 2
  have cb3 : v10.cell? ⟨gb, 3, none⟩ = some (.int .u64 (wd Y 3 : Nat)) := Fb.out.cell 3
  go_wp2_with fail
  clear La ca0 ca1 ca2 ca3 Lb cb0 cb1 cb2 cb3
  have Nu : At (v10.alloc (.cells #[.int .u64 (wd D 0 : Nat), .int .u64 (wd D 1 : Nat), .int .u64 (wd D 2 : Nat), .int .u64 (wd D 3 : Nat)] 24)) (v10.heap.size) 24 #[.int .u64 (wd D 0 : Nat), .int .u64 (wd D 1 : Nat), .int .u64 (wd D 2 : Nat), .int .u64 (wd D 3 : Nat)] := At.at_ _ _ _ _ (by simp)
  have Na : At (v10.alloc (.cells #[.int .u64 (wd D 0 : Nat), .int .u64 (wd D 1 : Nat), .int .u64 (wd D 2 : Nat), .int .u64 (wd D 3 : Nat)] 24)) ga 24 #[.int .u64 (wd X 0 : Nat), .int .u64 (wd X 1 : Nat), .int .u64 (wd X 2 : Nat), .int .u64 (wd X 3 : Nat)] := Fa.out.alloc _
  have Nb : At (v10.alloc (.cells #[.int .u64 (wd D 0 : Nat), .int .u64 (wd D 1 : Nat), .int .u64 (wd D 2 : Nat), .int .u64 (wd D 3 : Nat)] 24)) gb 24 #[.int .u64 (wd Y 0 : Nat), .int .u64 (wd Y 1 : Nat), .int .u64 (wd Y 2 : Nat), .int .u64 (wd Y 3 : Nat)] := Fb.out.alloc _
  have Ns : At (v10.alloc (.cells #[.int .u64 (wd D 0 : Nat), .int .u64 (wd D 1 : Nat), .int .u64 (wd D 2 : Nat), .int .u64 (wd D 3 : Nat)] 24)) gs 24 #[.int .u64 (wd S 0 : Nat), .int .u64 (wd S 1 : Nat), .int .u64 (wd S 2 : Nat), .int .u64 (wd S 3 : Nat)] := Fs.out.alloc _
  have Nd : At (v10.alloc (.cells #[.int .u64 (wd D 0 : Nat), .int .u64 (wd D 1 : Nat), .int .u64 (wd D 2 : Nat), .int .u64 (wd D 3 : Nat)] 24)) gd 24 #[.int .u64 (wd D 0 : Nat), .int .u64 (wd D 1 : Nat), .int .u64 (wd D 2 : Nat), .int .u64 (wd D 3 : Nat)] := Fd.out.alloc _
  have Nlo : At (v10.alloc (.cells #[.int .u64 (wd D 0 : Nat), .int .u64 (wd D 1 : Nat), .int .u64 (wd D 2 : Nat), .int .u64 (wd D 3 : Nat)] 24)) glo 24 #[.int .u64 (wd L 0 : Nat), .int .u64 (wd L 1 : Nat), .int .u64 (wd L 2 : Nat), .int .u64 (wd L 3 : Nat)] := Flo.out.alloc _
  have Nhi : At (v10.alloc (.cells #[.int .u64 (wd D 0 : Nat), .int .u64 (wd D 1 : Nat), .int .u64 (wd D 2 : Nat), .int .u64 (wd D 3 : Nat)] 24)) ghi 24 #[.int .u64 (wd H 0 : Nat), .int .u64 (wd H 1 : Nat), .int .u64 (wd H 2 : Nat), .int .u64 (wd H 3 : Nat)] := Fhi.out.alloc _
  have Nt : At (v10.alloc (.cells #[.int .u64 (wd D 0 : Nat), .int .u64 (wd D 1 : Nat), .int .u64 (wd D 2 : Nat), .int .u64 (wd D 3 : Nat)] 24)) gt 24 #[.int .u64 (wd S 0 : Nat), .int .u64 (wd S 1 : Nat), .int .u64 (wd S 2 : Nat), .int .u64 (wd S 3 : Nat)] := Ft.out.alloc _
  have NB : Below w.heap.size w (v10.alloc (.cells #[.int .u64 (wd D 0 : Nat), .int .u64 (wd D 1 : Nat), .int .u64 (wd D 2 : Nat), .int .u64 (wd D 3 : Nat)] 24)) := gr_alloc BW.out _
  clear BW Fa Fb Fs Fd Flo Fhi Ft
  generalize (v10.alloc (.cells #[.int .u64 (wd D 0 : Nat), .int .u64 (wd D 1 : Nat), .int .u64 (wd D 2 : Nat), .int .u64 (wd D 3 : Nat)] 24)) = W11 at *
  generalize v10.heap.size = gu at *
  have Fa := Lib.hid Na
  have Fb := Lib.hid Nb
  have Fs := Lib.hid Ns
  have Fd := Lib.hid Nd
  have Flo := Lib.hid Nlo
  have Fhi := Lib.hid Nhi
  have Ft := Lib.hid Nt
  have Fu := Lib.hid Nu
  have BW := Lib.hid NB
  clear NB Na Nb Ns Nd Nlo Nhi Nt Nu
  refine (HMUr.out _).mono ?_
  rintro e v12 ⟨rfl, z12⟩
  have Na := Lib.hid (Fa.out.on z12)
  have Nb := Lib.hid (Fb.out.on z12)
  have Ns := Lib.hid (Fs.out.on z12)
  have Nd := Lib.hid (Fd.out.on z12)
  have Nlo := Lib.hid (Flo.out.on z12)
  have Nhi := Lib.hid (Fhi.out.on z12)
  have Nt := Lib.hid (Ft.out.on z12)
  have Nu := Lib.hid (Fu.out.on z12)
  have NB := Lib.hid (bel_tr BW.out z12)
  clear BW z12 Fa Fb Fs Fd Flo Fhi Ft Fu
  have Fa := Na
  have Fb := Nb
  have Fs := Ns
  have Fd := Nd
  have Flo := Nlo
  have Fhi := Nhi
  have Ft := Nt
  have Fu := Nu
  have BW := NB
  clear NB Na Nb Ns Nd Nlo Nhi Nt Nu
  go_wp2_with fail
  have Np : At ((v12.alloc (.cells #[.int .u64 (wd L 0 : Nat), .int .u64 (wd L 1 : Nat), .int .u64 (wd L 2 : Nat), .int .u64 (wd L 3 : Nat)] 24)).alloc (.cells #[.int .u64 (wd H 0 : Nat), .int .u64 (wd H 1 : Nat), .int .u64 (wd H 2 : Nat), .int .u64 (wd H 3 : Nat)] 24)) (v12.heap.size) 24 #[.int .u64 (wd L 0 : Nat), .int .u64 (wd L 1 : Nat), .int .u64 (wd L 2 : Nat), .int .u64 (wd L 3 : Nat)] := (At.at_ _ _ _ _ (by simp)).alloc _
  have Nq : At ((v12.alloc (.cells #[.int .u64 (wd L 0 : Nat), .int .u64 (wd L 1 : Nat), .int .u64 (wd L 2 : Nat), .int .u64 (wd L 3 : Nat)] 24)).alloc (.cells #[.int .u64 (wd H 0 : Nat), .int .u64 (wd H 1 : Nat), .int .u64 (wd H 2 : Nat), .int .u64 (wd H 3 : Nat)] 24)) (v12.heap.size + 1) 24 #[.int .u64 (wd H 0 : Nat), .int .u64 (wd H 1 : Nat), .int .u64 (wd H 2 : Nat), .int .u64 (wd H 3 : Nat)] := At.at_ _ _ _ _ (by simp)
  have Na : At ((v12.alloc (.cells #[.int .u64 (wd L 0 : Nat), .int .u64 (wd L 1 : Nat), .int .u64 (wd L 2 : Nat), .int .u64 (wd L 3 : Nat)] 24)).alloc (.cells #[.int .u64 (wd H 0 : Nat), .int .u64 (wd H 1 : Nat), .int .u64 (wd H 2 : Nat), .int .u64 (wd H 3 : Nat)] 24)) ga 24 #[.int .u64 (wd X 0 : Nat), .int .u64 (wd X 1 : Nat), .int .u64 (wd X 2 : Nat), .int .u64 (wd X 3 : Nat)] := (Fa.out.alloc _).alloc _
  have Nb : At ((v12.alloc (.cells #[.int .u64 (wd L 0 : Nat), .int .u64 (wd L 1 : Nat), .int .u64 (wd L 2 : Nat), .int .u64 (wd L 3 : Nat)] 24)).alloc (.cells #[.int .u64 (wd H 0 : Nat), .int .u64 (wd H 1 : Nat), .int .u64 (wd H 2 : Nat), .int .u64 (wd H 3 : Nat)] 24)) gb 24 #[.int .u64 (wd Y 0 : Nat), .int .u64 (wd Y 1 : Nat), .int .u64 (wd Y 2 : Nat), .int .u64 (wd Y 3 : Nat)] := (Fb.out.alloc _).alloc _
  have Ns : At ((v12.alloc (.cells #[.int .u64 (wd L 0 : Nat), .int .u64 (wd L 1 : Nat), .int .u64 (wd L 2 : Nat), .int .u64 (wd L 3 : Nat)] 24)).alloc (.cells #[.int .u64 (wd H 0 : Nat), .int .u64 (wd H 1 : Nat), .int .u64 (wd H 2 : Nat), .int .u64 (wd H 3 : Nat)] 24)) gs 24 #[.int .u64 (wd S 0 : Nat), .int .u64 (wd S 1 : Nat), .int .u64 (wd S 2 : Nat), .int .u64 (wd S 3 : Nat)] := (Fs.out.alloc _).alloc _
  have Nd : At ((v12.alloc (.cells #[.int .u64 (wd L 0 : Nat), .int .u64 (wd L 1 : Nat), .int .u64 (wd L 2 : Nat), .int .u64 (wd L 3 : Nat)] 24)).alloc (.cells #[.int .u64 (wd H 0 : Nat), .int .u64 (wd H 1 : Nat), .int .u64 (wd H 2 : Nat), .int .u64 (wd H 3 : Nat)] 24)) gd 24 #[.int .u64 (wd D 0 : Nat), .int .u64 (wd D 1 : Nat), .int .u64 (wd D 2 : Nat), .int .u64 (wd D 3 : Nat)] := (Fd.out.alloc _).alloc _
  have Nlo : At ((v12.alloc (.cells #[.int .u64 (wd L 0 : Nat), .int .u64 (wd L 1 : Nat), .int .u64 (wd L 2 : Nat), .int .u64 (wd L 3 : Nat)] 24)).alloc (.cells #[.int .u64 (wd H 0 : Nat), .int .u64 (wd H 1 : Nat), .int .u64 (wd H 2 : Nat), .int .u64 (wd H 3 : Nat)] 24)) glo 24 #[.int .u64 (wd L 0 : Nat), .int .u64 (wd L 1 : Nat), .int .u64 (wd L 2 : Nat), .int .u64 (wd L 3 : Nat)] := (Flo.out.alloc _).alloc _
  have Nhi : At ((v12.alloc (.cells #[.int .u64 (wd L 0 : Nat), .int .u64 (wd L 1 : Nat), .int .u64 (wd L 2 : Nat), .int .u64 (wd L 3 : Nat)] 24)).alloc (.cells #[.int .u64 (wd H 0 : Nat), .int .u64 (wd H 1 : Nat), .int .u64 (wd H 2 : Nat), .int .u64 (wd H 3 : Nat)] 24)) ghi 24 #[.int .u64 (wd H 0 : Nat), .int .u64 (wd H 1 : Nat), .int .u64 (wd H 2 : Nat), .int .u64 (wd H 3 : Nat)] := (Fhi.out.alloc _).alloc _
  have Nt : At ((v12.alloc (.cells #[.int .u64 (wd L 0 : Nat), .int .u64 (wd L 1 : Nat), .int .u64 (wd L 2 : Nat), .int .u64 (wd L 3 : Nat)] 24)).alloc (.cells #[.int .u64 (wd H 0 : Nat), .int .u64 (wd H 1 : Nat), .int .u64 (wd H 2 : Nat), .int .u64 (wd H 3 : Nat)] 24)) gt 24 #[.int .u64 (wd S 0 : Nat), .int .u64 (wd S 1 : Nat), .int .u64 (wd S 2 : Nat), .int .u64 (wd S 3 : Nat)] := (Ft.out.alloc _).alloc _
  have Nu : At ((v12.alloc (.cells #[.int .u64 (wd L 0 : Nat), .int .u64 (wd L 1 : Nat), .int .u64 (wd L 2 : Nat), .int .u64 (wd L 3 : Nat)] 24)).alloc (.cells #[.int .u64 (wd H 0 : Nat), .int .u64 (wd H 1 : Nat), .int .u64 (wd H 2 : Nat), .int .u64 (wd H 3 : Nat)] 24)) gu 24 #[.int .u64 (wd D 0 : Nat), .int .u64 (wd D 1 : Nat), .int .u64 (wd D 2 : Nat), .int .u64 (wd D 3 : Nat)] := (Fu.out.alloc _).alloc _
  have NB : Below w.heap.size w ((v12.alloc (.cells #[.int .u64 (wd L 0 : Nat), .int .u64 (wd L 1 : Nat), .int .u64 (wd L 2 : Nat), .int .u64 (wd L 3 : Nat)] 24)).alloc (.cells #[.int .u64 (wd H 0 : Nat), .int .u64 (wd H 1 : Nat), .int .u64 (wd H 2 : Nat), .int .u64 (wd H 3 : Nat)] 24)) := gr_alloc (gr_alloc BW.out _) _
  clear BW Fa Fb Fs Fd Flo Fhi Ft Fu
  generalize ((v12.alloc (.cells #[.int .u64 (wd L 0 : Nat), .int .u64 (wd L 1 : Nat), .int .u64 (wd L 2 : Nat), .int .u64 (wd L 3 : Nat)] 24)).alloc (.cells #[.int .u64 (wd H 0 : Nat), .int .u64 (wd H 1 : Nat), .int .u64 (wd H 2 : Nat), .int .u64 (wd H 3 : Nat)] 24)) = W13 at *
  generalize v12.heap.size + 1 = gq at *
  generalize v12.heap.size = gp at *
  have Fa := Lib.hid Na
  have Fb := Lib.hid Nb
  have Fs := Lib.hid Ns
  have Fd := Lib.hid Nd
  have Flo := Lib.hid Nlo
  have Fhi := Lib.hid Nhi
  have Ft := Lib.hid Nt
  have Fu := Lib.hid Nu
  have Fp := Lib.hid Np
  have Fq := Lib.hid Nq
  have BW := Lib.hid NB
  clear NB Na Nb Ns Nd Nlo Nhi Nt Nu Np Nq
  try simp only [List.append_eq, List.cons_append, List.nil_append]
  refine wp_region_noPanic ?_
  refine wp_region_held_drew (S := fun w' => At w' ga 24 #[.int .u64 (wd X 0 : Nat), .int .u64 (wd X 1 : Nat), .int .u64 (wd X 2 : Nat), .int .u64 (wd X 3 : Nat)] ∧ At w' gb 24 #[.int .u64 (wd Y 0 : Nat), .int .u64 (wd Y 1 : Nat), .int .u64 (wd Y 2 : Nat), .int .u64 (wd Y 3 : Nat)] ∧ At w' gs 24 #[.int .u64 (wd S 0 : Nat), .int .u64 (wd S 1 : Nat), .int .u64 (wd S 2 : Nat), .int .u64 (wd S 3 : Nat)] ∧ At w' gt 24 #[.int .u64 (wd S 0 : Nat), .int .u64 (wd S 1 : Nat), .int .u64 (wd S 2 : Nat), .int .u64 (wd S 3 : Nat)] ∧ At w' gd 24 #[.int .u64 (wd D 0 : Nat), .int .u64 (wd D 1 : Nat), .int .u64 (wd D 2 : Nat), .int .u64 (wd D 3 : Nat)] ∧ At w' gu 24 #[.int .u64 (wd D 0 : Nat), .int .u64 (wd D 1 : Nat), .int .u64 (wd D 2 : Nat), .int .u64 (wd D 3 : Nat)] ∧ At w' glo 24 #[.int .u64 (wd L 0 : Nat), .int .u64 (wd L 1 : Nat), .int .u64 (wd L 2 : Nat), .int .u64 (wd L 3 : Nat)] ∧ At w' gp 24 #[.int .u64 (wd L 0 : Nat), .int .u64 (wd L 1 : Nat), .int .u64 (wd L 2 : Nat), .int .u64 (wd L 3 : Nat)] ∧ At w' ghi 24 #[.int .u64 (wd H 0 : Nat), .int .u64 (wd H 1 : Nat), .int .u64 (wd H 2 : Nat), .int .u64 (wd H 3 : Nat)] ∧ At w' gq 24 #[.int .u64 (wd H 0 : Nat), .int .u64 (wd H 1 : Nat), .int .u64 (wd H 2 : Nat), .int .u64 (wd H 3 : Nat)]) (by kernel_rfl) (⟨Fa.out.drew, Fb.out.drew, Fs.out.drew, Ft.out.drew, Fd.out.drew, Fu.out.drew, Flo.out.drew, Fp.out.drew, Fhi.out.drew, Fq.out.drew⟩) (fun _ => ?_)
  refine wpAnyH_cores (fuel := 1) (⟨0, 55, [], Kind.val (.pointer (some ⟨ga, 1, none⟩)), true⟩ :: ⟨1, 56, [0], Kind.val (.int .u64 (wd X 1 : Nat)), true⟩ :: ⟨3, 58, [1], Kind.val (.pointer (some ⟨ga, 1, none⟩)), true⟩ :: ⟨4, 59, [2], Kind.val (.int .u64 (wd X 1 : Nat)), true⟩ :: ⟨2, 57, [1, 3], Kind.val (.agg #[.int .u64 (wd V 0 : Nat), .int .u64 (wd V 1 : Nat), .int .u64 (wd V 2 : Nat), .int .u64 (wd V 3 : Nat)]), false⟩ :: ⟨5, 60, [3, 4], Kind.val (.agg #[.int .u64 (wd V 0 : Nat), .int .u64 (wd V 1 : Nat), .int .u64 (wd V 2 : Nat), .int .u64 (wd V 3 : Nat)]), false⟩ :: ⟨6, 61, [4, 5], Kind.val (.bool true), true⟩ :: ⟨7, 62, [6], Kind.val (.bool true), true⟩ :: ⟨8, 63, [7], Kind.val (.agg #[.int .u64 (wd X 0 : Nat), .int .u64 (wd X 1 : Nat), .int .u64 (wd X 2 : Nat), .int .u64 (wd X 3 : Nat)]), true⟩ :: ⟨9, 64, [7, 8], Kind.val (.agg #[.int .u64 (wd Y 0 : Nat), .int .u64 (wd Y 1 : Nat), .int .u64 (wd Y 2 : Nat), .int .u64 (wd Y 3 : Nat)]), true⟩ :: ⟨11, 66, [7, 9], Kind.val (.agg #[.int .u64 (wd X 0 : Nat), .int .u64 (wd X 1 : Nat), .int .u64 (wd X 2 : Nat), .int .u64 (wd X 3 : Nat)]), true⟩ :: ⟨12, 67, [7, 10], Kind.val (.agg #[.int .u64 (wd Y 0 : Nat), .int .u64 (wd Y 1 : Nat), .int .u64 (wd Y 2 : Nat), .int .u64 (wd Y 3 : Nat)]), true⟩ :: ⟨10, 65, [7, 8, 9, 11], Kind.val (.int .i64 cm), false⟩ :: ⟨13, 68, [7, 10, 11, 12], Kind.val (.int .i64 cm), false⟩ :: ⟨14, 69, [7, 12, 13], Kind.val (.bool true), true⟩ :: ⟨15, 70, [7, 14], Kind.val (.bool true), true⟩ :: ⟨16, 71, [15], Kind.val (.bool true), true⟩ :: ⟨17, 72, [16], Kind.val (.agg #[.int .u64 (wd X 0 : Nat), .int .u64 (wd X 1 : Nat), .int .u64 (wd X 2 : Nat), .int .u64 (wd X 3 : Nat)]), true⟩ :: ⟨19, 74, [16, 17], Kind.val (.agg #[.int .u64 (wd X 0 : Nat), .int .u64 (wd X 1 : Nat), .int .u64 (wd X 2 : Nat), .int .u64 (wd X 3 : Nat)]), true⟩ :: ⟨18, 73, [16, 17, 18], Kind.val (.int .i64 (bl : Nat)), false⟩ :: ⟨20, 75, [16, 18, 19], Kind.val (.int .i64 (bl : Nat)), false⟩ :: ⟨21, 76, [16, 19, 20], Kind.val (.bool true), true⟩ :: ⟨22, 77, [16, 21], Kind.val (.bool true), true⟩ :: ⟨23, 78, [22], Kind.val (.bool true), true⟩ :: ⟨24, 79, [23], Kind.val (.agg #[.int .u64 (wd X 0 : Nat), .int .u64 (wd X 1 : Nat), .int .u64 (wd X 2 : Nat), .int .u64 (wd X 3 : Nat)]), true⟩ :: ⟨25, 80, [23, 24], Kind.val (.int .i64 n), true⟩ :: ⟨27, 82, [23, 25], Kind.val (.agg #[.int .u64 (wd X 0 : Nat), .int .u64 (wd X 1 : Nat), .int .u64 (wd X 2 : Nat), .int .u64 (wd X 3 : Nat)]), true⟩ :: ⟨28, 83, [23, 26], Kind.val (.int .i64 n), true⟩ :: ⟨26, 81, [23, 24, 25, 27], Kind.val (.int .u64 (z : Nat)), false⟩ :: ⟨29, 84, [23, 26, 27, 28], Kind.val (.int .u64 (z : Nat)), false⟩ :: ⟨30, 85, [23, 28, 29], Kind.val (.bool true), true⟩ :: ⟨31, 86, [23, 30], Kind.val (.bool true), true⟩ :: ⟨32, 87, [31], Kind.val (.bool true), true⟩ :: ⟨33, 88, [32], Kind.val (.agg #[.int .u64 (wd S 0 : Nat), .int .u64 (wd S 1 : Nat), .int .u64 (wd S 2 : Nat), .int .u64 (wd S 3 : Nat)]), true⟩ :: ⟨34, 89, [32, 33], Kind.val (.agg #[.int .u64 (wd S 0 : Nat), .int .u64 (wd S 1 : Nat), .int .u64 (wd S 2 : Nat), .int .u64 (wd S 3 : Nat)]), true⟩ :: ⟨35, 90, [32, 33, 34], Kind.val (.bool true), true⟩ :: ⟨36, 91, [32, 35], Kind.val (.bool true), true⟩ :: ⟨37, 92, [36], Kind.val (.bool true), true⟩ :: ⟨38, 93, [37], Kind.val (.int .u64 (c : Nat)), true⟩ :: ⟨39, 94, [37, 38], Kind.val (.int .u64 (c : Nat)), true⟩ :: ⟨40, 95, [37, 38, 39], Kind.val (.bool true), true⟩ :: ⟨41, 96, [37, 40], Kind.val (.bool true), true⟩ :: ⟨42, 97, [41], Kind.val (.bool true), true⟩ :: ⟨43, 98, [42], Kind.val (.agg #[.int .u64 (wd D 0 : Nat), .int .u64 (wd D 1 : Nat), .int .u64 (wd D 2 : Nat), .int .u64 (wd D 3 : Nat)]), true⟩ :: ⟨44, 99, [42, 43], Kind.val (.agg #[.int .u64 (wd D 0 : Nat), .int .u64 (wd D 1 : Nat), .int .u64 (wd D 2 : Nat), .int .u64 (wd D 3 : Nat)]), true⟩ :: ⟨45, 100, [42, 43, 44], Kind.val (.bool true), true⟩ :: ⟨46, 101, [42, 45], Kind.val (.bool true), true⟩ :: ⟨47, 102, [46], Kind.val (.bool true), true⟩ :: ⟨48, 103, [47], Kind.val (.int .u64 (l : Nat)), true⟩ :: ⟨49, 104, [47, 48], Kind.val (.int .u64 (l : Nat)), true⟩ :: ⟨50, 105, [47, 48, 49], Kind.val (.bool true), true⟩ :: ⟨51, 106, [47, 50], Kind.val (.bool true), true⟩ :: ⟨52, 107, [51], Kind.val (.bool true), true⟩ :: ⟨53, 108, [52], Kind.val (.agg #[.int .u64 (wd L 0 : Nat), .int .u64 (wd L 1 : Nat), .int .u64 (wd L 2 : Nat), .int .u64 (wd L 3 : Nat)]), true⟩ :: ⟨54, 109, [52, 53], Kind.val (.agg #[.int .u64 (wd L 0 : Nat), .int .u64 (wd L 1 : Nat), .int .u64 (wd L 2 : Nat), .int .u64 (wd L 3 : Nat)]), true⟩ :: ⟨55, 110, [52, 53, 54], Kind.val (.bool true), true⟩ :: ⟨56, 111, [52, 55], Kind.val (.bool true), true⟩ :: ⟨57, 112, [56], Kind.val (.bool true), true⟩ :: ⟨58, 113, [57], Kind.val (.agg #[.int .u64 (wd H 0 : Nat), .int .u64 (wd H 1 : Nat), .int .u64 (wd H 2 : Nat), .int .u64 (wd H 3 : Nat)]), true⟩ :: ⟨59, 114, [57, 58], Kind.val (.agg #[.int .u64 (wd H 0 : Nat), .int .u64 (wd H 1 : Nat), .int .u64 (wd H 2 : Nat), .int .u64 (wd H 3 : Nat)]), true⟩ :: ⟨60, 115, [57, 58, 59], Kind.val (.bool true), true⟩ :: ⟨61, 116, [57, 60], Kind.val (.bool true), true⟩ :: ⟨62, 117, [61], Kind.val (.bool true), true⟩ :: ⟨63, 118, [62], Kind.val (.agg #[.int .u64 (wd X 0 : Nat), .int .u64 (wd X 1 : Nat), .int .u64 (wd X 2 : Nat), .int .u64 (wd X 3 : Nat)]), true⟩ :: ⟨64, 119, [62, 63], Kind.val (.int .i64 n), true⟩ :: ⟨66, 121, [62, 64], Kind.val (.agg #[.int .u64 (wd X 0 : Nat), .int .u64 (wd X 1 : Nat), .int .u64 (wd X 2 : Nat), .int .u64 (wd X 3 : Nat)]), true⟩ :: ⟨67, 122, [62, 65], Kind.val (.int .i64 n), true⟩ :: ⟨65, 120, [62, 63, 64, 66], Kind.val (.agg #[.int .u64 (wd T 0 : Nat), .int .u64 (wd T 1 : Nat), .int .u64 (wd T 2 : Nat), .int .u64 (wd T 3 : Nat)]), false⟩ :: ⟨68, 123, [62, 65, 66, 67], Kind.val (.agg #[.int .u64 (wd T 0 : Nat), .int .u64 (wd T 1 : Nat), .int .u64 (wd T 2 : Nat), .int .u64 (wd T 3 : Nat)]), false⟩ :: ⟨69, 124, [62, 67, 68], Kind.val (.bool true), true⟩ :: ⟨70, 125, [62, 69], Kind.val (.bool true), true⟩ :: []) _ _ W13 _ ?_ ?_ ?_ ?_ ?_ ?_ ?_ ?_ ?_ ?_ ?_
  · rfl
  · kernel_rfl
  · exact of_decide_eq_true (by kernel_rfl)
  · exact all_cons ⟨_, by rfl, by rfl⟩ (all_cons ⟨_, by rfl, by rfl⟩ (all_cons ⟨_, by rfl, by rfl⟩ (all_cons ⟨_, by rfl, by rfl⟩ (all_cons ⟨_, by rfl, by rfl⟩ (all_cons ⟨_, by rfl, by rfl⟩ (all_cons ⟨_, by rfl, by rfl⟩ (all_cons ⟨_, by rfl, by rfl⟩ (all_cons ⟨_, by rfl, by rfl⟩ (all_cons ⟨_, by rfl, by rfl⟩ (all_cons ⟨_, by rfl, by rfl⟩ (all_cons ⟨_, by rfl, by rfl⟩ (all_cons ⟨_, by rfl, by rfl⟩ (all_cons ⟨_, by rfl, by rfl⟩ (all_cons ⟨_, by rfl, by rfl⟩ (all_cons ⟨_, by rfl, by rfl⟩ (all_cons ⟨_, by rfl, by rfl⟩ (all_cons ⟨_, by rfl, by rfl⟩ (all_cons ⟨_, by rfl, by rfl⟩ (all_cons ⟨_, by rfl, by rfl⟩ (all_cons ⟨_, by rfl, by rfl⟩ (all_cons ⟨_, by rfl, by rfl⟩ (all_cons ⟨_, by rfl, by rfl⟩ (all_cons ⟨_, by rfl, by rfl⟩ (all_cons ⟨_, by rfl, by rfl⟩ (all_cons ⟨_, by rfl, by rfl⟩ (all_cons ⟨_, by rfl, by rfl⟩ (all_cons ⟨_, by rfl, by rfl⟩ (all_cons ⟨_, by rfl, by rfl⟩ (all_cons ⟨_, by rfl, by rfl⟩ (all_cons ⟨_, by rfl, by rfl⟩ (all_cons ⟨_, by rfl, by rfl⟩ (all_cons ⟨_, by rfl, by rfl⟩ (all_cons ⟨_, by rfl, by rfl⟩ (all_cons ⟨_, by rfl, by rfl⟩ (all_cons ⟨_, by rfl, by rfl⟩ (all_cons ⟨_, by rfl, by rfl⟩ (all_cons ⟨_, by rfl, by rfl⟩ (all_cons ⟨_, by rfl, by rfl⟩ (all_cons ⟨_, by rfl, by rfl⟩ (all_cons ⟨_, by rfl, by rfl⟩ (all_cons ⟨_, by rfl, by rfl⟩ (all_cons ⟨_, by rfl, by rfl⟩ (all_cons ⟨_, by rfl, by rfl⟩ (all_cons ⟨_, by rfl, by rfl⟩ (all_cons ⟨_, by rfl, by rfl⟩ (all_cons ⟨_, by rfl, by rfl⟩ (all_cons ⟨_, by rfl, by rfl⟩ (all_cons ⟨_, by rfl, by rfl⟩ (all_cons ⟨_, by rfl, by rfl⟩ (all_cons ⟨_, by rfl, by rfl⟩ (all_cons ⟨_, by rfl, by rfl⟩ (all_cons ⟨_, by rfl, by rfl⟩ (all_cons ⟨_, by rfl, by rfl⟩ (all_cons ⟨_, by rfl, by rfl⟩ (all_cons ⟨_, by rfl, by rfl⟩ (all_cons ⟨_, by rfl, by rfl⟩ (all_cons ⟨_, by rfl, by rfl⟩ (all_cons ⟨_, by rfl, by rfl⟩ (all_cons ⟨_, by rfl, by rfl⟩ (all_cons ⟨_, by rfl, by rfl⟩ (all_cons ⟨_, by rfl, by rfl⟩ (all_cons ⟨_, by rfl, by rfl⟩ (all_cons ⟨_, by rfl, by rfl⟩ (all_cons ⟨_, by rfl, by rfl⟩ (all_cons ⟨_, by rfl, by rfl⟩ (all_cons ⟨_, by rfl, by rfl⟩ (all_cons ⟨_, by rfl, by rfl⟩ (all_cons ⟨_, by rfl, by rfl⟩ (all_cons ⟨_, by rfl, by rfl⟩ (all_cons ⟨_, by rfl, by rfl⟩ (all_nil)))))))))))))))))))))))))))))))))))))))))))))))))))))))))))))))))))))))
  · exact fun _ hb => ⟨Fa.out.on hb, Fb.out.on hb, Fs.out.on hb, Ft.out.on hb, Fd.out.on hb, Fu.out.on hb, Flo.out.on hb, Fp.out.on hb, Fhi.out.on hb, Fq.out.on hb⟩
  · exact (Below.refl _ _).drew
  · kernel_rfl
  · exact fun _ _ _ _ _ h => h
  · refine all_cons ?_ (all_cons ?_ (all_cons ?_ (all_cons ?_ (all_cons ?_ (all_cons ?_ (all_cons ?_ (all_cons ?_ (all_cons ?_ (all_cons ?_ (all_cons ?_ (all_cons ?_ (all_cons ?_ (all_cons ?_ (all_cons ?_ (all_cons ?_ (all_cons ?_ (all_cons ?_ (all_cons ?_ (all_cons ?_ (all_cons ?_ (all_cons ?_ (all_cons ?_ (all_cons ?_ (all_cons ?_ (all_cons ?_ (all_cons ?_ (all_cons ?_ (all_cons ?_ (all_cons ?_ (all_cons ?_ (all_cons ?_ (all_cons ?_ (all_cons ?_ (all_cons ?_ (all_cons ?_ (all_cons ?_ (all_cons ?_ (all_cons ?_ (all_cons ?_ (all_cons ?_ (all_cons ?_ (all_cons ?_ (all_cons ?_ (all_cons ?_ (all_cons ?_ (all_cons ?_ (all_cons ?_ (all_cons ?_ (all_cons ?_ (all_cons ?_ (all_cons ?_ (all_cons ?_ (all_cons ?_ (all_cons ?_ (all_cons ?_ (all_cons ?_ (all_cons ?_ (all_cons ?_ (all_cons ?_ (all_cons ?_ (all_cons ?_ (all_cons ?_ (all_cons ?_ (all_cons ?_ (all_cons ?_ (all_cons ?_ (all_cons ?_ (all_cons ?_ (all_cons ?_ (all_cons ?_ (all_nil)))))))))))))))))))))))))))))))))))))))))))))))))))))))))))))))))))))))
    · exact coreG_pure _ _ _ _ _ _ _ (by rfl) (by rfl) (wants_none) (fun vs w hl hp w' _ => index1_run _ _ _ _ _ _ _ w' ga ((show Known _ _ [] (.tmp 3) (.pointer (some ⟨ga, 0, none⟩)) from known_old 3 _ (of_decide_eq_true (by rfl)) (by rfl)) vs w hl (fun _ h => by cases h)) rfl)
    · exact coreG_pure _ _ _ _ _ _ _ (by rfl) (by rfl) (wants_none) (fun vs w hl hp w' hs => load1_run _ _ _ _ _ _ _ w' ga _ _ _ _ ((known_core 0 55 _ _ (of_decide_eq_true (by rfl)) (by rfl) (by rfl) (by rfl)) vs w hl hp) hs.1)
    · exact coreG_pure _ _ _ _ _ _ _ (by rfl) (by rfl) (wants_none) (fun vs w hl hp w' _ => index1_run _ _ _ _ _ _ _ w' ga ((show Known _ _ [] (.tmp 3) (.pointer (some ⟨ga, 0, none⟩)) from known_old 3 _ (of_decide_eq_true (by rfl)) (by rfl)) vs w hl (fun _ h => by cases h)) rfl)
    · exact coreG_pure _ _ _ _ _ _ _ (by rfl) (by rfl) (wants_none) (fun vs w hl hp w' hs => load1_run _ _ _ _ _ _ _ w' ga _ _ _ _ ((known_core 2 58 _ _ (of_decide_eq_true (by rfl)) (by rfl) (by rfl) (by rfl)) vs w hl hp) hs.1)
    · exact core_pureAs _ (by rfl)
    · exact core_pureAs _ (by rfl)
    · exact coreG_bin _ _ _ _ _ _ _ _ _ _ _ _ _ (by rfl) (by rfl) (wants_none) (known_core 4 57 _ _ (of_decide_eq_true (by rfl)) (by rfl) (by rfl) (by rfl)) (known_core 5 60 _ _ (of_decide_eq_true (by rfl)) (by rfl) (by rfl) (by rfl)) (eql_run true _ _ _ _ _ _ _ _ _ _ _ _ _ _ _ (eqY V))
    · exact coreG_move _ _ _ _ _ _ _ (by rfl) (by rfl) (wants_none) (known_core 6 61 _ _ (of_decide_eq_true (by rfl)) (by rfl) (by rfl) (by rfl))
    · exact coreG_loadP _ _ _ _ _ _ ga _ _ _ _ (by rfl) (by rfl) (wants_core 7 62 7 _ _ _ (by rfl) (by rfl) (by rfl) (known_core 7 62 _ _ (of_decide_eq_true (by rfl)) (by rfl) (by rfl) (by rfl)) _ (by rfl)) (known_old 3 _ (of_decide_eq_true (by rfl)) (by rfl)) (fun _ hs => hs.1)
    · exact coreG_loadP _ _ _ _ _ _ gb _ _ _ _ (by rfl) (by rfl) (wants_core 7 62 7 _ _ _ (by rfl) (by rfl) (by rfl) (known_core 7 62 _ _ (of_decide_eq_true (by rfl)) (by rfl) (by rfl) (by rfl)) _ (by rfl)) (known_old 4 _ (of_decide_eq_true (by rfl)) (by rfl)) (fun _ hs => hs.2.1)
    · exact coreG_loadP _ _ _ _ _ _ ga _ _ _ _ (by rfl) (by rfl) (wants_core 7 62 7 _ _ _ (by rfl) (by rfl) (by rfl) (known_core 7 62 _ _ (of_decide_eq_true (by rfl)) (by rfl) (by rfl) (by rfl)) _ (by rfl)) (known_old 3 _ (of_decide_eq_true (by rfl)) (by rfl)) (fun _ hs => hs.1)
    · exact coreG_loadP _ _ _ _ _ _ gb _ _ _ _ (by rfl) (by rfl) (wants_core 7 62 7 _ _ _ (by rfl) (by rfl) (by rfl) (known_core 7 62 _ _ (of_decide_eq_true (by rfl)) (by rfl) (by rfl) (by rfl)) _ (by rfl)) (known_old 4 _ (of_decide_eq_true (by rfl)) (by rfl)) (fun _ hs => hs.2.1)
    · exact core_pureAs _ (by rfl)
    · exact core_pureAs _ (by rfl)
    · exact coreG_bin _ _ _ _ _ _ _ _ _ _ _ _ _ (by rfl) (by rfl) (wants_core 7 62 7 _ _ _ (by rfl) (by rfl) (by rfl) (known_core 7 62 _ _ (of_decide_eq_true (by rfl)) (by rfl) (by rfl) (by rfl)) _ (by rfl)) (known_core 12 65 _ _ (of_decide_eq_true (by rfl)) (by rfl) (by rfl) (by rfl)) (known_core 13 68 _ _ (of_decide_eq_true (by rfl)) (by rfl) (by rfl) (by rfl)) ((fun ρ w hx hy => by simp only [execOp, hx, hy]; simp [go_sem]))
    · exact coreG_pick _ _ _ _ _ _ _ _ _ _ _ _ (by rfl) (by rfl) (wants_none) (known_core 7 62 _ _ (of_decide_eq_true (by rfl)) (by rfl) (by rfl) (by rfl)) (known_core 14 69 _ _ (of_decide_eq_true (by rfl)) (by rfl) (by rfl) (by rfl)) (known_const _) (by rfl)
    · exact coreG_move _ _ _ _ _ _ _ (by rfl) (by rfl) (wants_none) (known_core 15 70 _ _ (of_decide_eq_true (by rfl)) (by rfl) (by rfl) (by rfl))
    · exact coreG_loadP _ _ _ _ _ _ ga _ _ _ _ (by rfl) (by rfl) (wants_core 16 71 16 _ _ _ (by rfl) (by rfl) (by rfl) (known_core 16 71 _ _ (of_decide_eq_true (by rfl)) (by rfl) (by rfl) (by rfl)) _ (by rfl)) (known_old 3 _ (of_decide_eq_true (by rfl)) (by rfl)) (fun _ hs => hs.1)
    · exact coreG_loadP _ _ _ _ _ _ ga _ _ _ _ (by rfl) (by rfl) (wants_core 16 71 16 _ _ _ (by rfl) (by rfl) (by rfl) (known_core 16 71 _ _ (of_decide_eq_true (by rfl)) (by rfl) (by rfl) (by rfl)) _ (by rfl)) (known_old 3 _ (of_decide_eq_true (by rfl)) (by rfl)) (fun _ hs => hs.1)
    · exact core_pureAs _ (by rfl)
    · exact core_pureAs _ (by rfl)
    · exact coreG_bin _ _ _ _ _ _ _ _ _ _ _ _ _ (by rfl) (by rfl) (wants_core 16 71 16 _ _ _ (by rfl) (by rfl) (by rfl) (known_core 16 71 _ _ (of_decide_eq_true (by rfl)) (by rfl) (by rfl) (by rfl)) _ (by rfl)) (known_core 19 73 _ _ (of_decide_eq_true (by rfl)) (by rfl) (by rfl) (by rfl)) (known_core 20 75 _ _ (of_decide_eq_true (by rfl)) (by rfl) (by rfl) (by rfl)) ((fun ρ w hx hy => by simp only [execOp, hx, hy]; simp [go_sem]))
    · exact coreG_pick _ _ _ _ _ _ _ _ _ _ _ _ (by rfl) (by rfl) (wants_none) (known_core 16 71 _ _ (of_decide_eq_true (by rfl)) (by rfl) (by rfl) (by rfl)) (known_core 21 76 _ _ (of_decide_eq_true (by rfl)) (by rfl) (by rfl) (by rfl)) (known_const _) (by rfl)
    · exact coreG_move _ _ _ _ _ _ _ (by rfl) (by rfl) (wants_none) (known_core 22 77 _ _ (of_decide_eq_true (by rfl)) (by rfl) (by rfl) (by rfl))
    · exact coreG_loadP _ _ _ _ _ _ ga _ _ _ _ (by rfl) (by rfl) (wants_core 23 78 23 _ _ _ (by rfl) (by rfl) (by rfl) (known_core 23 78 _ _ (of_decide_eq_true (by rfl)) (by rfl) (by rfl) (by rfl)) _ (by rfl)) (known_old 3 _ (of_decide_eq_true (by rfl)) (by rfl)) (fun _ hs => hs.1)
    · exact coreG_move _ _ _ _ _ _ _ (by rfl) (by rfl) (wants_core 23 78 23 _ _ _ (by rfl) (by rfl) (by rfl) (known_core 23 78 _ _ (of_decide_eq_true (by rfl)) (by rfl) (by rfl) (by rfl)) _ (by rfl)) (known_old 2 _ (of_decide_eq_true (by rfl)) (by rfl))
    · exact coreG_loadP _ _ _ _ _ _ ga _ _ _ _ (by rfl) (by rfl) (wants_core 23 78 23 _ _ _ (by rfl) (by rfl) (by rfl) (known_core 23 78 _ _ (of_decide_eq_true (by rfl)) (by rfl) (by rfl) (by rfl)) _ (by rfl)) (known_old 3 _ (of_decide_eq_true (by rfl)) (by rfl)) (fun _ hs => hs.1)
    · exact coreG_move _ _ _ _ _ _ _ (by rfl) (by rfl) (wants_core 23 78 23 _ _ _ (by rfl) (by rfl) (by rfl) (known_core 23 78 _ _ (of_decide_eq_true (by rfl)) (by rfl) (by rfl) (by rfl)) _ (by rfl)) (known_old 2 _ (of_decide_eq_true (by rfl)) (by rfl))
    · exact core_pureAs _ (by rfl)
    · exact core_pureAs _ (by rfl)
    · exact coreG_bin _ _ _ _ _ _ _ _ _ _ _ _ _ (by rfl) (by rfl) (wants_core 23 78 23 _ _ _ (by rfl) (by rfl) (by rfl) (known_core 23 78 _ _ (of_decide_eq_true (by rfl)) (by rfl) (by rfl) (by rfl)) _ (by rfl)) (known_core 28 81 _ _ (of_decide_eq_true (by rfl)) (by rfl) (by rfl) (by rfl)) (known_core 29 84 _ _ (of_decide_eq_true (by rfl)) (by rfl) (by rfl) (by rfl)) ((fun ρ w hx hy => by simp only [execOp, hx, hy]; simp [go_sem]))
    · exact coreG_pick _ _ _ _ _ _ _ _ _ _ _ _ (by rfl) (by rfl) (wants_none) (known_core 23 78 _ _ (of_decide_eq_true (by rfl)) (by rfl) (by rfl) (by rfl)) (known_core 30 85 _ _ (of_decide_eq_true (by rfl)) (by rfl) (by rfl) (by rfl)) (known_const _) (by rfl)
    · exact coreG_move _ _ _ _ _ _ _ (by rfl) (by rfl) (wants_none) (known_core 31 86 _ _ (of_decide_eq_true (by rfl)) (by rfl) (by rfl) (by rfl))
    · exact coreG_loadP _ _ _ _ _ _ gs _ _ _ _ (by rfl) (by rfl) (wants_core 32 87 32 _ _ _ (by rfl) (by rfl) (by rfl) (known_core 32 87 _ _ (of_decide_eq_true (by rfl)) (by rfl) (by rfl) (by rfl)) _ (by rfl)) (known_old 7 _ (of_decide_eq_true (by rfl)) (by rfl)) (fun _ hs => hs.2.2.1)
    · exact coreG_loadP _ _ _ _ _ _ gt _ _ _ _ (by rfl) (by rfl) (wants_core 32 87 32 _ _ _ (by rfl) (by rfl) (by rfl) (known_core 32 87 _ _ (of_decide_eq_true (by rfl)) (by rfl) (by rfl) (by rfl)) _ (by rfl)) (known_old 13 _ (of_decide_eq_true (by rfl)) (by rfl)) (fun _ hs => hs.2.2.2.1)
    · exact coreG_bin _ _ _ _ _ _ _ _ _ _ _ _ _ (by rfl) (by rfl) (wants_core 32 87 32 _ _ _ (by rfl) (by rfl) (by rfl) (known_core 32 87 _ _ (of_decide_eq_true (by rfl)) (by rfl) (by rfl) (by rfl)) _ (by rfl)) (known_core 33 88 _ _ (of_decide_eq_true (by rfl)) (by rfl) (by rfl) (by rfl)) (known_core 34 89 _ _ (of_decide_eq_true (by rfl)) (by rfl) (by rfl) (by rfl)) (eql_run true _ _ _ _ _ _ _ _ _ _ _ _ _ _ _ (eqY S))
    · exact coreG_pick _ _ _ _ _ _ _ _ _ _ _ _ (by rfl) (by rfl) (wants_none) (known_core 32 87 _ _ (of_decide_eq_true (by rfl)) (by rfl) (by rfl) (by rfl)) (known_core 35 90 _ _ (of_decide_eq_true (by rfl)) (by rfl) (by rfl) (by rfl)) (known_const _) (by rfl)
    · exact coreG_move _ _ _ _ _ _ _ (by rfl) (by rfl) (wants_none) (known_core 36 91 _ _ (of_decide_eq_true (by rfl)) (by rfl) (by rfl) (by rfl))
    · exact coreG_move _ _ _ _ _ _ _ (by rfl) (by rfl) (wants_core 37 92 37 _ _ _ (by rfl) (by rfl) (by rfl) (known_core 37 92 _ _ (of_decide_eq_true (by rfl)) (by rfl) (by rfl) (by rfl)) _ (by rfl)) (known_old 8 _ (of_decide_eq_true (by rfl)) (by rfl))
    · exact coreG_move _ _ _ _ _ _ _ (by rfl) (by rfl) (wants_core 37 92 37 _ _ _ (by rfl) (by rfl) (by rfl) (known_core 37 92 _ _ (of_decide_eq_true (by rfl)) (by rfl) (by rfl) (by rfl)) _ (by rfl)) (known_old 14 _ (of_decide_eq_true (by rfl)) (by rfl))
    · exact coreG_bin _ _ _ _ _ _ _ _ _ _ _ _ _ (by rfl) (by rfl) (wants_core 37 92 37 _ _ _ (by rfl) (by rfl) (by rfl) (known_core 37 92 _ _ (of_decide_eq_true (by rfl)) (by rfl) (by rfl) (by rfl)) _ (by rfl)) (known_core 38 93 _ _ (of_decide_eq_true (by rfl)) (by rfl) (by rfl) (by rfl)) (known_core 39 94 _ _ (of_decide_eq_true (by rfl)) (by rfl) (by rfl) (by rfl)) ((fun ρ w hx hy => by simp only [execOp, hx, hy]; simp [go_sem]))
    · exact coreG_pick _ _ _ _ _ _ _ _ _ _ _ _ (by rfl) (by rfl) (wants_none) (known_core 37 92 _ _ (of_decide_eq_true (by rfl)) (by rfl) (by rfl) (by rfl)) (known_core 40 95 _ _ (of_decide_eq_true (by rfl)) (by rfl) (by rfl) (by rfl)) (known_const _) (by rfl)
    · exact coreG_move _ _ _ _ _ _ _ (by rfl) (by rfl) (wants_none) (known_core 41 96 _ _ (of_decide_eq_true (by rfl)) (by rfl) (by rfl) (by rfl))
    · exact coreG_loadP _ _ _ _ _ _ gd _ _ _ _ (by rfl) (by rfl) (wants_core 42 97 42 _ _ _ (by rfl) (by rfl) (by rfl) (known_core 42 97 _ _ (of_decide_eq_true (by rfl)) (by rfl) (by rfl) (by rfl)) _ (by rfl)) (known_old 9 _ (of_decide_eq_true (by rfl)) (by rfl)) (fun _ hs => hs.2.2.2.2.1)
    · exact coreG_loadP _ _ _ _ _ _ gu _ _ _ _ (by rfl) (by rfl) (wants_core 42 97 42 _ _ _ (by rfl) (by rfl) (by rfl) (known_core 42 97 _ _ (of_decide_eq_true (by rfl)) (by rfl) (by rfl) (by rfl)) _ (by rfl)) (known_old 15 _ (of_decide_eq_true (by rfl)) (by rfl)) (fun _ hs => hs.2.2.2.2.2.1)
    · exact coreG_bin _ _ _ _ _ _ _ _ _ _ _ _ _ (by rfl) (by rfl) (wants_core 42 97 42 _ _ _ (by rfl) (by rfl) (by rfl) (known_core 42 97 _ _ (of_decide_eq_true (by rfl)) (by rfl) (by rfl) (by rfl)) _ (by rfl)) (known_core 43 98 _ _ (of_decide_eq_true (by rfl)) (by rfl) (by rfl) (by rfl)) (known_core 44 99 _ _ (of_decide_eq_true (by rfl)) (by rfl) (by rfl) (by rfl)) (eql_run true _ _ _ _ _ _ _ _ _ _ _ _ _ _ _ (eqY D))
    · exact coreG_pick _ _ _ _ _ _ _ _ _ _ _ _ (by rfl) (by rfl) (wants_none) (known_core 42 97 _ _ (of_decide_eq_true (by rfl)) (by rfl) (by rfl) (by rfl)) (known_core 45 100 _ _ (of_decide_eq_true (by rfl)) (by rfl) (by rfl) (by rfl)) (known_const _) (by rfl)
    · exact coreG_move _ _ _ _ _ _ _ (by rfl) (by rfl) (wants_none) (known_core 46 101 _ _ (of_decide_eq_true (by rfl)) (by rfl) (by rfl) (by rfl))
    · exact coreG_move _ _ _ _ _ _ _ (by rfl) (by rfl) (wants_core 47 102 47 _ _ _ (by rfl) (by rfl) (by rfl) (known_core 47 102 _ _ (of_decide_eq_true (by rfl)) (by rfl) (by rfl) (by rfl)) _ (by rfl)) (known_old 10 _ (of_decide_eq_true (by rfl)) (by rfl))
    · exact coreG_move _ _ _ _ _ _ _ (by rfl) (by rfl) (wants_core 47 102 47 _ _ _ (by rfl) (by rfl) (by rfl) (known_core 47 102 _ _ (of_decide_eq_true (by rfl)) (by rfl) (by rfl) (by rfl)) _ (by rfl)) (known_old 16 _ (of_decide_eq_true (by rfl)) (by rfl))
    · exact coreG_bin _ _ _ _ _ _ _ _ _ _ _ _ _ (by rfl) (by rfl) (wants_core 47 102 47 _ _ _ (by rfl) (by rfl) (by rfl) (known_core 47 102 _ _ (of_decide_eq_true (by rfl)) (by rfl) (by rfl) (by rfl)) _ (by rfl)) (known_core 48 103 _ _ (of_decide_eq_true (by rfl)) (by rfl) (by rfl) (by rfl)) (known_core 49 104 _ _ (of_decide_eq_true (by rfl)) (by rfl) (by rfl) (by rfl)) ((fun ρ w hx hy => by simp only [execOp, hx, hy]; simp [go_sem]))
    · exact coreG_pick _ _ _ _ _ _ _ _ _ _ _ _ (by rfl) (by rfl) (wants_none) (known_core 47 102 _ _ (of_decide_eq_true (by rfl)) (by rfl) (by rfl) (by rfl)) (known_core 50 105 _ _ (of_decide_eq_true (by rfl)) (by rfl) (by rfl) (by rfl)) (known_const _) (by rfl)
    · exact coreG_move _ _ _ _ _ _ _ (by rfl) (by rfl) (wants_none) (known_core 51 106 _ _ (of_decide_eq_true (by rfl)) (by rfl) (by rfl) (by rfl))
    · exact coreG_loadP _ _ _ _ _ _ glo _ _ _ _ (by rfl) (by rfl) (wants_core 52 107 52 _ _ _ (by rfl) (by rfl) (by rfl) (known_core 52 107 _ _ (of_decide_eq_true (by rfl)) (by rfl) (by rfl) (by rfl)) _ (by rfl)) (known_old 11 _ (of_decide_eq_true (by rfl)) (by rfl)) (fun _ hs => hs.2.2.2.2.2.2.1)
    · exact coreG_loadP _ _ _ _ _ _ gp _ _ _ _ (by rfl) (by rfl) (wants_core 52 107 52 _ _ _ (by rfl) (by rfl) (by rfl) (known_core 52 107 _ _ (of_decide_eq_true (by rfl)) (by rfl) (by rfl) (by rfl)) _ (by rfl)) (known_old 17 _ (of_decide_eq_true (by rfl)) (by rfl)) (fun _ hs => hs.2.2.2.2.2.2.2.1)
    · exact coreG_bin _ _ _ _ _ _ _ _ _ _ _ _ _ (by rfl) (by rfl) (wants_core 52 107 52 _ _ _ (by rfl) (by rfl) (by rfl) (known_core 52 107 _ _ (of_decide_eq_true (by rfl)) (by rfl) (by rfl) (by rfl)) _ (by rfl)) (known_core 53 108 _ _ (of_decide_eq_true (by rfl)) (by rfl) (by rfl) (by rfl)) (known_core 54 109 _ _ (of_decide_eq_true (by rfl)) (by rfl) (by rfl) (by rfl)) (eql_run true _ _ _ _ _ _ _ _ _ _ _ _ _ _ _ (eqY L))
    · exact coreG_pick _ _ _ _ _ _ _ _ _ _ _ _ (by rfl) (by rfl) (wants_none) (known_core 52 107 _ _ (of_decide_eq_true (by rfl)) (by rfl) (by rfl) (by rfl)) (known_core 55 110 _ _ (of_decide_eq_true (by rfl)) (by rfl) (by rfl) (by rfl)) (known_const _) (by rfl)
    · exact coreG_move _ _ _ _ _ _ _ (by rfl) (by rfl) (wants_none) (known_core 56 111 _ _ (of_decide_eq_true (by rfl)) (by rfl) (by rfl) (by rfl))
    · exact coreG_loadP _ _ _ _ _ _ ghi _ _ _ _ (by rfl) (by rfl) (wants_core 57 112 57 _ _ _ (by rfl) (by rfl) (by rfl) (known_core 57 112 _ _ (of_decide_eq_true (by rfl)) (by rfl) (by rfl) (by rfl)) _ (by rfl)) (known_old 12 _ (of_decide_eq_true (by rfl)) (by rfl)) (fun _ hs => hs.2.2.2.2.2.2.2.2.1)
    · exact coreG_loadP _ _ _ _ _ _ gq _ _ _ _ (by rfl) (by rfl) (wants_core 57 112 57 _ _ _ (by rfl) (by rfl) (by rfl) (known_core 57 112 _ _ (of_decide_eq_true (by rfl)) (by rfl) (by rfl) (by rfl)) _ (by rfl)) (known_old 18 _ (of_decide_eq_true (by rfl)) (by rfl)) (fun _ hs => hs.2.2.2.2.2.2.2.2.2)
    · exact coreG_bin _ _ _ _ _ _ _ _ _ _ _ _ _ (by rfl) (by rfl) (wants_core 57 112 57 _ _ _ (by rfl) (by rfl) (by rfl) (known_core 57 112 _ _ (of_decide_eq_true (by rfl)) (by rfl) (by rfl) (by rfl)) _ (by rfl)) (known_core 58 113 _ _ (of_decide_eq_true (by rfl)) (by rfl) (by rfl) (by rfl)) (known_core 59 114 _ _ (of_decide_eq_true (by rfl)) (by rfl) (by rfl) (by rfl)) (eql_run true _ _ _ _ _ _ _ _ _ _ _ _ _ _ _ (eqY H))
    · exact coreG_pick _ _ _ _ _ _ _ _ _ _ _ _ (by rfl) (by rfl) (wants_none) (known_core 57 112 _ _ (of_decide_eq_true (by rfl)) (by rfl) (by rfl) (by rfl)) (known_core 60 115 _ _ (of_decide_eq_true (by rfl)) (by rfl) (by rfl) (by rfl)) (known_const _) (by rfl)
    · exact coreG_move _ _ _ _ _ _ _ (by rfl) (by rfl) (wants_none) (known_core 61 116 _ _ (of_decide_eq_true (by rfl)) (by rfl) (by rfl) (by rfl))
    · exact coreG_loadP _ _ _ _ _ _ ga _ _ _ _ (by rfl) (by rfl) (wants_core 62 117 62 _ _ _ (by rfl) (by rfl) (by rfl) (known_core 62 117 _ _ (of_decide_eq_true (by rfl)) (by rfl) (by rfl) (by rfl)) _ (by rfl)) (known_old 3 _ (of_decide_eq_true (by rfl)) (by rfl)) (fun _ hs => hs.1)
    · exact coreG_move _ _ _ _ _ _ _ (by rfl) (by rfl) (wants_core 62 117 62 _ _ _ (by rfl) (by rfl) (by rfl) (known_core 62 117 _ _ (of_decide_eq_true (by rfl)) (by rfl) (by rfl) (by rfl)) _ (by rfl)) (known_old 2 _ (of_decide_eq_true (by rfl)) (by rfl))
    · exact coreG_loadP _ _ _ _ _ _ ga _ _ _ _ (by rfl) (by rfl) (wants_core 62 117 62 _ _ _ (by rfl) (by rfl) (by rfl) (known_core 62 117 _ _ (of_decide_eq_true (by rfl)) (by rfl) (by rfl) (by rfl)) _ (by rfl)) (known_old 3 _ (of_decide_eq_true (by rfl)) (by rfl)) (fun _ hs => hs.1)
    · exact coreG_move _ _ _ _ _ _ _ (by rfl) (by rfl) (wants_core 62 117 62 _ _ _ (by rfl) (by rfl) (by rfl) (known_core 62 117 _ _ (of_decide_eq_true (by rfl)) (by rfl) (by rfl) (by rfl)) _ (by rfl)) (known_old 2 _ (of_decide_eq_true (by rfl)) (by rfl))
    · exact core_pureAs _ (by rfl)
    · exact core_pureAs _ (by rfl)
    · exact coreG_bin _ _ _ _ _ _ _ _ _ _ _ _ _ (by rfl) (by rfl) (wants_core 62 117 62 _ _ _ (by rfl) (by rfl) (by rfl) (known_core 62 117 _ _ (of_decide_eq_true (by rfl)) (by rfl) (by rfl) (by rfl)) _ (by rfl)) (known_core 67 120 _ _ (of_decide_eq_true (by rfl)) (by rfl) (by rfl) (by rfl)) (known_core 68 123 _ _ (of_decide_eq_true (by rfl)) (by rfl) (by rfl) (by rfl)) (eql_run true _ _ _ _ _ _ _ _ _ _ _ _ _ _ _ (eqY T))
    · exact coreG_pick _ _ _ _ _ _ _ _ _ _ _ _ (by rfl) (by rfl) (wants_none) (known_core 62 117 _ _ (of_decide_eq_true (by rfl)) (by rfl) (by rfl) (by rfl)) (known_core 69 124 _ _ (of_decide_eq_true (by rfl)) (by rfl) (by rfl) (by rfl)) (known_const _) (by rfl)
  · refine all_cons ?_ (all_cons ?_ (all_cons ?_ (all_cons ?_ (all_cons ?_ (all_cons ?_ (all_cons ?_ (all_cons ?_ (all_cons ?_ (all_cons ?_ (all_cons ?_ (all_cons ?_ (all_cons ?_ (all_cons ?_ (all_cons ?_ (all_cons ?_ (all_cons ?_ (all_cons ?_ (all_cons ?_ (all_cons ?_ (all_cons ?_ (all_cons ?_ (all_cons ?_ (all_cons ?_ (all_cons ?_ (all_cons ?_ (all_cons ?_ (all_cons ?_ (all_cons ?_ (all_cons ?_ (all_cons ?_ (all_cons ?_ (all_cons ?_ (all_cons ?_ (all_cons ?_ (all_cons ?_ (all_cons ?_ (all_cons ?_ (all_cons ?_ (all_cons ?_ (all_cons ?_ (all_cons ?_ (all_cons ?_ (all_cons ?_ (all_cons ?_ (all_cons ?_ (all_cons ?_ (all_cons ?_ (all_cons ?_ (all_cons ?_ (all_cons ?_ (all_cons ?_ (all_cons ?_ (all_cons ?_ (all_cons ?_ (all_cons ?_ (all_cons ?_ (all_cons ?_ (all_cons ?_ (all_cons ?_ (all_cons ?_ (all_cons ?_ (all_cons ?_ (all_cons ?_ (all_cons ?_ (all_cons ?_ (all_cons ?_ (all_cons ?_ (all_cons ?_ (all_cons ?_ (all_cons ?_ (all_nil)))))))))))))))))))))))))))))))))))))))))))))))))))))))))))))))))))))))
    · exact core_stepAs _ (by rfl)
    · exact core_stepAs _ (by rfl)
    · exact core_stepAs _ (by rfl)
    · exact core_stepAs _ (by rfl)
    · exact fun _ => coreG_call _ 19 _ _ [.tmp 56] _ _ _ _ _ _ _ (by rfl) Try.func19 (by kernel_rfl) (by rfl) (by rfl) (wants_none) (.cons (known_core 1 56 _ _ (of_decide_eq_true (by rfl)) (by rfl) (by rfl) (by rfl)) .nil) (HOF.out)
    · exact fun _ => coreG_call _ 20 _ _ [.tmp 59] _ _ _ _ _ _ _ (by rfl) Try.func20 (by kernel_rfl) (by rfl) (by rfl) (wants_none) (.cons (known_core 3 59 _ _ (of_decide_eq_true (by rfl)) (by rfl) (by rfl) (by rfl)) .nil) (HOFr.out)
    · exact core_stepAs _ (by rfl)
    · exact core_stepAs _ (by rfl)
    · exact core_stepAs _ (by rfl)
    · exact core_stepAs _ (by rfl)
    · exact core_stepAs _ (by rfl)
    · exact core_stepAs _ (by rfl)
    · exact fun _ => coreG_call _ 21 _ _ [.tmp 63, .tmp 64] _ _ _ _ _ _ _ (by rfl) Try.func21 (by kernel_rfl) (by rfl) (by rfl) (wants_core 7 62 7 _ _ _ (by rfl) (by rfl) (by rfl) (known_core 7 62 _ _ (of_decide_eq_true (by rfl)) (by rfl) (by rfl) (by rfl)) _ (by rfl)) (.cons (known_core 8 63 _ _ (of_decide_eq_true (by rfl)) (by rfl) (by rfl) (by rfl)) (.cons (known_core 9 64 _ _ (of_decide_eq_true (by rfl)) (by rfl) (by rfl) (by rfl)) .nil)) (HCM.out)
    · exact fun _ => coreG_call _ 22 _ _ [.tmp 66, .tmp 67] _ _ _ _ _ _ _ (by rfl) Try.func22 (by kernel_rfl) (by rfl) (by rfl) (wants_core 7 62 7 _ _ _ (by rfl) (by rfl) (by rfl) (known_core 7 62 _ _ (of_decide_eq_true (by rfl)) (by rfl) (by rfl) (by rfl)) _ (by rfl)) (.cons (known_core 10 66 _ _ (of_decide_eq_true (by rfl)) (by rfl) (by rfl) (by rfl)) (.cons (known_core 11 67 _ _ (of_decide_eq_true (by rfl)) (by rfl) (by rfl) (by rfl)) .nil)) (HCMr.out)
    · exact core_stepAs _ (by rfl)
    · exact core_stepAs _ (by rfl)
    · exact core_stepAs _ (by rfl)
    · exact core_stepAs _ (by rfl)
    · exact core_stepAs _ (by rfl)
    · exact fun _ => coreG_call _ 23 _ _ [.tmp 72] _ _ _ _ _ _ _ (by rfl) Try.func23 (by kernel_rfl) (by rfl) (by rfl) (wants_core 16 71 16 _ _ _ (by rfl) (by rfl) (by rfl) (known_core 16 71 _ _ (of_decide_eq_true (by rfl)) (by rfl) (by rfl) (by rfl)) _ (by rfl)) (.cons (known_core 17 72 _ _ (of_decide_eq_true (by rfl)) (by rfl) (by rfl) (by rfl)) .nil) (HBS.out)
    · exact fun _ => coreG_call _ 24 _ _ [.tmp 74] _ _ _ _ _ _ _ (by rfl) Try.func24 (by kernel_rfl) (by rfl) (by rfl) (wants_core 16 71 16 _ _ _ (by rfl) (by rfl) (by rfl) (known_core 16 71 _ _ (of_decide_eq_true (by rfl)) (by rfl) (by rfl) (by rfl)) _ (by rfl)) (.cons (known_core 18 74 _ _ (of_decide_eq_true (by rfl)) (by rfl) (by rfl) (by rfl)) .nil) (HBSr.out)
    · exact core_stepAs _ (by rfl)
    · exact core_stepAs _ (by rfl)
    · exact core_stepAs _ (by rfl)
    · exact core_stepAs _ (by rfl)
    · exact core_stepAs _ (by rfl)
    · exact core_stepAs _ (by rfl)
    · exact core_stepAs _ (by rfl)
    · exact fun _ => coreG_call _ 25 _ _ [.tmp 79, .tmp 80] _ _ _ _ _ _ _ (by rfl) Try.func25 (by kernel_rfl) (by rfl) (by rfl) (wants_core 23 78 23 _ _ _ (by rfl) (by rfl) (by rfl) (known_core 23 78 _ _ (of_decide_eq_true (by rfl)) (by rfl) (by rfl) (by rfl)) _ (by rfl)) (.cons (known_core 24 79 _ _ (of_decide_eq_true (by rfl)) (by rfl) (by rfl) (by rfl)) (.cons (known_core 25 80 _ _ (of_decide_eq_true (by rfl)) (by rfl) (by rfl) (by rfl)) .nil)) (HBT.out)
    · exact fun _ => coreG_call _ 26 _ _ [.tmp 82, .tmp 83] _ _ _ _ _ _ _ (by rfl) Try.func26 (by kernel_rfl) (by rfl) (by rfl) (wants_core 23 78 23 _ _ _ (by rfl) (by rfl) (by rfl) (known_core 23 78 _ _ (of_decide_eq_true (by rfl)) (by rfl) (by rfl) (by rfl)) _ (by rfl)) (.cons (known_core 26 82 _ _ (of_decide_eq_true (by rfl)) (by rfl) (by rfl) (by rfl)) (.cons (known_core 27 83 _ _ (of_decide_eq_true (by rfl)) (by rfl) (by rfl) (by rfl)) .nil)) (HBTr.out)
    · exact core_stepAs _ (by rfl)
    · exact core_stepAs _ (by rfl)
    · exact core_stepAs _ (by rfl)
    · exact core_stepAs _ (by rfl)
    · exact core_stepAs _ (by rfl)
    · exact core_stepAs _ (by rfl)
    · exact core_stepAs _ (by rfl)
    · exact core_stepAs _ (by rfl)
    · exact core_stepAs _ (by rfl)
    · exact core_stepAs _ (by rfl)
    · exact core_stepAs _ (by rfl)
    · exact core_stepAs _ (by rfl)
    · exact core_stepAs _ (by rfl)
    · exact core_stepAs _ (by rfl)
    · exact core_stepAs _ (by rfl)
    · exact core_stepAs _ (by rfl)
    · exact core_stepAs _ (by rfl)
    · exact core_stepAs _ (by rfl)
    · exact core_stepAs _ (by rfl)
    · exact core_stepAs _ (by rfl)
    · exact core_stepAs _ (by rfl)
    · exact core_stepAs _ (by rfl)
    · exact core_stepAs _ (by rfl)
    · exact core_stepAs _ (by rfl)
    · exact core_stepAs _ (by rfl)
    · exact core_stepAs _ (by rfl)
    · exact core_stepAs _ (by rfl)
    · exact core_stepAs _ (by rfl)
    · exact core_stepAs _ (by rfl)
    · exact core_stepAs _ (by rfl)
    · exact core_stepAs _ (by rfl)
    · exact core_stepAs _ (by rfl)
    · exact core_stepAs _ (by rfl)
    · exact core_stepAs _ (by rfl)
    · exact core_stepAs _ (by rfl)
    · exact core_stepAs _ (by rfl)
    · exact core_stepAs _ (by rfl)
    · exact fun _ => coreG_call _ 27 _ _ [.tmp 118, .tmp 119] _ _ _ _ _ _ _ (by rfl) Try.func27 (by kernel_rfl) (by rfl) (by rfl) (wants_core 62 117 62 _ _ _ (by rfl) (by rfl) (by rfl) (known_core 62 117 _ _ (of_decide_eq_true (by rfl)) (by rfl) (by rfl) (by rfl)) _ (by rfl)) (.cons (known_core 63 118 _ _ (of_decide_eq_true (by rfl)) (by rfl) (by rfl) (by rfl)) (.cons (known_core 64 119 _ _ (of_decide_eq_true (by rfl)) (by rfl) (by rfl) (by rfl)) .nil)) (HSH.out)
    · exact fun _ => coreG_call _ 28 _ _ [.tmp 121, .tmp 122] _ _ _ _ _ _ _ (by rfl) Try.func28 (by kernel_rfl) (by rfl) (by rfl) (wants_core 62 117 62 _ _ _ (by rfl) (by rfl) (by rfl) (known_core 62 117 _ _ (of_decide_eq_true (by rfl)) (by rfl) (by rfl) (by rfl)) _ (by rfl)) (.cons (known_core 65 121 _ _ (of_decide_eq_true (by rfl)) (by rfl) (by rfl) (by rfl)) (.cons (known_core 66 122 _ _ (of_decide_eq_true (by rfl)) (by rfl) (by rfl) (by rfl)) .nil)) (HSHr.out)
    · exact core_stepAs _ (by rfl)
    · exact core_stepAs _ (by rfl)
  intro vs y14 hc
  have BZ := bel_tr BW.out hc.bel
  refine assign_one (i := 71) (.tmp 125) 6 _ _ _ (.bool true) (by kernel_rfl) (by rfl) (hc.at_ (of_decide_eq_true (by kernel_rfl)) (by rfl) 70 125 _ (.bool true) (by rfl) (by rfl) (by rfl)) (⟨Fa.out.on hc.bel, Fb.out.on hc.bel, Fs.out.on hc.bel, Ft.out.on hc.bel, Fd.out.on hc.bel, Fu.out.on hc.bel, Flo.out.on hc.bel, Fp.out.on hc.bel, Fhi.out.on hc.bel, Fq.out.on hc.bel⟩) ?_
  refine wpAnyH_done (by kernel_rfl) ?_ _
  refine NoPanic.normal ?_
  generalize hA : Act.put (over _ _ vs) (some 6) (.bool true) = A
  have hA0 : A.tmps.getD 6 undef = .bool true := by rw [← hA]; exact put_at _ _ _ (by rw [over_size]; exact Nat.le_of_ble_eq_true rfl)
  have hAd : A.defers = [] := by rw [← hA, put_defers, over_defers]
  clear hA hc
  go_wp2_with fail
  refine bodyPost_ret (v := .bool true) (by simp [results, Try.results3, go_sem] at hA0 ⊢; simp [hA0]) hAd ⟨rfl, BZ⟩

theorem of_walk (X Y : Nat) (hX : X < 2 ^ 256) (hY : Y < 2 ^ 256) (n : Int) (hn : -9223372036854775808 ≤ n) (hn' : n ≤ 9223372036854775807) (w : World) : Calls Try.prog 3 #[num X, num Y, .int .i64 n] w fun e w' => e = .returned (.bool true) ∧ Below w.heap.size w w' := by
  obtain ⟨S, c, hS, hc, e1, A⟩ := add_ex X Y hX hY
  obtain ⟨D, l, hD, hl, e2, B⟩ := sub_ex X Y hX hY
  obtain ⟨L, H, hL, hH, e3, M⟩ := mul_ex X Y hX hY
  exact of_some X Y S c D l L H (wd X 1) (Go.bitLen X) (bt X n) (shN X n) (cmpN X Y) n A (radd_any X Y S c hX hY hS hc e1) B (rsub_any X Y D l hX hY hD hl e2) M (rmul_any X Y L H hX hY hL hH e3)
    (of_any (wd X 1) (wd_lt X 1)) (rof1_any (wd X 1) (wd_lt X 1)) (cmp_any X Y hX hY) (rcmp_any X Y hX hY) (bits_any X hX) (rbits_any X hX) (bit_any X hX n) (rbit_any X hX n) (shift_any X hX n hn hn') (rshift_any X hX n hn hn') w
end Go.Proofs.Ytgfgicpffajgdaa
