/-
 balefireref03.twice: one bit more.
-/
import Derived.Test.YtodlpmepoakdlaaMRCmp
import Derived.Test.YtodlpmepoakdlaaMTree
import Derived.Test.YtodlpmepoakdlaaMWide
namespace Go.Proofs.Ytodlpmepoakdlaa
set_option maxRecDepth 100000
open Go.RowKit
set_option linter.unusedSimpArgs false
set_option linter.unusedVariables false
attribute [local go_sem ↓] Go.wp_at_zero Go.wp_at_succ

set_option maxRecDepth 100000 in
set_option maxHeartbeats 8000000 in
theorem twice_over (R bit M S U D l : Nat)
  (hb : ((wd S 0 : Nat) : Int) + (bit : Nat) = (wd U 0 : Nat))
  (hu : IntKind.u64.wrap (((wd S 0 : Nat) : Int) + (bit : Nat)) = (wd U 0 : Nat))
  (hv : IntKind.u64.wrap ((wd U 0 : Nat) : Int) = (wd U 0 : Nat))
  (AD : ∀ w, Calls Try.prog 59 #[num R, num R] w fun e w' => e = .returned (.tuple #[num S, .int .u64 1]) ∧ Below w.heap.size w w')
  (SU : ∀ w, Calls Try.prog 47 #[.agg #[.int .u64 (wd U 0 : Nat), .int .u64 (wd S 1 : Nat), .int .u64 (wd S 2 : Nat), .int .u64 (wd S 3 : Nat)], num M] w fun e w' => e = .returned (.tuple #[num D, .int .u64 (l : Nat)]) ∧ Below w.heap.size w w')
  (w : World) : Calls Try.prog 87 #[num R, .int .u64 (bit : Nat), num M] w fun e w' => e = .returned (num D) ∧ Below w.heap.size w w' := by
 have HAD := Lib.hid AD
 have HSU := Lib.hid SU
 clear AD SU
 go_enter Try.func87, Try.ntmps87
 go_wp2_with fail
 have BW := Lib.hid (Below.refl w.heap.size w)
 generalize hW1 : (((w.alloc (.cells #[.int .u64 (wd R 0 : Nat), .int .u64 (wd R 1 : Nat), .int .u64 (wd R 2 : Nat), .int .u64 (wd R 3 : Nat)] 24)).alloc (.cells #[.int .u64 (wd M 0 : Nat), .int .u64 (wd M 1 : Nat), .int .u64 (wd M 2 : Nat), .int .u64 (wd M 3 : Nat)] 24)).alloc (.cells #[.int .u64 0, .int .u64 0, .int .u64 0, .int .u64 0] 24)) = W1 at *
 have Nr : At W1 (w.heap.size) _ _ := at_of hW1 (((At.at_ _ _ _ _ (by simp)).alloc _).alloc _)
 have Nm : At W1 (w.heap.size + 1) _ _ := at_of hW1 ((At.at_ _ _ _ _ (by simp)).alloc _)
 have No : At W1 (w.heap.size + 1 + 1) _ _ := at_of hW1 (At.at_ _ _ _ _ (by simp))
 have Eo : w.heap.size ≤ w.heap.size + 1 + 1 := by have := BW.out.size; omega
 have Dro : w.heap.size ≠ w.heap.size + 1 + 1 := by omega
 have Dmo : w.heap.size + 1 ≠ w.heap.size + 1 + 1 := by omega
 have NB := gr_of hW1 (gr_alloc (gr_alloc (gr_alloc BW.out _) _) _)
 clear BW
 clear hW1
 generalize w.heap.size + 1 + 1 = go at *
 generalize w.heap.size + 1 = gm at *
 obtain ⟨gr, hg0⟩ : ∃ g, g = w.heap.size := ⟨_, rfl⟩
 rw [← hg0] at Nr ⊢
 rw [← hg0] at Dro
 clear hg0
 have Fr := Lib.hid Nr
 have Fm := Lib.hid Nm
 have Fo := Lib.hid No
 have BW := Lib.hid NB
 clear NB Nr Nm No
 refine (HAD.out _).mono ?_
 rintro e v2 ⟨rfl, z2⟩
 have Nr := Lib.hid (Fr.out.on z2)
 have Nm := Lib.hid (Fm.out.on z2)
 have No := Lib.hid (Fo.out.on z2)
 have NB := Lib.hid (bel_tr BW.out z2)
 clear BW z2 Fr Fm Fo
 have Fr := Nr
 have Fm := Nm
 have Fo := No
 have BW := NB
 clear NB Nr Nm No
 have Lm := Fm.out.lt
 have cm0 := Fm.out.c0
 have cm1 := Fm.out.c1
 have cm2 := Fm.out.c2
 have cm3 := Fm.out.c3
 go_wp2_with fail
 generalize hW3 : (v2.alloc (.cells #[.int .u64 (wd U 0 : Nat), .int .u64 (wd S 1 : Nat), .int .u64 (wd S 2 : Nat), .int .u64 (wd S 3 : Nat)] 24)) = W3 at *
 clear Lm cm0 cm1 cm2 cm3
 have Nx : At W3 (v2.heap.size) _ _ := at_of hW3 (At.at_ _ _ _ _ (by simp))
 have Ex : w.heap.size ≤ v2.heap.size := by have := BW.out.size; omega
 have Drx : gr ≠ v2.heap.size := by have := Fr.out.lt; omega
 have Dmx : gm ≠ v2.heap.size := by have := Fm.out.lt; omega
 have Dox : go ≠ v2.heap.size := by have := Fo.out.lt; omega
 have Nr := at_of hW3 (Fr.out.alloc _)
 have Nm := at_of hW3 (Fm.out.alloc _)
 have No := at_of hW3 (Fo.out.alloc _)
 have NB := gr_of hW3 (gr_alloc BW.out _)
 clear BW Fr Fm Fo
 clear hW3
 generalize v2.heap.size = gx at *
 have Fr := Lib.hid Nr
 have Fm := Lib.hid Nm
 have Fo := Lib.hid No
 have Fx := Lib.hid Nx
 have BW := Lib.hid NB
 clear NB Nr Nm No Nx
 refine (HSU.out _).mono ?_
 rintro e v4 ⟨rfl, z4⟩
 have Nr := Lib.hid (Fr.out.on z4)
 have Nm := Lib.hid (Fm.out.on z4)
 have No := Lib.hid (Fo.out.on z4)
 have Nx := Lib.hid (Fx.out.on z4)
 have NB := Lib.hid (bel_tr BW.out z4)
 clear BW z4 Fr Fm Fo Fx
 have Fr := Nr
 have Fm := Nm
 have Fo := No
 have Fx := Nx
 have BW := NB
 clear NB Nr Nm No Nx
 have Lx := Fx.out.lt
 have cx0 := Fx.out.c0
 have cx1 := Fx.out.c1
 have cx2 := Fx.out.c2
 have cx3 := Fx.out.c3
 have fx0 : v4.frozen? ⟨gx, 0, none⟩ = false := Fx.out.frozen 0
 have fx1 : v4.frozen? ⟨gx, 1, none⟩ = false := Fx.out.frozen 1
 have fx2 : v4.frozen? ⟨gx, 2, none⟩ = false := Fx.out.frozen 2
 have fx3 : v4.frozen? ⟨gx, 3, none⟩ = false := Fx.out.frozen 3
 have Lo := Fo.out.lt
 have co0 : v4.cell? ⟨go, 0, none⟩ = some (.int .u64 0) := Fo.out.cell 0
 have co1 : v4.cell? ⟨go, 1, none⟩ = some (.int .u64 0) := Fo.out.cell 1
 have co2 : v4.cell? ⟨go, 2, none⟩ = some (.int .u64 0) := Fo.out.cell 2
 have co3 : v4.cell? ⟨go, 3, none⟩ = some (.int .u64 0) := Fo.out.cell 3
 have fo0 : v4.frozen? ⟨go, 0, none⟩ = false := Fo.out.frozen 0
 have fo1 : v4.frozen? ⟨go, 1, none⟩ = false := Fo.out.frozen 1
 have fo2 : v4.frozen? ⟨go, 2, none⟩ = false := Fo.out.frozen 2
 have fo3 : v4.frozen? ⟨go, 3, none⟩ = false := Fo.out.frozen 3
 go_wp2_with fail
 generalize hW5 : ((((((((v4.setCell ⟨gx, 0, none⟩ (.int .u64 (wd D 0 : Nat))).setCell ⟨gx, 1, none⟩ (.int .u64 (wd D 1 : Nat))).setCell ⟨gx, 2, none⟩ (.int .u64 (wd D 2 : Nat))).setCell ⟨gx, 3, none⟩ (.int .u64 (wd D 3 : Nat))).setCell ⟨go, 0, none⟩ (.int .u64 (wd D 0 : Nat))).setCell ⟨go, 1, none⟩ (.int .u64 (wd D 1 : Nat))).setCell ⟨go, 2, none⟩ (.int .u64 (wd D 2 : Nat))).setCell ⟨go, 3, none⟩ (.int .u64 (wd D 3 : Nat))) = W5 at *
 clear Lx cx0 cx1 cx2 cx3 fx0 fx1 fx2 fx3 Lo co0 co1 co2 co3 fo0 fo1 fo2 fo3
 have Nr_1 := at_of hW5 ((((Fr.out).far4 Drx _ _ _ _)).far4 Dro _ _ _ _)
 have Nm_1 := at_of hW5 ((((Fm.out).far4 Dmx _ _ _ _)).far4 Dmo _ _ _ _)
 have No_1 := at_of hW5 ((((Fo.out).far4 Dox _ _ _ _)).put4 _ _ _ _)
 have Nx_1 := at_of hW5 ((((Fx.out).put4 _ _ _ _)).far4 Dox.symm _ _ _ _)
 have NB_1 := gr_of hW5 ((((((((((BW.out).setCell Ex _).setCell Ex _).setCell Ex _).setCell Ex _)).setCell Eo _).setCell Eo _).setCell Eo _).setCell Eo _)
 have Nr := Nr_1
 have Nm := Nm_1
 have No := No_1
 have Nx := Nx_1
 have NB := NB_1
 clear BW Fr Fm Fo Fx Nr_1 Nm_1 No_1 Nx_1 NB_1
 clear hW5
 have Fr := Lib.hid Nr
 have Fm := Lib.hid Nm
 have Fo := Lib.hid No
 have Fx := Lib.hid Nx
 have BW := Lib.hid NB
 clear NB Nr Nm No Nx
 have Lo := Fo.out.lt
 have co0 := Fo.out.c0
 have co1 := Fo.out.c1
 have co2 := Fo.out.c2
 have co3 := Fo.out.c3
 exact bodyPost_ret (v := num D) (by simp [results, Try.results87, go_sem, *]) rfl ⟨rfl, BW.out⟩

set_option maxRecDepth 100000 in
set_option maxHeartbeats 8000000 in
theorem twice_ge (R bit M S U D l : Nat)
  (cv : Int)
  (hcv : 0 ≤ cv)
  (hb : ((wd S 0 : Nat) : Int) + (bit : Nat) = (wd U 0 : Nat))
  (hu : IntKind.u64.wrap (((wd S 0 : Nat) : Int) + (bit : Nat)) = (wd U 0 : Nat))
  (hv : IntKind.u64.wrap ((wd U 0 : Nat) : Int) = (wd U 0 : Nat))
  (AD : ∀ w, Calls Try.prog 59 #[num R, num R] w fun e w' => e = .returned (.tuple #[num S, .int .u64 0]) ∧ Below w.heap.size w w')
  (CM : ∀ w, Calls Try.prog 60 #[.agg #[.int .u64 (wd U 0 : Nat), .int .u64 (wd S 1 : Nat), .int .u64 (wd S 2 : Nat), .int .u64 (wd S 3 : Nat)], num M] w fun e w' => e = .returned (.int .i64 cv) ∧ Below w.heap.size w w')
  (SU : ∀ w, Calls Try.prog 47 #[.agg #[.int .u64 (wd U 0 : Nat), .int .u64 (wd S 1 : Nat), .int .u64 (wd S 2 : Nat), .int .u64 (wd S 3 : Nat)], num M] w fun e w' => e = .returned (.tuple #[num D, .int .u64 (l : Nat)]) ∧ Below w.heap.size w w')
  (w : World) : Calls Try.prog 87 #[num R, .int .u64 (bit : Nat), num M] w fun e w' => e = .returned (num D) ∧ Below w.heap.size w w' := by
 have HAD := Lib.hid AD
 have HCM := Lib.hid CM
 have HSU := Lib.hid SU
 clear AD CM SU
 go_enter Try.func87, Try.ntmps87
 go_wp2_with fail
 have BW := Lib.hid (Below.refl w.heap.size w)
 generalize hW1 : (((w.alloc (.cells #[.int .u64 (wd R 0 : Nat), .int .u64 (wd R 1 : Nat), .int .u64 (wd R 2 : Nat), .int .u64 (wd R 3 : Nat)] 24)).alloc (.cells #[.int .u64 (wd M 0 : Nat), .int .u64 (wd M 1 : Nat), .int .u64 (wd M 2 : Nat), .int .u64 (wd M 3 : Nat)] 24)).alloc (.cells #[.int .u64 0, .int .u64 0, .int .u64 0, .int .u64 0] 24)) = W1 at *
 have Nr : At W1 (w.heap.size) _ _ := at_of hW1 (((At.at_ _ _ _ _ (by simp)).alloc _).alloc _)
 have Nm : At W1 (w.heap.size + 1) _ _ := at_of hW1 ((At.at_ _ _ _ _ (by simp)).alloc _)
 have No : At W1 (w.heap.size + 1 + 1) _ _ := at_of hW1 (At.at_ _ _ _ _ (by simp))
 have Eo : w.heap.size ≤ w.heap.size + 1 + 1 := by have := BW.out.size; omega
 have Dro : w.heap.size ≠ w.heap.size + 1 + 1 := by omega
 have Dmo : w.heap.size + 1 ≠ w.heap.size + 1 + 1 := by omega
 have NB := gr_of hW1 (gr_alloc (gr_alloc (gr_alloc BW.out _) _) _)
 clear BW
 clear hW1
 generalize w.heap.size + 1 + 1 = go at *
 generalize w.heap.size + 1 = gm at *
 obtain ⟨gr, hg0⟩ : ∃ g, g = w.heap.size := ⟨_, rfl⟩
 rw [← hg0] at Nr ⊢
 rw [← hg0] at Dro
 clear hg0
 have Fr := Lib.hid Nr
 have Fm := Lib.hid Nm
 have Fo := Lib.hid No
 have BW := Lib.hid NB
 clear NB Nr Nm No
 refine (HAD.out _).mono ?_
 rintro e v2 ⟨rfl, z2⟩
 have Nr := Lib.hid (Fr.out.on z2)
 have Nm := Lib.hid (Fm.out.on z2)
 have No := Lib.hid (Fo.out.on z2)
 have NB := Lib.hid (bel_tr BW.out z2)
 clear BW z2 Fr Fm Fo
 have Fr := Nr
 have Fm := Nm
 have Fo := No
 have BW := NB
 clear NB Nr Nm No
 have Lm := Fm.out.lt
 have cm0 := Fm.out.c0
 have cm1 := Fm.out.c1
 have cm2 := Fm.out.c2
 have cm3 := Fm.out.c3
 go_wp2_with fail
 generalize hW3 : (v2.alloc (.cells #[.int .u64 (wd U 0 : Nat), .int .u64 (wd S 1 : Nat), .int .u64 (wd S 2 : Nat), .int .u64 (wd S 3 : Nat)] 24)) = W3 at *
 clear Lm cm0 cm1 cm2 cm3
 have Nx : At W3 (v2.heap.size) _ _ := at_of hW3 (At.at_ _ _ _ _ (by simp))
 have Ex : w.heap.size ≤ v2.heap.size := by have := BW.out.size; omega
 have Drx : gr ≠ v2.heap.size := by have := Fr.out.lt; omega
 have Dmx : gm ≠ v2.heap.size := by have := Fm.out.lt; omega
 have Dox : go ≠ v2.heap.size := by have := Fo.out.lt; omega
 have Nr := at_of hW3 (Fr.out.alloc _)
 have Nm := at_of hW3 (Fm.out.alloc _)
 have No := at_of hW3 (Fo.out.alloc _)
 have NB := gr_of hW3 (gr_alloc BW.out _)
 clear BW Fr Fm Fo
 clear hW3
 generalize v2.heap.size = gx at *
 have Fr := Lib.hid Nr
 have Fm := Lib.hid Nm
 have Fo := Lib.hid No
 have Fx := Lib.hid Nx
 have BW := Lib.hid NB
 clear NB Nr Nm No Nx
 refine (HCM.out _).mono ?_
 rintro e v4 ⟨rfl, z4⟩
 have Nr := Lib.hid (Fr.out.on z4)
 have Nm := Lib.hid (Fm.out.on z4)
 have No := Lib.hid (Fo.out.on z4)
 have Nx := Lib.hid (Fx.out.on z4)
 have NB := Lib.hid (bel_tr BW.out z4)
 clear BW z4 Fr Fm Fo Fx
 have Fr := Nr
 have Fm := Nm
 have Fo := No
 have Fx := Nx
 have BW := NB
 clear NB Nr Nm No Nx
 have Lm := Fm.out.lt
 have cm0 := Fm.out.c0
 have cm1 := Fm.out.c1
 have cm2 := Fm.out.c2
 have cm3 := Fm.out.c3
 have Lx := Fx.out.lt
 have cx0 := Fx.out.c0
 have cx1 := Fx.out.c1
 have cx2 := Fx.out.c2
 have cx3 := Fx.out.c3
 go_wp2_with fail
 clear Lm cm0 cm1 cm2 cm3 Lx cx0 cx1 cx2 cx3
 refine (HSU.out _).mono ?_
 rintro e v5 ⟨rfl, z5⟩
 have Nr := Lib.hid (Fr.out.on z5)
 have Nm := Lib.hid (Fm.out.on z5)
 have No := Lib.hid (Fo.out.on z5)
 have Nx := Lib.hid (Fx.out.on z5)
 have NB := Lib.hid (bel_tr BW.out z5)
 clear BW z5 Fr Fm Fo Fx
 have Fr := Nr
 have Fm := Nm
 have Fo := No
 have Fx := Nx
 have BW := NB
 clear NB Nr Nm No Nx
 have Lx := Fx.out.lt
 have cx0 := Fx.out.c0
 have cx1 := Fx.out.c1
 have cx2 := Fx.out.c2
 have cx3 := Fx.out.c3
 have fx0 : v5.frozen? ⟨gx, 0, none⟩ = false := Fx.out.frozen 0
 have fx1 : v5.frozen? ⟨gx, 1, none⟩ = false := Fx.out.frozen 1
 have fx2 : v5.frozen? ⟨gx, 2, none⟩ = false := Fx.out.frozen 2
 have fx3 : v5.frozen? ⟨gx, 3, none⟩ = false := Fx.out.frozen 3
 have Lo := Fo.out.lt
 have co0 : v5.cell? ⟨go, 0, none⟩ = some (.int .u64 0) := Fo.out.cell 0
 have co1 : v5.cell? ⟨go, 1, none⟩ = some (.int .u64 0) := Fo.out.cell 1
 have co2 : v5.cell? ⟨go, 2, none⟩ = some (.int .u64 0) := Fo.out.cell 2
 have co3 : v5.cell? ⟨go, 3, none⟩ = some (.int .u64 0) := Fo.out.cell 3
 have fo0 : v5.frozen? ⟨go, 0, none⟩ = false := Fo.out.frozen 0
 have fo1 : v5.frozen? ⟨go, 1, none⟩ = false := Fo.out.frozen 1
 have fo2 : v5.frozen? ⟨go, 2, none⟩ = false := Fo.out.frozen 2
 have fo3 : v5.frozen? ⟨go, 3, none⟩ = false := Fo.out.frozen 3
 go_wp2_with fail
 generalize hW6 : ((((((((v5.setCell ⟨gx, 0, none⟩ (.int .u64 (wd D 0 : Nat))).setCell ⟨gx, 1, none⟩ (.int .u64 (wd D 1 : Nat))).setCell ⟨gx, 2, none⟩ (.int .u64 (wd D 2 : Nat))).setCell ⟨gx, 3, none⟩ (.int .u64 (wd D 3 : Nat))).setCell ⟨go, 0, none⟩ (.int .u64 (wd D 0 : Nat))).setCell ⟨go, 1, none⟩ (.int .u64 (wd D 1 : Nat))).setCell ⟨go, 2, none⟩ (.int .u64 (wd D 2 : Nat))).setCell ⟨go, 3, none⟩ (.int .u64 (wd D 3 : Nat))) = W6 at *
 clear Lx cx0 cx1 cx2 cx3 fx0 fx1 fx2 fx3 Lo co0 co1 co2 co3 fo0 fo1 fo2 fo3
 have Nr_1 := at_of hW6 ((((Fr.out).far4 Drx _ _ _ _)).far4 Dro _ _ _ _)
 have Nm_1 := at_of hW6 ((((Fm.out).far4 Dmx _ _ _ _)).far4 Dmo _ _ _ _)
 have No_1 := at_of hW6 ((((Fo.out).far4 Dox _ _ _ _)).put4 _ _ _ _)
 have Nx_1 := at_of hW6 ((((Fx.out).put4 _ _ _ _)).far4 Dox.symm _ _ _ _)
 have NB_1 := gr_of hW6 ((((((((((BW.out).setCell Ex _).setCell Ex _).setCell Ex _).setCell Ex _)).setCell Eo _).setCell Eo _).setCell Eo _).setCell Eo _)
 have Nr := Nr_1
 have Nm := Nm_1
 have No := No_1
 have Nx := Nx_1
 have NB := NB_1
 clear BW Fr Fm Fo Fx Nr_1 Nm_1 No_1 Nx_1 NB_1
 clear hW6
 have Fr := Lib.hid Nr
 have Fm := Lib.hid Nm
 have Fo := Lib.hid No
 have Fx := Lib.hid Nx
 have BW := Lib.hid NB
 clear NB Nr Nm No Nx
 have Lo := Fo.out.lt
 have co0 := Fo.out.c0
 have co1 := Fo.out.c1
 have co2 := Fo.out.c2
 have co3 := Fo.out.c3
 exact bodyPost_ret (v := num D) (by simp [results, Try.results87, go_sem, *]) rfl ⟨rfl, BW.out⟩

set_option maxRecDepth 100000 in
set_option maxHeartbeats 8000000 in
theorem twice_lt (R bit M S U : Nat)
  (cv : Int)
  (hcv : cv < 0)
  (hb : ((wd S 0 : Nat) : Int) + (bit : Nat) = (wd U 0 : Nat))
  (hu : IntKind.u64.wrap (((wd S 0 : Nat) : Int) + (bit : Nat)) = (wd U 0 : Nat))
  (hv : IntKind.u64.wrap ((wd U 0 : Nat) : Int) = (wd U 0 : Nat))
  (AD : ∀ w, Calls Try.prog 59 #[num R, num R] w fun e w' => e = .returned (.tuple #[num S, .int .u64 0]) ∧ Below w.heap.size w w')
  (CM : ∀ w, Calls Try.prog 60 #[.agg #[.int .u64 (wd U 0 : Nat), .int .u64 (wd S 1 : Nat), .int .u64 (wd S 2 : Nat), .int .u64 (wd S 3 : Nat)], num M] w fun e w' => e = .returned (.int .i64 cv) ∧ Below w.heap.size w w')
  (w : World) : Calls Try.prog 87 #[num R, .int .u64 (bit : Nat), num M] w fun e w' => e = .returned (.agg #[.int .u64 (wd U 0 : Nat), .int .u64 (wd S 1 : Nat), .int .u64 (wd S 2 : Nat), .int .u64 (wd S 3 : Nat)]) ∧ Below w.heap.size w w' := by
 have HAD := Lib.hid AD
 have HCM := Lib.hid CM
 clear AD CM
 go_enter Try.func87, Try.ntmps87
 go_wp2_with fail
 have BW := Lib.hid (Below.refl w.heap.size w)
 generalize hW1 : (((w.alloc (.cells #[.int .u64 (wd R 0 : Nat), .int .u64 (wd R 1 : Nat), .int .u64 (wd R 2 : Nat), .int .u64 (wd R 3 : Nat)] 24)).alloc (.cells #[.int .u64 (wd M 0 : Nat), .int .u64 (wd M 1 : Nat), .int .u64 (wd M 2 : Nat), .int .u64 (wd M 3 : Nat)] 24)).alloc (.cells #[.int .u64 0, .int .u64 0, .int .u64 0, .int .u64 0] 24)) = W1 at *
 have Nr : At W1 (w.heap.size) _ _ := at_of hW1 (((At.at_ _ _ _ _ (by simp)).alloc _).alloc _)
 have Nm : At W1 (w.heap.size + 1) _ _ := at_of hW1 ((At.at_ _ _ _ _ (by simp)).alloc _)
 have No : At W1 (w.heap.size + 1 + 1) _ _ := at_of hW1 (At.at_ _ _ _ _ (by simp))
 have Eo : w.heap.size ≤ w.heap.size + 1 + 1 := by have := BW.out.size; omega
 have Dro : w.heap.size ≠ w.heap.size + 1 + 1 := by omega
 have Dmo : w.heap.size + 1 ≠ w.heap.size + 1 + 1 := by omega
 have NB := gr_of hW1 (gr_alloc (gr_alloc (gr_alloc BW.out _) _) _)
 clear BW
 clear hW1
 generalize w.heap.size + 1 + 1 = go at *
 generalize w.heap.size + 1 = gm at *
 obtain ⟨gr, hg0⟩ : ∃ g, g = w.heap.size := ⟨_, rfl⟩
 rw [← hg0] at Nr ⊢
 rw [← hg0] at Dro
 clear hg0
 have Fr := Lib.hid Nr
 have Fm := Lib.hid Nm
 have Fo := Lib.hid No
 have BW := Lib.hid NB
 clear NB Nr Nm No
 refine (HAD.out _).mono ?_
 rintro e v2 ⟨rfl, z2⟩
 have Nr := Lib.hid (Fr.out.on z2)
 have Nm := Lib.hid (Fm.out.on z2)
 have No := Lib.hid (Fo.out.on z2)
 have NB := Lib.hid (bel_tr BW.out z2)
 clear BW z2 Fr Fm Fo
 have Fr := Nr
 have Fm := Nm
 have Fo := No
 have BW := NB
 clear NB Nr Nm No
 have Lm := Fm.out.lt
 have cm0 := Fm.out.c0
 have cm1 := Fm.out.c1
 have cm2 := Fm.out.c2
 have cm3 := Fm.out.c3
 go_wp2_with fail
 generalize hW3 : (v2.alloc (.cells #[.int .u64 (wd U 0 : Nat), .int .u64 (wd S 1 : Nat), .int .u64 (wd S 2 : Nat), .int .u64 (wd S 3 : Nat)] 24)) = W3 at *
 clear Lm cm0 cm1 cm2 cm3
 have Nx : At W3 (v2.heap.size) _ _ := at_of hW3 (At.at_ _ _ _ _ (by simp))
 have Ex : w.heap.size ≤ v2.heap.size := by have := BW.out.size; omega
 have Drx : gr ≠ v2.heap.size := by have := Fr.out.lt; omega
 have Dmx : gm ≠ v2.heap.size := by have := Fm.out.lt; omega
 have Dox : go ≠ v2.heap.size := by have := Fo.out.lt; omega
 have Nr := at_of hW3 (Fr.out.alloc _)
 have Nm := at_of hW3 (Fm.out.alloc _)
 have No := at_of hW3 (Fo.out.alloc _)
 have NB := gr_of hW3 (gr_alloc BW.out _)
 clear BW Fr Fm Fo
 clear hW3
 generalize v2.heap.size = gx at *
 have Fr := Lib.hid Nr
 have Fm := Lib.hid Nm
 have Fo := Lib.hid No
 have Fx := Lib.hid Nx
 have BW := Lib.hid NB
 clear NB Nr Nm No Nx
 refine (HCM.out _).mono ?_
 rintro e v4 ⟨rfl, z4⟩
 have Nr := Lib.hid (Fr.out.on z4)
 have Nm := Lib.hid (Fm.out.on z4)
 have No := Lib.hid (Fo.out.on z4)
 have Nx := Lib.hid (Fx.out.on z4)
 have NB := Lib.hid (bel_tr BW.out z4)
 clear BW z4 Fr Fm Fo Fx
 have Fr := Nr
 have Fm := Nm
 have Fo := No
 have Fx := Nx
 have BW := NB
 clear NB Nr Nm No Nx
 have Lx := Fx.out.lt
 have cx0 := Fx.out.c0
 have cx1 := Fx.out.c1
 have cx2 := Fx.out.c2
 have cx3 := Fx.out.c3
 have Lo := Fo.out.lt
 have co0 : v4.cell? ⟨go, 0, none⟩ = some (.int .u64 0) := Fo.out.cell 0
 have co1 : v4.cell? ⟨go, 1, none⟩ = some (.int .u64 0) := Fo.out.cell 1
 have co2 : v4.cell? ⟨go, 2, none⟩ = some (.int .u64 0) := Fo.out.cell 2
 have co3 : v4.cell? ⟨go, 3, none⟩ = some (.int .u64 0) := Fo.out.cell 3
 have fo0 : v4.frozen? ⟨go, 0, none⟩ = false := Fo.out.frozen 0
 have fo1 : v4.frozen? ⟨go, 1, none⟩ = false := Fo.out.frozen 1
 have fo2 : v4.frozen? ⟨go, 2, none⟩ = false := Fo.out.frozen 2
 have fo3 : v4.frozen? ⟨go, 3, none⟩ = false := Fo.out.frozen 3
 go_wp2_with fail
 generalize hW5 : ((((v4.setCell ⟨go, 0, none⟩ (.int .u64 (wd U 0 : Nat))).setCell ⟨go, 1, none⟩ (.int .u64 (wd S 1 : Nat))).setCell ⟨go, 2, none⟩ (.int .u64 (wd S 2 : Nat))).setCell ⟨go, 3, none⟩ (.int .u64 (wd S 3 : Nat))) = W5 at *
 clear Lx cx0 cx1 cx2 cx3 Lo co0 co1 co2 co3 fo0 fo1 fo2 fo3
 have Nr_0 := at_of hW5 ((Fr.out).far4 Dro _ _ _ _)
 have Nm_0 := at_of hW5 ((Fm.out).far4 Dmo _ _ _ _)
 have No_0 := at_of hW5 ((Fo.out).put4 _ _ _ _)
 have Nx_0 := at_of hW5 ((Fx.out).far4 Dox.symm _ _ _ _)
 have NB_0 := gr_of hW5 (((((BW.out).setCell Eo _).setCell Eo _).setCell Eo _).setCell Eo _)
 have Nr := Nr_0
 have Nm := Nm_0
 have No := No_0
 have Nx := Nx_0
 have NB := NB_0
 clear BW Fr Fm Fo Fx Nr_0 Nm_0 No_0 Nx_0 NB_0
 clear hW5
 have Fr := Lib.hid Nr
 have Fm := Lib.hid Nm
 have Fo := Lib.hid No
 have Fx := Lib.hid Nx
 have BW := Lib.hid NB
 clear NB Nr Nm No Nx
 have Lo := Fo.out.lt
 have co0 := Fo.out.c0
 have co1 := Fo.out.c1
 have co2 := Fo.out.c2
 have co3 := Fo.out.c3
 exact bodyPost_ret (v := .agg #[.int .u64 (wd U 0 : Nat), .int .u64 (wd S 1 : Nat), .int .u64 (wd S 2 : Nat), .int .u64 (wd S 3 : Nat)]) (by simp [results, Try.results87, go_sem, *]) rfl ⟨rfl, BW.out⟩

theorem even_word (S bit : Nat) (hS : S < 2 ^ 256) (he : S % 2 = 0) (hb : bit ≤ 1) : wd (S + bit) 0 = wd S 0 + bit ∧ wd (S + bit) 1 = wd S 1 ∧ wd (S + bit) 2 = wd S 2 ∧ wd (S + bit) 3 = wd S 3 := by
 unfold wd; omega
/-- the document's twice -/
theorem rtwice_any (R M bit t L : Nat) (hR : R < M) (hM : M < 2 ^ 256) (hb : bit ≤ 1) (ht : t ≤ 1) (hL : L < M) (he : 2 * R + bit = t * M + L) (w : World) :
  Calls Try.prog 87 #[num R, .int .u64 (bit : Nat), num M] w fun e w' => e = .returned (num L) ∧ Below w.heap.size w w' := by
 have hR2 : R < 2 ^ 256 := by omega
 obtain ⟨S, c, hS, hc, e1, _⟩ := add_ex R R hR2 hR2
 have A := radd_any R R S c hR2 hR2 hS hc e1
 have ev : S % 2 = 0 := by omega
 obtain ⟨w0, w1, w2, w3⟩ := even_word S bit hS ev hb
 have hU : S + bit < 2 ^ 256 := by omega
 have en : num (S + bit) = .agg #[.int .u64 (wd (S + bit) 0 : Nat), .int .u64 (wd S 1 : Nat), .int .u64 (wd S 2 : Nat), .int .u64 (wd S 3 : Nat)] := by unfold num; rw [w1, w2, w3]
 have b1 : ((wd S 0 : Nat) : Int) + (bit : Nat) = (wd (S + bit) 0 : Nat) := by rw [w0]; simp
 have wl := wd_lt (S + bit) 0
 have b2 : IntKind.u64.wrap (((wd S 0 : Nat) : Int) + (bit : Nat)) = (wd (S + bit) 0 : Nat) := by rw [b1, IntKind.wrap_u64]; omega
 have b3 : IntKind.u64.wrap ((wd (S + bit) 0 : Nat) : Int) = (wd (S + bit) 0 : Nat) := by rw [IntKind.wrap_u64]; omega
 obtain ⟨D, l, hD, hl, e2, _⟩ := sub_ex (S + bit) M hU hM
 have SU := rsub_any (S + bit) M D l hU hM hD hl e2
 have CM := rcmp_any (S + bit) M hU hM
 rw [en] at SU CM
 have htm : t = 0 ∧ t * M = 0 ∨ t = 1 ∧ t * M = M := by
  have : t = 0 ∨ t = 1 := by omega
  rcases this with h | h <;> subst h <;> simp
 by_cases hc1 : c = 1
 ·subst hc1
  have hDL : D = L := by omega
  subst hDL
  exact twice_over R bit M S (S + bit) D l b1 b2 b3 A SU w
 ·have hc0 : c = 0 := by omega
  subst hc0
  by_cases hge : M ≤ S + bit
  ·have hDL : D = L := by omega
   subst hDL
   have hcv : 0 ≤ cmpN (S + bit) M := by unfold cmpN; rw [if_neg (by omega)]; split <;> omega
   exact twice_ge R bit M S (S + bit) D l (cmpN (S + bit) M) hcv b1 b2 b3 A CM SU w
  ·have hSL : S + bit = L := by omega
   have hcv : cmpN (S + bit) M < 0 := by rw [cmpN_lt (by omega)]; omega
   have h := twice_lt R bit M S (S + bit) (cmpN (S + bit) M) hcv b1 b2 b3 A CM w
   rw [← en, hSL] at h
   exact h
end Go.Proofs.Ytodlpmepoakdlaa

/-
 balefireref03.Word: is it one of 64 bits?
-/
namespace Go.Proofs.Ytodlpmepoakdlaa
set_option maxRecDepth 100000
open Go.RowKit
set_option linter.unusedSimpArgs false
set_option linter.unusedVariables false
attribute [local go_sem ↓] Go.wp_at_zero Go.wp_at_succ

theorem word_yes (a : Nat) (w : World) : Calls Try.prog 65 #[.agg #[.int .u64 a, .int .u64 0, .int .u64 0, .int .u64 0]] w fun e w' => e = .returned (.bool true) ∧ Below w.heap.size w w' := by
 go_enter Try.func65, Try.ntmps65
 go_wp2
 go_ret
 exact ⟨rfl, by repeat (first | exact Below.refl _ _ | refine gr_alloc ?_ _ | refine Below.drew ?_)⟩
theorem word_no1 (a b c d : Nat) (h : b ≠ 0) (w : World) : Calls Try.prog 65 #[.agg #[.int .u64 a, .int .u64 b, .int .u64 c, .int .u64 d]] w fun e w' => e = .returned (.bool false) ∧ Below w.heap.size w w' := by
 have h1 : ((b : Int) == 0) = false := by simp; omega
 have h2 : decide ((b : Int) = 0) = false := by simp; omega
 have h3 : ¬ (b : Int) = 0 := by omega
 go_enter Try.func65, Try.ntmps65
 go_wp2
 go_ret
 exact ⟨rfl, by repeat (first | exact Below.refl _ _ | refine gr_alloc ?_ _ | refine Below.drew ?_)⟩
theorem word_no2 (a c d : Nat) (h : c ≠ 0) (w : World) : Calls Try.prog 65 #[.agg #[.int .u64 a, .int .u64 0, .int .u64 c, .int .u64 d]] w fun e w' => e = .returned (.bool false) ∧ Below w.heap.size w w' := by
 have h1 : ((c : Int) == 0) = false := by simp; omega
 have h2 : decide ((c : Int) = 0) = false := by simp; omega
 have h3 : ¬ (c : Int) = 0 := by omega
 go_enter Try.func65, Try.ntmps65
 go_wp2
 go_ret
 exact ⟨rfl, by repeat (first | exact Below.refl _ _ | refine gr_alloc ?_ _ | refine Below.drew ?_)⟩
theorem word_no3 (a d : Nat) (h : d ≠ 0) (w : World) : Calls Try.prog 65 #[.agg #[.int .u64 a, .int .u64 0, .int .u64 0, .int .u64 d]] w fun e w' => e = .returned (.bool false) ∧ Below w.heap.size w w' := by
 have h1 : ((d : Int) == 0) = false := by simp; omega
 have h2 : decide ((d : Int) = 0) = false := by simp; omega
 have h3 : ¬ (d : Int) = 0 := by omega
 go_enter Try.func65, Try.ntmps65
 go_wp2
 go_ret
 exact ⟨rfl, by repeat (first | exact Below.refl _ _ | refine gr_alloc ?_ _ | refine Below.drew ?_)⟩
/-- is it one of 64 bits? -/
theorem rword_any (X : Nat) (hX : X < 2 ^ 256) (w : World) : Calls Try.prog 65 #[num X] w fun e w' => e = .returned (.bool (decide (X < 18446744073709551616))) ∧ Below w.heap.size w w' := by
 have hs := wd_sum X hX
 unfold num
 by_cases h1 : wd X 1 = 0
 ·by_cases h2 : wd X 2 = 0
  ·by_cases h3 : wd X 3 = 0
   ·have hl := wd_lt X 0
    rw [h1, h2, h3, decide_eq_true (show X < 18446744073709551616 by omega)]
    exact word_yes _ w
   ·rw [h1, h2, decide_eq_false (show ¬ X < 18446744073709551616 by omega)]
    exact word_no3 _ _ h3 w
  ·rw [h1, decide_eq_false (show ¬ X < 18446744073709551616 by omega)]
   exact word_no2 _ _ _ h2 w
 ·rw [decide_eq_false (show ¬ X < 18446744073709551616 by omega)]
  exact word_no1 _ _ _ _ h1 w
end Go.Proofs.Ytodlpmepoakdlaa
