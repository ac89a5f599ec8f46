import Derived.Test.YtodlpmepoakdlaaGreatMRCmp
import Derived.Test.YtodlpmepoakdlaaGreatMSmall
import Derived.Test.YtodlpmepoakdlaaGreatMWide
namespace Go.Proofs.YtodlpmepoakdlaaGreat
set_option maxRecDepth 100000
set_option maxHeartbeats 8000000
open Go.RowKit
set_option linter.unusedSimpArgs false
set_option linter.unusedVariables false
attribute [local go_sem ↓] Go.wp_at_zero Go.wp_at_succ

theorem twice_over (R bit M S U D l : Nat)
  (hb : ((wd S 0 : Nat) : Int) + (bit : Nat) = (wd U 0 : Nat))
  (hu : IntKind.u64.wrap (((wd S 0 : Nat) : Int) + (bit : Nat)) = (wd U 0 : Nat))
  (hv : IntKind.u64.wrap ((wd U 0 : Nat) : Int) = (wd U 0 : Nat))
  (AD : ∀ w, Calls Tryz.prog 56 #[num R, num R] w fun e w' => e = .returned (.tuple #[num S, .int .u64 1]) ∧ Below w.heap.size w w')
  (SU : ∀ w, Calls Tryz.prog 32 #[.agg #[.int .u64 (wd U 0), .int .u64 (wd S 1), .int .u64 (wd S 2), .int .u64 (wd S 3)], num M] w fun e w' => e = .returned (.tuple #[num D, .int .u64 (l : Nat)]) ∧ Below w.heap.size w w')
  (w : World) : Calls Tryz.prog 80 #[num R, .int .u64 (bit : Nat), num M] w fun e w' => e = .returned (num D) ∧ Below w.heap.size w w' := by
 have HAD := Jfg AD
 have HSU := Jfg SU
 clear AD SU
 go_enter Tryz.func80, Tryz.ntmps80
 go_wp2_with fail
 have BW := Jfg (Below.refl w.heap.size w)
 generalize hW1 : (((w.alloc (.cells (ncs R) 24)).alloc (.cells (ncs M) 24)).alloc (.cells #[.int .u64 0, .int .u64 0, .int .u64 0, .int .u64 0] 24)) = W1 at *
 have Nr : At W1 (w.heap.size) _ _ := Jb hW1 (((At.at_ _ _ _ _ (by simp)).alloc _).alloc _)
 have Nm : At W1 (w.heap.size + 1) _ _ := Jb hW1 ((At.at_ _ _ _ _ (by simp)).alloc _)
 have No : At W1 (w.heap.size + 1 + 1) _ _ := Jb hW1 (At.at_ _ _ _ _ (by simp))
 have Eo : w.heap.size ≤ w.heap.size + 1 + 1 := by have := BW.out.size; omega
 have Dro : w.heap.size ≠ w.heap.size + 1 + 1 := by omega
 have Dmo : w.heap.size + 1 ≠ w.heap.size + 1 + 1 := by omega
 have NB := gr_of hW1 (gr_alloc (gr_alloc (gr_alloc BW.out _) _) _)
 clear BW
 clear hW1
 generalize w.heap.size + 1 + 1 = go at *
 generalize w.heap.size + 1 = gm at *
 obtain ⟨gr, hg0⟩ : ∃ g, g = w.heap.size := ⟨_, rfl⟩
 rw [← hg0] at Nr ⊢
 rw [← hg0] at Dro
 clear hg0
 have Fr := Jfg Nr
 have Fm := Jfg Nm
 have Fo := Jfg No
 have BW := Jfg NB
 clear NB Nr Nm No
 refine (HAD.out _).mono ?_
 rintro e v2 ⟨rfl, z2⟩
 have Nr := Jfg (Fr.out.on z2)
 have Nm := Jfg (Fm.out.on z2)
 have No := Jfg (Fo.out.on z2)
 have NB := Jfg (bel_tr BW.out z2)
 clear BW z2 Fr Fm Fo
 have Fr := Nr
 have Fm := Nm
 have Fo := No
 have BW := NB
 clear NB Nr Nm No
 have Lm := Fm.out.lt
 have cm0 := Fm.out.c0; have cm1 := Fm.out.c1; have cm2 := Fm.out.c2; have cm3 := Fm.out.c3
 go_wp2_with fail
 generalize hW3 : (v2.alloc (.cells #[.int .u64 (wd U 0), .int .u64 (wd S 1), .int .u64 (wd S 2), .int .u64 (wd S 3)] 24)) = W3 at *
 clear Lm cm0 cm1 cm2 cm3
 have Nx : At W3 (v2.heap.size) _ _ := Jb hW3 (At.at_ _ _ _ _ (by simp))
 have Ex : w.heap.size ≤ v2.heap.size := by have := BW.out.size; omega
 have Drx : gr ≠ v2.heap.size := by have := Fr.out.lt; omega
 have Dmx : gm ≠ v2.heap.size := by have := Fm.out.lt; omega
 have Dox : go ≠ v2.heap.size := by have := Fo.out.lt; omega
 have Nr := Jb hW3 (Fr.out.alloc _)
 have Nm := Jb hW3 (Fm.out.alloc _)
 have No := Jb hW3 (Fo.out.alloc _)
 have NB := gr_of hW3 (gr_alloc BW.out _)
 clear BW Fr Fm Fo
 clear hW3
 generalize v2.heap.size = gx at *
 have Fr := Jfg Nr
 have Fm := Jfg Nm
 have Fo := Jfg No
 have Fx := Jfg Nx
 have BW := Jfg NB
 clear NB Nr Nm No Nx
 refine (HSU.out _).mono ?_
 rintro e v4 ⟨rfl, z4⟩
 have Nr := Jfg (Fr.out.on z4)
 have Nm := Jfg (Fm.out.on z4)
 have No := Jfg (Fo.out.on z4)
 have Nx := Jfg (Fx.out.on z4)
 have NB := Jfg (bel_tr BW.out z4)
 clear BW z4 Fr Fm Fo Fx
 have Fr := Nr
 have Fm := Nm
 have Fo := No
 have Fx := Nx
 have BW := NB
 clear NB Nr Nm No Nx
 have Lx := Fx.out.lt
 have cx0 := Fx.out.c0; have cx1 := Fx.out.c1; have cx2 := Fx.out.c2; have cx3 := Fx.out.c3
 obtain ⟨fx0, fx1, fx2, fx3⟩ := Vb Fx.out
 have Lo := Fo.out.lt
 have co0 : v4.cell? ⟨go, 0, none⟩ = some (.int .u64 0) := Fo.out.cell 0
 have co1 : v4.cell? ⟨go, 1, none⟩ = some (.int .u64 0) := Fo.out.cell 1
 have co2 : v4.cell? ⟨go, 2, none⟩ = some (.int .u64 0) := Fo.out.cell 2
 have co3 : v4.cell? ⟨go, 3, none⟩ = some (.int .u64 0) := Fo.out.cell 3
 obtain ⟨fo0, fo1, fo2, fo3⟩ := Vb Fo.out
 go_wp2_with fail
 generalize hW5 : ((((((((v4.setCell ⟨gx, 0, none⟩ (.int .u64 (wd D 0))).setCell ⟨gx, 1, none⟩ (.int .u64 (wd D 1))).setCell ⟨gx, 2, none⟩ (.int .u64 (wd D 2))).setCell ⟨gx, 3, none⟩ (.int .u64 (wd D 3))).setCell ⟨go, 0, none⟩ (.int .u64 (wd D 0))).setCell ⟨go, 1, none⟩ (.int .u64 (wd D 1))).setCell ⟨go, 2, none⟩ (.int .u64 (wd D 2))).setCell ⟨go, 3, none⟩ (.int .u64 (wd D 3))) = W5 at *
 clear Lx cx0 cx1 cx2 cx3 fx0 fx1 fx2 fx3 Lo co0 co1 co2 co3 fo0 fo1 fo2 fo3
 have Nr_1 := Jb hW5 ((((Fr.out).far4 Drx _ _ _ _)).far4 Dro _ _ _ _)
 have Nm_1 := Jb hW5 ((((Fm.out).far4 Dmx _ _ _ _)).far4 Dmo _ _ _ _)
 have No_1 := Jb hW5 ((((Fo.out).far4 Dox _ _ _ _)).put4 _ _ _ _)
 have Nx_1 := Jb hW5 ((((Fx.out).put4 _ _ _ _)).far4 Dox.symm _ _ _ _)
 have NB_1 := gr_of hW5 ((((((((((BW.out).setCell Ex _).setCell Ex _).setCell Ex _).setCell Ex _)).setCell Eo _).setCell Eo _).setCell Eo _).setCell Eo _)
 have Nr := Nr_1
 have Nm := Nm_1
 have No := No_1
 have Nx := Nx_1
 have NB := NB_1
 clear BW Fr Fm Fo Fx Nr_1 Nm_1 No_1 Nx_1 NB_1
 clear hW5
 have Fr := Jfg Nr
 have Fm := Jfg Nm
 have Fo := Jfg No
 have Fx := Jfg Nx
 have BW := Jfg NB
 clear NB Nr Nm No Nx
 have Lo := Fo.out.lt
 have co0 := Fo.out.c0; have co1 := Fo.out.c1; have co2 := Fo.out.c2; have co3 := Fo.out.c3
 exact bodyPost_ret (v := num D) (by simp [results, Tryz.results80, go_sem, *]) rfl ⟨rfl, BW.out⟩

theorem twice_ge (R bit M S U D l : Nat)
  (cv : Int)
  (hcv : 0 ≤ cv)
  (hb : ((wd S 0 : Nat) : Int) + (bit : Nat) = (wd U 0 : Nat))
  (hu : IntKind.u64.wrap (((wd S 0 : Nat) : Int) + (bit : Nat)) = (wd U 0 : Nat))
  (hv : IntKind.u64.wrap ((wd U 0 : Nat) : Int) = (wd U 0 : Nat))
  (AD : ∀ w, Calls Tryz.prog 56 #[num R, num R] w fun e w' => e = .returned (.tuple #[num S, .int .u64 0]) ∧ Below w.heap.size w w')
  (CM : ∀ w, Calls Tryz.prog 17 #[.agg #[.int .u64 (wd U 0), .int .u64 (wd S 1), .int .u64 (wd S 2), .int .u64 (wd S 3)], num M] w fun e w' => e = .returned (.int .i64 cv) ∧ Below w.heap.size w w')
  (SU : ∀ w, Calls Tryz.prog 32 #[.agg #[.int .u64 (wd U 0), .int .u64 (wd S 1), .int .u64 (wd S 2), .int .u64 (wd S 3)], num M] w fun e w' => e = .returned (.tuple #[num D, .int .u64 (l : Nat)]) ∧ Below w.heap.size w w')
  (w : World) : Calls Tryz.prog 80 #[num R, .int .u64 (bit : Nat), num M] w fun e w' => e = .returned (num D) ∧ Below w.heap.size w w' := by
 have HAD := Jfg AD
 have HCM := Jfg CM
 have HSU := Jfg SU
 clear AD CM SU
 go_enter Tryz.func80, Tryz.ntmps80
 go_wp2_with fail
 have BW := Jfg (Below.refl w.heap.size w)
 generalize hW1 : (((w.alloc (.cells (ncs R) 24)).alloc (.cells (ncs M) 24)).alloc (.cells #[.int .u64 0, .int .u64 0, .int .u64 0, .int .u64 0] 24)) = W1 at *
 have Nr : At W1 (w.heap.size) _ _ := Jb hW1 (((At.at_ _ _ _ _ (by simp)).alloc _).alloc _)
 have Nm : At W1 (w.heap.size + 1) _ _ := Jb hW1 ((At.at_ _ _ _ _ (by simp)).alloc _)
 have No : At W1 (w.heap.size + 1 + 1) _ _ := Jb hW1 (At.at_ _ _ _ _ (by simp))
 have Eo : w.heap.size ≤ w.heap.size + 1 + 1 := by have := BW.out.size; omega
 have Dro : w.heap.size ≠ w.heap.size + 1 + 1 := by omega
 have Dmo : w.heap.size + 1 ≠ w.heap.size + 1 + 1 := by omega
 have NB := gr_of hW1 (gr_alloc (gr_alloc (gr_alloc BW.out _) _) _)
 clear BW
 clear hW1
 generalize w.heap.size + 1 + 1 = go at *
 generalize w.heap.size + 1 = gm at *
 obtain ⟨gr, hg0⟩ : ∃ g, g = w.heap.size := ⟨_, rfl⟩
 rw [← hg0] at Nr ⊢
 rw [← hg0] at Dro
 clear hg0
 have Fr := Jfg Nr
 have Fm := Jfg Nm
 have Fo := Jfg No
 have BW := Jfg NB
 clear NB Nr Nm No
 refine (HAD.out _).mono ?_
 rintro e v2 ⟨rfl, z2⟩
 have Nr := Jfg (Fr.out.on z2)
 have Nm := Jfg (Fm.out.on z2)
 have No := Jfg (Fo.out.on z2)
 have NB := Jfg (bel_tr BW.out z2)
 clear BW z2 Fr Fm Fo
 have Fr := Nr
 have Fm := Nm
 have Fo := No
 have BW := NB
 clear NB Nr Nm No
 have Lm := Fm.out.lt
 have cm0 := Fm.out.c0; have cm1 := Fm.out.c1; have cm2 := Fm.out.c2; have cm3 := Fm.out.c3
 go_wp2_with fail
 generalize hW3 : (v2.alloc (.cells #[.int .u64 (wd U 0), .int .u64 (wd S 1), .int .u64 (wd S 2), .int .u64 (wd S 3)] 24)) = W3 at *
 clear Lm cm0 cm1 cm2 cm3
 have Nx : At W3 (v2.heap.size) _ _ := Jb hW3 (At.at_ _ _ _ _ (by simp))
 have Ex : w.heap.size ≤ v2.heap.size := by have := BW.out.size; omega
 have Drx : gr ≠ v2.heap.size := by have := Fr.out.lt; omega
 have Dmx : gm ≠ v2.heap.size := by have := Fm.out.lt; omega
 have Dox : go ≠ v2.heap.size := by have := Fo.out.lt; omega
 have Nr := Jb hW3 (Fr.out.alloc _)
 have Nm := Jb hW3 (Fm.out.alloc _)
 have No := Jb hW3 (Fo.out.alloc _)
 have NB := gr_of hW3 (gr_alloc BW.out _)
 clear BW Fr Fm Fo
 clear hW3
 generalize v2.heap.size = gx at *
 have Fr := Jfg Nr
 have Fm := Jfg Nm
 have Fo := Jfg No
 have Fx := Jfg Nx
 have BW := Jfg NB
 clear NB Nr Nm No Nx
 refine (HCM.out _).mono ?_
 rintro e v4 ⟨rfl, z4⟩
 have Nr := Jfg (Fr.out.on z4)
 have Nm := Jfg (Fm.out.on z4)
 have No := Jfg (Fo.out.on z4)
 have Nx := Jfg (Fx.out.on z4)
 have NB := Jfg (bel_tr BW.out z4)
 clear BW z4 Fr Fm Fo Fx
 have Fr := Nr
 have Fm := Nm
 have Fo := No
 have Fx := Nx
 have BW := NB
 clear NB Nr Nm No Nx
 have Lm := Fm.out.lt
 have cm0 := Fm.out.c0; have cm1 := Fm.out.c1; have cm2 := Fm.out.c2; have cm3 := Fm.out.c3
 have Lx := Fx.out.lt
 have cx0 := Fx.out.c0; have cx1 := Fx.out.c1; have cx2 := Fx.out.c2; have cx3 := Fx.out.c3
 go_wp2_with fail
 clear Lm cm0 cm1 cm2 cm3 Lx cx0 cx1 cx2 cx3
 refine (HSU.out _).mono ?_
 rintro e v5 ⟨rfl, z5⟩
 have Nr := Jfg (Fr.out.on z5)
 have Nm := Jfg (Fm.out.on z5)
 have No := Jfg (Fo.out.on z5)
 have Nx := Jfg (Fx.out.on z5)
 have NB := Jfg (bel_tr BW.out z5)
 clear BW z5 Fr Fm Fo Fx
 have Fr := Nr
 have Fm := Nm
 have Fo := No
 have Fx := Nx
 have BW := NB
 clear NB Nr Nm No Nx
 have Lx := Fx.out.lt
 have cx0 := Fx.out.c0; have cx1 := Fx.out.c1; have cx2 := Fx.out.c2; have cx3 := Fx.out.c3
 obtain ⟨fx0, fx1, fx2, fx3⟩ := Vb Fx.out
 have Lo := Fo.out.lt
 have co0 : v5.cell? ⟨go, 0, none⟩ = some (.int .u64 0) := Fo.out.cell 0
 have co1 : v5.cell? ⟨go, 1, none⟩ = some (.int .u64 0) := Fo.out.cell 1
 have co2 : v5.cell? ⟨go, 2, none⟩ = some (.int .u64 0) := Fo.out.cell 2
 have co3 : v5.cell? ⟨go, 3, none⟩ = some (.int .u64 0) := Fo.out.cell 3
 obtain ⟨fo0, fo1, fo2, fo3⟩ := Vb Fo.out
 go_wp2_with fail
 generalize hW6 : ((((((((v5.setCell ⟨gx, 0, none⟩ (.int .u64 (wd D 0))).setCell ⟨gx, 1, none⟩ (.int .u64 (wd D 1))).setCell ⟨gx, 2, none⟩ (.int .u64 (wd D 2))).setCell ⟨gx, 3, none⟩ (.int .u64 (wd D 3))).setCell ⟨go, 0, none⟩ (.int .u64 (wd D 0))).setCell ⟨go, 1, none⟩ (.int .u64 (wd D 1))).setCell ⟨go, 2, none⟩ (.int .u64 (wd D 2))).setCell ⟨go, 3, none⟩ (.int .u64 (wd D 3))) = W6 at *
 clear Lx cx0 cx1 cx2 cx3 fx0 fx1 fx2 fx3 Lo co0 co1 co2 co3 fo0 fo1 fo2 fo3
 have Nr_1 := Jb hW6 ((((Fr.out).far4 Drx _ _ _ _)).far4 Dro _ _ _ _)
 have Nm_1 := Jb hW6 ((((Fm.out).far4 Dmx _ _ _ _)).far4 Dmo _ _ _ _)
 have No_1 := Jb hW6 ((((Fo.out).far4 Dox _ _ _ _)).put4 _ _ _ _)
 have Nx_1 := Jb hW6 ((((Fx.out).put4 _ _ _ _)).far4 Dox.symm _ _ _ _)
 have NB_1 := gr_of hW6 ((((((((((BW.out).setCell Ex _).setCell Ex _).setCell Ex _).setCell Ex _)).setCell Eo _).setCell Eo _).setCell Eo _).setCell Eo _)
 have Nr := Nr_1
 have Nm := Nm_1
 have No := No_1
 have Nx := Nx_1
 have NB := NB_1
 clear BW Fr Fm Fo Fx Nr_1 Nm_1 No_1 Nx_1 NB_1
 clear hW6
 have Fr := Jfg Nr
 have Fm := Jfg Nm
 have Fo := Jfg No
 have Fx := Jfg Nx
 have BW := Jfg NB
 clear NB Nr Nm No Nx
 have Lo := Fo.out.lt
 have co0 := Fo.out.c0; have co1 := Fo.out.c1; have co2 := Fo.out.c2; have co3 := Fo.out.c3
 exact bodyPost_ret (v := num D) (by simp [results, Tryz.results80, go_sem, *]) rfl ⟨rfl, BW.out⟩

theorem twice_lt (R bit M S U : Nat)
  (cv : Int)
  (hcv : cv < 0)
  (hb : ((wd S 0 : Nat) : Int) + (bit : Nat) = (wd U 0 : Nat))
  (hu : IntKind.u64.wrap (((wd S 0 : Nat) : Int) + (bit : Nat)) = (wd U 0 : Nat))
  (hv : IntKind.u64.wrap ((wd U 0 : Nat) : Int) = (wd U 0 : Nat))
  (AD : ∀ w, Calls Tryz.prog 56 #[num R, num R] w fun e w' => e = .returned (.tuple #[num S, .int .u64 0]) ∧ Below w.heap.size w w')
  (CM : ∀ w, Calls Tryz.prog 17 #[.agg #[.int .u64 (wd U 0), .int .u64 (wd S 1), .int .u64 (wd S 2), .int .u64 (wd S 3)], num M] w fun e w' => e = .returned (.int .i64 cv) ∧ Below w.heap.size w w')
  (w : World) : Calls Tryz.prog 80 #[num R, .int .u64 (bit : Nat), num M] w fun e w' => e = .returned (.agg #[.int .u64 (wd U 0), .int .u64 (wd S 1), .int .u64 (wd S 2), .int .u64 (wd S 3)]) ∧ Below w.heap.size w w' := by
 have HAD := Jfg AD
 have HCM := Jfg CM
 clear AD CM
 go_enter Tryz.func80, Tryz.ntmps80
 go_wp2_with fail
 have BW := Jfg (Below.refl w.heap.size w)
 generalize hW1 : (((w.alloc (.cells (ncs R) 24)).alloc (.cells (ncs M) 24)).alloc (.cells #[.int .u64 0, .int .u64 0, .int .u64 0, .int .u64 0] 24)) = W1 at *
 have Nr : At W1 (w.heap.size) _ _ := Jb hW1 (((At.at_ _ _ _ _ (by simp)).alloc _).alloc _)
 have Nm : At W1 (w.heap.size + 1) _ _ := Jb hW1 ((At.at_ _ _ _ _ (by simp)).alloc _)
 have No : At W1 (w.heap.size + 1 + 1) _ _ := Jb hW1 (At.at_ _ _ _ _ (by simp))
 have Eo : w.heap.size ≤ w.heap.size + 1 + 1 := by have := BW.out.size; omega
 have Dro : w.heap.size ≠ w.heap.size + 1 + 1 := by omega
 have Dmo : w.heap.size + 1 ≠ w.heap.size + 1 + 1 := by omega
 have NB := gr_of hW1 (gr_alloc (gr_alloc (gr_alloc BW.out _) _) _)
 clear BW
 clear hW1
 generalize w.heap.size + 1 + 1 = go at *
 generalize w.heap.size + 1 = gm at *
 obtain ⟨gr, hg0⟩ : ∃ g, g = w.heap.size := ⟨_, rfl⟩
 rw [← hg0] at Nr ⊢
 rw [← hg0] at Dro
 clear hg0
 have Fr := Jfg Nr
 have Fm := Jfg Nm
 have Fo := Jfg No
 have BW := Jfg NB
 clear NB Nr Nm No
 refine (HAD.out _).mono ?_
 rintro e v2 ⟨rfl, z2⟩
 have Nr := Jfg (Fr.out.on z2)
 have Nm := Jfg (Fm.out.on z2)
 have No := Jfg (Fo.out.on z2)
 have NB := Jfg (bel_tr BW.out z2)
 clear BW z2 Fr Fm Fo
 have Fr := Nr
 have Fm := Nm
 have Fo := No
 have BW := NB
 clear NB Nr Nm No
 have Lm := Fm.out.lt
 have cm0 := Fm.out.c0; have cm1 := Fm.out.c1; have cm2 := Fm.out.c2; have cm3 := Fm.out.c3
 go_wp2_with fail
 generalize hW3 : (v2.alloc (.cells #[.int .u64 (wd U 0), .int .u64 (wd S 1), .int .u64 (wd S 2), .int .u64 (wd S 3)] 24)) = W3 at *
 clear Lm cm0 cm1 cm2 cm3
 have Nx : At W3 (v2.heap.size) _ _ := Jb hW3 (At.at_ _ _ _ _ (by simp))
 have Ex : w.heap.size ≤ v2.heap.size := by have := BW.out.size; omega
 have Drx : gr ≠ v2.heap.size := by have := Fr.out.lt; omega
 have Dmx : gm ≠ v2.heap.size := by have := Fm.out.lt; omega
 have Dox : go ≠ v2.heap.size := by have := Fo.out.lt; omega
 have Nr := Jb hW3 (Fr.out.alloc _)
 have Nm := Jb hW3 (Fm.out.alloc _)
 have No := Jb hW3 (Fo.out.alloc _)
 have NB := gr_of hW3 (gr_alloc BW.out _)
 clear BW Fr Fm Fo
 clear hW3
 generalize v2.heap.size = gx at *
 have Fr := Jfg Nr
 have Fm := Jfg Nm
 have Fo := Jfg No
 have Fx := Jfg Nx
 have BW := Jfg NB
 clear NB Nr Nm No Nx
 refine (HCM.out _).mono ?_
 rintro e v4 ⟨rfl, z4⟩
 have Nr := Jfg (Fr.out.on z4)
 have Nm := Jfg (Fm.out.on z4)
 have No := Jfg (Fo.out.on z4)
 have Nx := Jfg (Fx.out.on z4)
 have NB := Jfg (bel_tr BW.out z4)
 clear BW z4 Fr Fm Fo Fx
 have Fr := Nr
 have Fm := Nm
 have Fo := No
 have Fx := Nx
 have BW := NB
 clear NB Nr Nm No Nx
 have Lx := Fx.out.lt
 have cx0 := Fx.out.c0; have cx1 := Fx.out.c1; have cx2 := Fx.out.c2; have cx3 := Fx.out.c3
 have Lo := Fo.out.lt
 have co0 : v4.cell? ⟨go, 0, none⟩ = some (.int .u64 0) := Fo.out.cell 0
 have co1 : v4.cell? ⟨go, 1, none⟩ = some (.int .u64 0) := Fo.out.cell 1
 have co2 : v4.cell? ⟨go, 2, none⟩ = some (.int .u64 0) := Fo.out.cell 2
 have co3 : v4.cell? ⟨go, 3, none⟩ = some (.int .u64 0) := Fo.out.cell 3
 obtain ⟨fo0, fo1, fo2, fo3⟩ := Vb Fo.out
 go_wp2_with fail
 generalize hW5 : ((((v4.setCell ⟨go, 0, none⟩ (.int .u64 (wd U 0))).setCell ⟨go, 1, none⟩ (.int .u64 (wd S 1))).setCell ⟨go, 2, none⟩ (.int .u64 (wd S 2))).setCell ⟨go, 3, none⟩ (.int .u64 (wd S 3))) = W5 at *
 clear Lx cx0 cx1 cx2 cx3 Lo co0 co1 co2 co3 fo0 fo1 fo2 fo3
 have Nr_0 := Jb hW5 ((Fr.out).far4 Dro _ _ _ _)
 have Nm_0 := Jb hW5 ((Fm.out).far4 Dmo _ _ _ _)
 have No_0 := Jb hW5 ((Fo.out).put4 _ _ _ _)
 have Nx_0 := Jb hW5 ((Fx.out).far4 Dox.symm _ _ _ _)
 have NB_0 := gr_of hW5 (((((BW.out).setCell Eo _).setCell Eo _).setCell Eo _).setCell Eo _)
 have Nr := Nr_0
 have Nm := Nm_0
 have No := No_0
 have Nx := Nx_0
 have NB := NB_0
 clear BW Fr Fm Fo Fx Nr_0 Nm_0 No_0 Nx_0 NB_0
 clear hW5
 have Fr := Jfg Nr
 have Fm := Jfg Nm
 have Fo := Jfg No
 have Fx := Jfg Nx
 have BW := Jfg NB
 clear NB Nr Nm No Nx
 have Lo := Fo.out.lt
 have co0 := Fo.out.c0; have co1 := Fo.out.c1; have co2 := Fo.out.c2; have co3 := Fo.out.c3
 exact bodyPost_ret (v := .agg #[.int .u64 (wd U 0), .int .u64 (wd S 1), .int .u64 (wd S 2), .int .u64 (wd S 3)]) (by simp [results, Tryz.results80, go_sem, *]) rfl ⟨rfl, BW.out⟩

theorem even_word (S bit : Nat) (hS : S < 2 ^ 256) (he : S % 2 = 0) (hb : bit ≤ 1) : wd (S + bit) 0 = wd S 0 + bit ∧ wd (S + bit) 1 = wd S 1 ∧ wd (S + bit) 2 = wd S 2 ∧ wd (S + bit) 3 = wd S 3 := by
 unfold wd; omega
theorem rtwice_any (R M bit t L : Nat) (hR : R < M) (hM : M < 2 ^ 256) (hb : bit ≤ 1) (ht : t ≤ 1) (hL : L < M) (he : 2 * R + bit = t * M + L) (w : World) :
  Calls Tryz.prog 80 #[num R, .int .u64 (bit : Nat), num M] w fun e w' => e = .returned (num L) ∧ Below w.heap.size w w' := by
 have hR2 : R < 2 ^ 256 := by omega
 obtain ⟨S, c, hS, hc, e1, _⟩ := Jdl R R hR2 hR2
 have A := Jcr R R S c hR2 hR2 hS hc e1
 have ev : S % 2 = 0 := by omega
 obtain ⟨w0, w1, w2, w3⟩ := even_word S bit hS ev hb
 have hU : S + bit < 2 ^ 256 := by omega
 have en : num (S + bit) = .agg #[.int .u64 (wd (S + bit) 0), .int .u64 (wd S 1), .int .u64 (wd S 2), .int .u64 (wd S 3)] := by unfold num; rw [w1, w2, w3]
 have b1 : ((wd S 0 : Nat) : Int) + (bit : Nat) = (wd (S + bit) 0 : Nat) := by rw [w0]; simp
 have wl := Kw (S + bit) 0
 have b2 : IntKind.u64.wrap (((wd S 0 : Nat) : Int) + (bit : Nat)) = (wd (S + bit) 0 : Nat) := by rw [b1, IntKind.wrap_u64]; omega
 have b3 : IntKind.u64.wrap ((wd (S + bit) 0 : Nat) : Int) = (wd (S + bit) 0 : Nat) := by rw [IntKind.wrap_u64]; omega
 obtain ⟨D, l, hD, hl, e2, _⟩ := Jaj (S + bit) M hU hM
 have SU := Xq (S + bit) M D l hU hM hD hl e2
 have CM := Kz (S + bit) M hU hM
 rw [en] at SU CM
 have htm : t = 0 ∧ t * M = 0 ∨ t = 1 ∧ t * M = M := by
  have : t = 0 ∨ t = 1 := by omega
  rcases this with h | h <;> subst h <;> simp
 by_cases hc1 : c = 1
 ·subst hc1
  have hDL : D = L := by omega
  subst hDL
  exact twice_over R bit M S (S + bit) D l b1 b2 b3 A SU w
 ·have hc0 : c = 0 := by omega
  subst hc0
  by_cases hge : M ≤ S + bit
  ·have hDL : D = L := by omega
   subst hDL
   have hcv : 0 ≤ Uu (S + bit) M := by unfold Uu; rw [if_neg (by omega)]; split <;> omega
   exact twice_ge R bit M S (S + bit) D l (Uu (S + bit) M) hcv b1 b2 b3 A CM SU w
  ·have hSL : S + bit = L := by omega
   have hcv : Uu (S + bit) M < 0 := by rw [Xo (by omega)]; omega
   have h := twice_lt R bit M S (S + bit) (Uu (S + bit) M) hcv b1 b2 b3 A CM w
   rw [← en, hSL] at h
   exact h
theorem word_yes (a : Nat) (w : World) : Calls Tryz.prog 44 #[.agg #[.int .u64 a, .int .u64 0, .int .u64 0, .int .u64 0]] w fun e w' => e = .returned (.bool true) ∧ Below w.heap.size w w' := by
 go_enter Tryz.func44, Tryz.ntmps44
 go_wp2
 go_ret
 exact ⟨rfl, by repeat (first | exact Below.refl _ _ | refine gr_alloc ?_ _ | refine Below.drew ?_)⟩
theorem word_no1 (a b c d : Nat) (h : b ≠ 0) (w : World) : Calls Tryz.prog 44 #[.agg #[.int .u64 a, .int .u64 b, .int .u64 c, .int .u64 d]] w fun e w' => e = .returned (.bool false) ∧ Below w.heap.size w w' := by
 have h1 : ((b : Int) == 0) = false := by simp; omega
 have h2 : decide ((b : Int) = 0) = false := by simp; omega
 have h3 : ¬ (b : Int) = 0 := by omega
 go_enter Tryz.func44, Tryz.ntmps44
 go_wp2
 go_ret
 exact ⟨rfl, by repeat (first | exact Below.refl _ _ | refine gr_alloc ?_ _ | refine Below.drew ?_)⟩
theorem word_no2 (a c d : Nat) (h : c ≠ 0) (w : World) : Calls Tryz.prog 44 #[.agg #[.int .u64 a, .int .u64 0, .int .u64 c, .int .u64 d]] w fun e w' => e = .returned (.bool false) ∧ Below w.heap.size w w' := by
 have h1 : ((c : Int) == 0) = false := by simp; omega
 have h2 : decide ((c : Int) = 0) = false := by simp; omega
 have h3 : ¬ (c : Int) = 0 := by omega
 go_enter Tryz.func44, Tryz.ntmps44
 go_wp2
 go_ret
 exact ⟨rfl, by repeat (first | exact Below.refl _ _ | refine gr_alloc ?_ _ | refine Below.drew ?_)⟩
theorem word_no3 (a d : Nat) (h : d ≠ 0) (w : World) : Calls Tryz.prog 44 #[.agg #[.int .u64 a, .int .u64 0, .int .u64 0, .int .u64 d]] w fun e w' => e = .returned (.bool false) ∧ Below w.heap.size w w' := by
 have h1 : ((d : Int) == 0) = false := by simp; omega
 have h2 : decide ((d : Int) = 0) = false := by simp; omega
 have h3 : ¬ (d : Int) = 0 := by omega
 go_enter Tryz.func44, Tryz.ntmps44
 go_wp2
 go_ret
 exact ⟨rfl, by repeat (first | exact Below.refl _ _ | refine gr_alloc ?_ _ | refine Below.drew ?_)⟩
theorem Xf (X : Nat) (hX : X < 2 ^ 256) (w : World) : Calls Tryz.prog 44 #[num X] w fun e w' => e = .returned (.bool (decide (X < 18446744073709551616))) ∧ Below w.heap.size w w' := by
 have hs := Xd X hX
 unfold num
 by_cases h1 : wd X 1 = 0
 ·by_cases h2 : wd X 2 = 0
  ·by_cases h3 : wd X 3 = 0
   ·have hl := Kw X 0
    rw [h1, h2, h3, decide_eq_true (show X < 18446744073709551616 by omega)]
    exact word_yes _ w
   ·rw [h1, h2, decide_eq_false (show ¬ X < 18446744073709551616 by omega)]
    exact word_no3 _ _ h3 w
  ·rw [h1, decide_eq_false (show ¬ X < 18446744073709551616 by omega)]
   exact word_no2 _ _ _ h2 w
 ·rw [decide_eq_false (show ¬ X < 18446744073709551616 by omega)]
  exact word_no1 _ _ _ _ h1 w
end Go.Proofs.YtodlpmepoakdlaaGreat
