/-
  mods: Add, Sub, Mul, Exp, Inv.
-/
import Derived.Test.YtfjploahkodekaaMMod10
import Derived.Test.YtfjploahkodekaaMMod9
import Derived.Test.YtfjploahkodekaaMShort
namespace Go.Proofs.Ytfjploahkodekaa
set_option maxRecDepth 100000
open Go.RowKit
set_option linter.unusedSimpArgs false
set_option linter.unusedVariables false
attribute [local go_sem ↓] Go.wp_at_zero Go.wp_at_succ

set_option maxRecDepth 100000 in
set_option maxHeartbeats 8000000 in
theorem addw (A B M V : Nat) (er : Int)
    (c1 : ∀ w, Calls Try.prog 41 #[.agg #[.func (.func 40) #[] #[]], num A, num B, num M] w fun e w' => e = .returned (.tuple #[num V, .int .i64 er]) ∧ Below w.heap.size w w')
    (w : World) : Calls Try.prog 30 #[num A, num B, num M] w fun e w' => e = .returned (.tuple #[num V, .int .i64 er]) ∧ Below w.heap.size w w' := by
  have Hc1 := Lib.hid c1
  clear c1
  go_enter Try.func30, Try.ntmps30
  go_wp2_with fail
  have BW := Lib.hid (Below.refl w.heap.size w)
  generalize hW1 : ((((w.alloc (.cells #[.int .u64 (wd A 0 : Nat), .int .u64 (wd A 1 : Nat), .int .u64 (wd A 2 : Nat), .int .u64 (wd A 3 : Nat)] 24)).alloc (.cells #[.int .u64 (wd B 0 : Nat), .int .u64 (wd B 1 : Nat), .int .u64 (wd B 2 : Nat), .int .u64 (wd B 3 : Nat)] 24)).alloc (.cells #[.int .u64 (wd M 0 : Nat), .int .u64 (wd M 1 : Nat), .int .u64 (wd M 2 : Nat), .int .u64 (wd M 3 : Nat)] 24)).alloc (.cells #[.int .u64 0, .int .u64 0, .int .u64 0, .int .u64 0] 24)) = W1 at *
  have Na : At W1 (w.heap.size) _ _ := at_of hW1 ((((At.at_ _ _ _ _ (by simp)).alloc _).alloc _).alloc _)
  have Nb : At W1 (w.heap.size + 1) _ _ := at_of hW1 (((At.at_ _ _ _ _ (by simp)).alloc _).alloc _)
  have Nm : At W1 (w.heap.size + 1 + 1) _ _ := at_of hW1 ((At.at_ _ _ _ _ (by simp)).alloc _)
  have No : At W1 (w.heap.size + 1 + 1 + 1) _ _ := at_of hW1 (At.at_ _ _ _ _ (by simp))
  have Eo : w.heap.size ≤ w.heap.size + 1 + 1 + 1 := by have := BW.out.size; omega
  have Dao : w.heap.size ≠ w.heap.size + 1 + 1 + 1 := by omega
  have Dbo : w.heap.size + 1 ≠ w.heap.size + 1 + 1 + 1 := by omega
  have Dmo : w.heap.size + 1 + 1 ≠ w.heap.size + 1 + 1 + 1 := by omega
  have NB := gr_of hW1 (gr_alloc (gr_alloc (gr_alloc (gr_alloc BW.out _) _) _) _)
  clear BW
  clear hW1
  generalize w.heap.size + 1 + 1 + 1 = go at *
  generalize w.heap.size + 1 + 1 = gm at *
  generalize w.heap.size + 1 = gb at *
  obtain ⟨ga, hg0⟩ : ∃ g, g = w.heap.size := ⟨_, rfl⟩
  rw [← hg0] at Na ⊢
  rw [← hg0] at Dao
  clear hg0
  have Fa := Lib.hid Na
  have Fb := Lib.hid Nb
  have Fm := Lib.hid Nm
  have Fo := Lib.hid No
  have BW := Lib.hid NB
  clear NB Na Nb Nm No
  refine (Hc1.out _).mono ?_
  rintro e v2 ⟨rfl, z2⟩
  have Na := Lib.hid (Fa.out.on z2)
  have Nb := Lib.hid (Fb.out.on z2)
  have Nm := Lib.hid (Fm.out.on z2)
  have No := Lib.hid (Fo.out.on z2)
  have NB := Lib.hid (bel_tr BW.out z2)
  clear BW z2 Fa Fb Fm Fo
  have Fa := Na
  have Fb := Nb
  have Fm := Nm
  have Fo := No
  have BW := NB
  clear NB Na Nb Nm No
  have Lo := Fo.out.lt
  have co0 : v2.cell? ⟨go, 0, none⟩ = some (.int .u64 0) := Fo.out.cell 0
  have co1 : v2.cell? ⟨go, 1, none⟩ = some (.int .u64 0) := Fo.out.cell 1
  have co2 : v2.cell? ⟨go, 2, none⟩ = some (.int .u64 0) := Fo.out.cell 2
  have co3 : v2.cell? ⟨go, 3, none⟩ = some (.int .u64 0) := Fo.out.cell 3
  have fo0 : v2.frozen? ⟨go, 0, none⟩ = false := Fo.out.frozen 0
  have fo1 : v2.frozen? ⟨go, 1, none⟩ = false := Fo.out.frozen 1
  have fo2 : v2.frozen? ⟨go, 2, none⟩ = false := Fo.out.frozen 2
  have fo3 : v2.frozen? ⟨go, 3, none⟩ = false := Fo.out.frozen 3
  go_wp2_with fail
  generalize hW3 : ((((v2.setCell ⟨go, 0, none⟩ (.int .u64 (wd V 0 : Nat))).setCell ⟨go, 1, none⟩ (.int .u64 (wd V 1 : Nat))).setCell ⟨go, 2, none⟩ (.int .u64 (wd V 2 : Nat))).setCell ⟨go, 3, none⟩ (.int .u64 (wd V 3 : Nat))) = W3 at *
  clear Lo co0 co1 co2 co3 fo0 fo1 fo2 fo3
  have Na_0 := at_of hW3 ((Fa.out).far4 Dao _ _ _ _)
  have Nb_0 := at_of hW3 ((Fb.out).far4 Dbo _ _ _ _)
  have Nm_0 := at_of hW3 ((Fm.out).far4 Dmo _ _ _ _)
  have No_0 := at_of hW3 ((Fo.out).put4 _ _ _ _)
  have NB_0 := gr_of hW3 (((((BW.out).setCell Eo _).setCell Eo _).setCell Eo _).setCell Eo _)
  have Na := Na_0
  have Nb := Nb_0
  have Nm := Nm_0
  have No := No_0
  have NB := NB_0
  clear BW Fa Fb Fm Fo Na_0 Nb_0 Nm_0 No_0 NB_0
  clear hW3
  have Fa := Lib.hid Na
  have Fb := Lib.hid Nb
  have Fm := Lib.hid Nm
  have Fo := Lib.hid No
  have BW := Lib.hid NB
  clear NB Na Nb Nm No
  have Lo := Fo.out.lt
  have co0 := Fo.out.c0
  have co1 := Fo.out.c1
  have co2 := Fo.out.c2
  have co3 := Fo.out.c3
  refine bodyPost_ret (v := .tuple #[num V, .int .i64 er]) (by simp [results, Try.results30, go_sem, *]) rfl ⟨rfl, BW.out⟩

set_option maxRecDepth 100000 in
set_option maxHeartbeats 8000000 in
theorem subw (A B M V : Nat) (er : Int)
    (c1 : ∀ w, Calls Try.prog 41 #[.agg #[.func (.func 44) #[] #[]], num A, num B, num M] w fun e w' => e = .returned (.tuple #[num V, .int .i64 er]) ∧ Below w.heap.size w w')
    (w : World) : Calls Try.prog 35 #[num A, num B, num M] w fun e w' => e = .returned (.tuple #[num V, .int .i64 er]) ∧ Below w.heap.size w w' := by
  have Hc1 := Lib.hid c1
  clear c1
  go_enter Try.func35, Try.ntmps35
  go_wp2_with fail
  have BW := Lib.hid (Below.refl w.heap.size w)
  generalize hW1 : ((((w.alloc (.cells #[.int .u64 (wd A 0 : Nat), .int .u64 (wd A 1 : Nat), .int .u64 (wd A 2 : Nat), .int .u64 (wd A 3 : Nat)] 24)).alloc (.cells #[.int .u64 (wd B 0 : Nat), .int .u64 (wd B 1 : Nat), .int .u64 (wd B 2 : Nat), .int .u64 (wd B 3 : Nat)] 24)).alloc (.cells #[.int .u64 (wd M 0 : Nat), .int .u64 (wd M 1 : Nat), .int .u64 (wd M 2 : Nat), .int .u64 (wd M 3 : Nat)] 24)).alloc (.cells #[.int .u64 0, .int .u64 0, .int .u64 0, .int .u64 0] 24)) = W1 at *
  have Na : At W1 (w.heap.size) _ _ := at_of hW1 ((((At.at_ _ _ _ _ (by simp)).alloc _).alloc _).alloc _)
  have Nb : At W1 (w.heap.size + 1) _ _ := at_of hW1 (((At.at_ _ _ _ _ (by simp)).alloc _).alloc _)
  have Nm : At W1 (w.heap.size + 1 + 1) _ _ := at_of hW1 ((At.at_ _ _ _ _ (by simp)).alloc _)
  have No : At W1 (w.heap.size + 1 + 1 + 1) _ _ := at_of hW1 (At.at_ _ _ _ _ (by simp))
  have Eo : w.heap.size ≤ w.heap.size + 1 + 1 + 1 := by have := BW.out.size; omega
  have Dao : w.heap.size ≠ w.heap.size + 1 + 1 + 1 := by omega
  have Dbo : w.heap.size + 1 ≠ w.heap.size + 1 + 1 + 1 := by omega
  have Dmo : w.heap.size + 1 + 1 ≠ w.heap.size + 1 + 1 + 1 := by omega
  have NB := gr_of hW1 (gr_alloc (gr_alloc (gr_alloc (gr_alloc BW.out _) _) _) _)
  clear BW
  clear hW1
  generalize w.heap.size + 1 + 1 + 1 = go at *
  generalize w.heap.size + 1 + 1 = gm at *
  generalize w.heap.size + 1 = gb at *
  obtain ⟨ga, hg0⟩ : ∃ g, g = w.heap.size := ⟨_, rfl⟩
  rw [← hg0] at Na ⊢
  rw [← hg0] at Dao
  clear hg0
  have Fa := Lib.hid Na
  have Fb := Lib.hid Nb
  have Fm := Lib.hid Nm
  have Fo := Lib.hid No
  have BW := Lib.hid NB
  clear NB Na Nb Nm No
  refine (Hc1.out _).mono ?_
  rintro e v2 ⟨rfl, z2⟩
  have Na := Lib.hid (Fa.out.on z2)
  have Nb := Lib.hid (Fb.out.on z2)
  have Nm := Lib.hid (Fm.out.on z2)
  have No := Lib.hid (Fo.out.on z2)
  have NB := Lib.hid (bel_tr BW.out z2)
  clear BW z2 Fa Fb Fm Fo
  have Fa := Na
  have Fb := Nb
  have Fm := Nm
  have Fo := No
  have BW := NB
  clear NB Na Nb Nm No
  have Lo := Fo.out.lt
  have co0 : v2.cell? ⟨go, 0, none⟩ = some (.int .u64 0) := Fo.out.cell 0
  have co1 : v2.cell? ⟨go, 1, none⟩ = some (.int .u64 0) := Fo.out.cell 1
  have co2 : v2.cell? ⟨go, 2, none⟩ = some (.int .u64 0) := Fo.out.cell 2
  have co3 : v2.cell? ⟨go, 3, none⟩ = some (.int .u64 0) := Fo.out.cell 3
  have fo0 : v2.frozen? ⟨go, 0, none⟩ = false := Fo.out.frozen 0
  have fo1 : v2.frozen? ⟨go, 1, none⟩ = false := Fo.out.frozen 1
  have fo2 : v2.frozen? ⟨go, 2, none⟩ = false := Fo.out.frozen 2
  have fo3 : v2.frozen? ⟨go, 3, none⟩ = false := Fo.out.frozen 3
  go_wp2_with fail
  generalize hW3 : ((((v2.setCell ⟨go, 0, none⟩ (.int .u64 (wd V 0 : Nat))).setCell ⟨go, 1, none⟩ (.int .u64 (wd V 1 : Nat))).setCell ⟨go, 2, none⟩ (.int .u64 (wd V 2 : Nat))).setCell ⟨go, 3, none⟩ (.int .u64 (wd V 3 : Nat))) = W3 at *
  clear Lo co0 co1 co2 co3 fo0 fo1 fo2 fo3
  have Na_0 := at_of hW3 ((Fa.out).far4 Dao _ _ _ _)
  have Nb_0 := at_of hW3 ((Fb.out).far4 Dbo _ _ _ _)
  have Nm_0 := at_of hW3 ((Fm.out).far4 Dmo _ _ _ _)
  have No_0 := at_of hW3 ((Fo.out).put4 _ _ _ _)
  have NB_0 := gr_of hW3 (((((BW.out).setCell Eo _).setCell Eo _).setCell Eo _).setCell Eo _)
  have Na := Na_0
  have Nb := Nb_0
  have Nm := Nm_0
  have No := No_0
  have NB := NB_0
  clear BW Fa Fb Fm Fo Na_0 Nb_0 Nm_0 No_0 NB_0
  clear hW3
  have Fa := Lib.hid Na
  have Fb := Lib.hid Nb
  have Fm := Lib.hid Nm
  have Fo := Lib.hid No
  have BW := Lib.hid NB
  clear NB Na Nb Nm No
  have Lo := Fo.out.lt
  have co0 := Fo.out.c0
  have co1 := Fo.out.c1
  have co2 := Fo.out.c2
  have co3 := Fo.out.c3
  refine bodyPost_ret (v := .tuple #[num V, .int .i64 er]) (by simp [results, Try.results35, go_sem, *]) rfl ⟨rfl, BW.out⟩

set_option maxRecDepth 100000 in
set_option maxHeartbeats 8000000 in
theorem mulw (A B M V : Nat) (er : Int)
    (c1 : ∀ w, Calls Try.prog 41 #[.agg #[.func (.func 42) #[] #[]], num A, num B, num M] w fun e w' => e = .returned (.tuple #[num V, .int .i64 er]) ∧ Below w.heap.size w w')
    (w : World) : Calls Try.prog 31 #[num A, num B, num M] w fun e w' => e = .returned (.tuple #[num V, .int .i64 er]) ∧ Below w.heap.size w w' := by
  have Hc1 := Lib.hid c1
  clear c1
  go_enter Try.func31, Try.ntmps31
  go_wp2_with fail
  have BW := Lib.hid (Below.refl w.heap.size w)
  generalize hW1 : ((((w.alloc (.cells #[.int .u64 (wd A 0 : Nat), .int .u64 (wd A 1 : Nat), .int .u64 (wd A 2 : Nat), .int .u64 (wd A 3 : Nat)] 24)).alloc (.cells #[.int .u64 (wd B 0 : Nat), .int .u64 (wd B 1 : Nat), .int .u64 (wd B 2 : Nat), .int .u64 (wd B 3 : Nat)] 24)).alloc (.cells #[.int .u64 (wd M 0 : Nat), .int .u64 (wd M 1 : Nat), .int .u64 (wd M 2 : Nat), .int .u64 (wd M 3 : Nat)] 24)).alloc (.cells #[.int .u64 0, .int .u64 0, .int .u64 0, .int .u64 0] 24)) = W1 at *
  have Na : At W1 (w.heap.size) _ _ := at_of hW1 ((((At.at_ _ _ _ _ (by simp)).alloc _).alloc _).alloc _)
  have Nb : At W1 (w.heap.size + 1) _ _ := at_of hW1 (((At.at_ _ _ _ _ (by simp)).alloc _).alloc _)
  have Nm : At W1 (w.heap.size + 1 + 1) _ _ := at_of hW1 ((At.at_ _ _ _ _ (by simp)).alloc _)
  have No : At W1 (w.heap.size + 1 + 1 + 1) _ _ := at_of hW1 (At.at_ _ _ _ _ (by simp))
  have Eo : w.heap.size ≤ w.heap.size + 1 + 1 + 1 := by have := BW.out.size; omega
  have Dao : w.heap.size ≠ w.heap.size + 1 + 1 + 1 := by omega
  have Dbo : w.heap.size + 1 ≠ w.heap.size + 1 + 1 + 1 := by omega
  have Dmo : w.heap.size + 1 + 1 ≠ w.heap.size + 1 + 1 + 1 := by omega
  have NB := gr_of hW1 (gr_alloc (gr_alloc (gr_alloc (gr_alloc BW.out _) _) _) _)
  clear BW
  clear hW1
  generalize w.heap.size + 1 + 1 + 1 = go at *
  generalize w.heap.size + 1 + 1 = gm at *
  generalize w.heap.size + 1 = gb at *
  obtain ⟨ga, hg0⟩ : ∃ g, g = w.heap.size := ⟨_, rfl⟩
  rw [← hg0] at Na ⊢
  rw [← hg0] at Dao
  clear hg0
  have Fa := Lib.hid Na
  have Fb := Lib.hid Nb
  have Fm := Lib.hid Nm
  have Fo := Lib.hid No
  have BW := Lib.hid NB
  clear NB Na Nb Nm No
  refine (Hc1.out _).mono ?_
  rintro e v2 ⟨rfl, z2⟩
  have Na := Lib.hid (Fa.out.on z2)
  have Nb := Lib.hid (Fb.out.on z2)
  have Nm := Lib.hid (Fm.out.on z2)
  have No := Lib.hid (Fo.out.on z2)
  have NB := Lib.hid (bel_tr BW.out z2)
  clear BW z2 Fa Fb Fm Fo
  have Fa := Na
  have Fb := Nb
  have Fm := Nm
  have Fo := No
  have BW := NB
  clear NB Na Nb Nm No
  have Lo := Fo.out.lt
  have co0 : v2.cell? ⟨go, 0, none⟩ = some (.int .u64 0) := Fo.out.cell 0
  have co1 : v2.cell? ⟨go, 1, none⟩ = some (.int .u64 0) := Fo.out.cell 1
  have co2 : v2.cell? ⟨go, 2, none⟩ = some (.int .u64 0) := Fo.out.cell 2
  have co3 : v2.cell? ⟨go, 3, none⟩ = some (.int .u64 0) := Fo.out.cell 3
  have fo0 : v2.frozen? ⟨go, 0, none⟩ = false := Fo.out.frozen 0
  have fo1 : v2.frozen? ⟨go, 1, none⟩ = false := Fo.out.frozen 1
  have fo2 : v2.frozen? ⟨go, 2, none⟩ = false := Fo.out.frozen 2
  have fo3 : v2.frozen? ⟨go, 3, none⟩ = false := Fo.out.frozen 3
  go_wp2_with fail
  generalize hW3 : ((((v2.setCell ⟨go, 0, none⟩ (.int .u64 (wd V 0 : Nat))).setCell ⟨go, 1, none⟩ (.int .u64 (wd V 1 : Nat))).setCell ⟨go, 2, none⟩ (.int .u64 (wd V 2 : Nat))).setCell ⟨go, 3, none⟩ (.int .u64 (wd V 3 : Nat))) = W3 at *
  clear Lo co0 co1 co2 co3 fo0 fo1 fo2 fo3
  have Na_0 := at_of hW3 ((Fa.out).far4 Dao _ _ _ _)
  have Nb_0 := at_of hW3 ((Fb.out).far4 Dbo _ _ _ _)
  have Nm_0 := at_of hW3 ((Fm.out).far4 Dmo _ _ _ _)
  have No_0 := at_of hW3 ((Fo.out).put4 _ _ _ _)
  have NB_0 := gr_of hW3 (((((BW.out).setCell Eo _).setCell Eo _).setCell Eo _).setCell Eo _)
  have Na := Na_0
  have Nb := Nb_0
  have Nm := Nm_0
  have No := No_0
  have NB := NB_0
  clear BW Fa Fb Fm Fo Na_0 Nb_0 Nm_0 No_0 NB_0
  clear hW3
  have Fa := Lib.hid Na
  have Fb := Lib.hid Nb
  have Fm := Lib.hid Nm
  have Fo := Lib.hid No
  have BW := Lib.hid NB
  clear NB Na Nb Nm No
  have Lo := Fo.out.lt
  have co0 := Fo.out.c0
  have co1 := Fo.out.c1
  have co2 := Fo.out.c2
  have co3 := Fo.out.c3
  refine bodyPost_ret (v := .tuple #[num V, .int .i64 er]) (by simp [results, Try.results31, go_sem, *]) rfl ⟨rfl, BW.out⟩

set_option maxRecDepth 100000 in
set_option maxHeartbeats 8000000 in
theorem invw (A M V : Nat) (er : Int)
    (c1 : ∀ w, Calls Try.prog 41 #[.agg #[.func (.func 43) #[] #[]], num A, num A, num M] w fun e w' => e = .returned (.tuple #[num V, .int .i64 er]) ∧ Below w.heap.size w w')
    (w : World) : Calls Try.prog 34 #[num A, num M] w fun e w' => e = .returned (.tuple #[num V, .int .i64 er]) ∧ Below w.heap.size w w' := by
  have Hc1 := Lib.hid c1
  clear c1
  go_enter Try.func34, Try.ntmps34
  go_wp2_with fail
  have BW := Lib.hid (Below.refl w.heap.size w)
  generalize hW1 : (((w.alloc (.cells #[.int .u64 (wd A 0 : Nat), .int .u64 (wd A 1 : Nat), .int .u64 (wd A 2 : Nat), .int .u64 (wd A 3 : Nat)] 24)).alloc (.cells #[.int .u64 (wd M 0 : Nat), .int .u64 (wd M 1 : Nat), .int .u64 (wd M 2 : Nat), .int .u64 (wd M 3 : Nat)] 24)).alloc (.cells #[.int .u64 0, .int .u64 0, .int .u64 0, .int .u64 0] 24)) = W1 at *
  have Na : At W1 (w.heap.size) _ _ := at_of hW1 (((At.at_ _ _ _ _ (by simp)).alloc _).alloc _)
  have Nm : At W1 (w.heap.size + 1) _ _ := at_of hW1 ((At.at_ _ _ _ _ (by simp)).alloc _)
  have No : At W1 (w.heap.size + 1 + 1) _ _ := at_of hW1 (At.at_ _ _ _ _ (by simp))
  have Eo : w.heap.size ≤ w.heap.size + 1 + 1 := by have := BW.out.size; omega
  have Dao : w.heap.size ≠ w.heap.size + 1 + 1 := by omega
  have Dmo : w.heap.size + 1 ≠ w.heap.size + 1 + 1 := by omega
  have NB := gr_of hW1 (gr_alloc (gr_alloc (gr_alloc BW.out _) _) _)
  clear BW
  clear hW1
  generalize w.heap.size + 1 + 1 = go at *
  generalize w.heap.size + 1 = gm at *
  obtain ⟨ga, hg0⟩ : ∃ g, g = w.heap.size := ⟨_, rfl⟩
  rw [← hg0] at Na ⊢
  rw [← hg0] at Dao
  clear hg0
  have Fa := Lib.hid Na
  have Fm := Lib.hid Nm
  have Fo := Lib.hid No
  have BW := Lib.hid NB
  clear NB Na Nm No
  refine (Hc1.out _).mono ?_
  rintro e v2 ⟨rfl, z2⟩
  have Na := Lib.hid (Fa.out.on z2)
  have Nm := Lib.hid (Fm.out.on z2)
  have No := Lib.hid (Fo.out.on z2)
  have NB := Lib.hid (bel_tr BW.out z2)
  clear BW z2 Fa Fm Fo
  have Fa := Na
  have Fm := Nm
  have Fo := No
  have BW := NB
  clear NB Na Nm No
  have Lo := Fo.out.lt
  have co0 : v2.cell? ⟨go, 0, none⟩ = some (.int .u64 0) := Fo.out.cell 0
  have co1 : v2.cell? ⟨go, 1, none⟩ = some (.int .u64 0) := Fo.out.cell 1
  have co2 : v2.cell? ⟨go, 2, none⟩ = some (.int .u64 0) := Fo.out.cell 2
  have co3 : v2.cell? ⟨go, 3, none⟩ = some (.int .u64 0) := Fo.out.cell 3
  have fo0 : v2.frozen? ⟨go, 0, none⟩ = false := Fo.out.frozen 0
  have fo1 : v2.frozen? ⟨go, 1, none⟩ = false := Fo.out.frozen 1
  have fo2 : v2.frozen? ⟨go, 2, none⟩ = false := Fo.out.frozen 2
  have fo3 : v2.frozen? ⟨go, 3, none⟩ = false := Fo.out.frozen 3
  go_wp2_with fail
  generalize hW3 : ((((v2.setCell ⟨go, 0, none⟩ (.int .u64 (wd V 0 : Nat))).setCell ⟨go, 1, none⟩ (.int .u64 (wd V 1 : Nat))).setCell ⟨go, 2, none⟩ (.int .u64 (wd V 2 : Nat))).setCell ⟨go, 3, none⟩ (.int .u64 (wd V 3 : Nat))) = W3 at *
  clear Lo co0 co1 co2 co3 fo0 fo1 fo2 fo3
  have Na_0 := at_of hW3 ((Fa.out).far4 Dao _ _ _ _)
  have Nm_0 := at_of hW3 ((Fm.out).far4 Dmo _ _ _ _)
  have No_0 := at_of hW3 ((Fo.out).put4 _ _ _ _)
  have NB_0 := gr_of hW3 (((((BW.out).setCell Eo _).setCell Eo _).setCell Eo _).setCell Eo _)
  have Na := Na_0
  have Nm := Nm_0
  have No := No_0
  have NB := NB_0
  clear BW Fa Fm Fo Na_0 Nm_0 No_0 NB_0
  clear hW3
  have Fa := Lib.hid Na
  have Fm := Lib.hid Nm
  have Fo := Lib.hid No
  have BW := Lib.hid NB
  clear NB Na Nm No
  have Lo := Fo.out.lt
  have co0 := Fo.out.c0
  have co1 := Fo.out.c1
  have co2 := Fo.out.c2
  have co3 := Fo.out.c3
  refine bodyPost_ret (v := .tuple #[num V, .int .i64 er]) (by simp [results, Try.results34, go_sem, *]) rfl ⟨rfl, BW.out⟩

theorem cmpN_le {X Y : Nat} (h : X ≤ Y) : cmpN X Y ≤ 0 := by unfold cmpN; split <;> (try split) <;> omega
theorem cmpN_ge {X Y : Nat} (h : Y ≤ X) : 0 ≤ cmpN X Y := by unfold cmpN; rw [if_neg (by omega)]; split <;> omega
theorem cmpN_pos {X Y : Nat} (h : Y < X) : 0 < cmpN X Y := by rw [cmpN_gt h]; omega
theorem cmpN_neg {X Y : Nat} (h : X < Y) : cmpN X Y < 0 := by rw [cmpN_lt h]; omega

theorem with_not (A B M : Nat) (hA : A < 2 ^ 256) (hB : B < 2 ^ 256) (hM : M < 2 ^ 256) (h : ¬ (1 < M ∧ A < M ∧ B < M)) (fv : Value) (w : World) :
    Calls Try.prog 41 #[.agg #[fv], num A, num B, num M] w fun e w' => e = .returned (.tuple #[num 0, .int .i64 1]) ∧ Below w.heap.size w w' := by
  rw [num_zero]
  by_cases h1 : 1 < M
  · by_cases h2 : A < M
    · exact with_bad2 A B M 1 fv _ _ _ (cmpN_pos h1) (cmpN_neg h2) (cmpN_ge (by omega)) (fun w => of_any 1 (by decide) w) (fun w => cmp_any M 1 hM (by decide) w) (fun w => cmp_any A M hA hM w) (fun w => cmp_any B M hB hM w) w
    · exact with_bad1 A B M 1 fv _ _ (cmpN_pos h1) (cmpN_ge (by omega)) (fun w => of_any 1 (by decide) w) (fun w => cmp_any M 1 hM (by decide) w) (fun w => cmp_any A M hA hM w) w
  · exact with_bad0 A B M 1 fv _ (cmpN_le (by omega)) (fun w => of_any 1 (by decide) w) (fun w => cmp_any M 1 hM (by decide) w) w

/-- mods.Add, of numbers that may be -/
theorem madd_yes (A B M : Nat) (hM : M < 2 ^ 256) (h1 : 1 < M) (hA : A < M) (hB : B < M) : ∀ w, Calls Try.prog 30 #[num A, num B, num M] w fun e w' => e = .returned (.tuple #[num ((A + B) % M), .int .i64 0]) ∧ Below w.heap.size w w' := by
  exact fun w => addw A B M _ _ (fun w => with_sum A B M 1 _ _ _ _ _ (cmpN_pos h1) (cmpN_neg hA) (cmpN_neg hB) (fun w => of_any 1 (by decide) w) (fun w => cmp_any M 1 hM (by decide) w) (fun w => cmp_any A M (by omega) hM w) (fun w => cmp_any B M (by omega) hM w) (sum_any A B M hA hB hM) w) w
/-- mods.Add, of numbers that may not be -/
theorem madd_no (A B M : Nat) (hA : A < 2 ^ 256) (hB : B < 2 ^ 256) (hM : M < 2 ^ 256) (h : ¬ (1 < M ∧ A < M ∧ B < M)) : ∀ w, Calls Try.prog 30 #[num A, num B, num M] w fun e w' => e = .returned (.tuple #[num (0), .int .i64 1]) ∧ Below w.heap.size w w' := fun w => addw A B M _ _ (fun w => with_not A B M hA hB hM h _ w) w

/-- mods.Mul, of numbers that may be -/
theorem mmul_yes (A B M : Nat) (hM : M < 2 ^ 256) (h1 : 1 < M) (hA : A < M) (hB : B < M) : ∀ w, Calls Try.prog 31 #[num A, num B, num M] w fun e w' => e = .returned (.tuple #[num (A * B % M), .int .i64 0]) ∧ Below w.heap.size w w' := by
  exact fun w => mulw A B M _ _ (fun w => with_product A B M 1 _ _ _ _ _ (cmpN_pos h1) (cmpN_neg hA) (cmpN_neg hB) (fun w => of_any 1 (by decide) w) (fun w => cmp_any M 1 hM (by decide) w) (fun w => cmp_any A M (by omega) hM w) (fun w => cmp_any B M (by omega) hM w) (prod_any A B M (by omega) (by omega) hM (by omega)) w) w
/-- mods.Mul, of numbers that may not be -/
theorem mmul_no (A B M : Nat) (hA : A < 2 ^ 256) (hB : B < 2 ^ 256) (hM : M < 2 ^ 256) (h : ¬ (1 < M ∧ A < M ∧ B < M)) : ∀ w, Calls Try.prog 31 #[num A, num B, num M] w fun e w' => e = .returned (.tuple #[num (0), .int .i64 1]) ∧ Below w.heap.size w w' := fun w => mulw A B M _ _ (fun w => with_not A B M hA hB hM h _ w) w

/-- mods.Sub, of numbers that may be -/
theorem msub_yes (A B M : Nat) (hM : M < 2 ^ 256) (h1 : 1 < M) (hA : A < M) (hB : B < M) : ∀ w, Calls Try.prog 35 #[num A, num B, num M] w fun e w' => e = .returned (.tuple #[num ((A + M - B) % M), .int .i64 0]) ∧ Below w.heap.size w w' := by
  obtain ⟨L, c, hL, hc, he, C⟩ := diff_ex A B M hA hB hM
  have e : (A + M - B) % M = L := by
    have h01 : c = 0 ∨ c = 1 := by omega
    rcases h01 with rfl | rfl
    · rw [show A + M - B = L + M by omega, Nat.add_mod_right, Nat.mod_eq_of_lt hL]
    · rw [show A + M - B = L by omega, Nat.mod_eq_of_lt hL]
  rw [e]
  exact fun w => subw A B M _ _ (fun w => with_difference A B M 1 _ _ _ _ _ (cmpN_pos h1) (cmpN_neg hA) (cmpN_neg hB) (fun w => of_any 1 (by decide) w) (fun w => cmp_any M 1 hM (by decide) w) (fun w => cmp_any A M (by omega) hM w) (fun w => cmp_any B M (by omega) hM w) C w) w
/-- mods.Sub, of numbers that may not be -/
theorem msub_no (A B M : Nat) (hA : A < 2 ^ 256) (hB : B < 2 ^ 256) (hM : M < 2 ^ 256) (h : ¬ (1 < M ∧ A < M ∧ B < M)) : ∀ w, Calls Try.prog 35 #[num A, num B, num M] w fun e w' => e = .returned (.tuple #[num (0), .int .i64 1]) ∧ Below w.heap.size w w' := fun w => subw A B M _ _ (fun w => with_not A B M hA hB hM h _ w) w

/-- mods.Inv -/
theorem minv_yes (A M V : Nat) (hM : M < 2 ^ 256) (h1 : 1 < M) (hA : A < M) (hV : V < M) (hAV : A * V % M = 1) : ∀ w, Calls Try.prog 34 #[num A, num M] w fun e w' => e = .returned (.tuple #[num (V), .int .i64 0]) ∧ Below w.heap.size w w' := fun w =>
  invw A M _ _ (fun w => with_inverse A A M 1 _ _ _ _ _ (cmpN_pos h1) (cmpN_neg hA) (cmpN_neg hA) (fun w => of_any 1 (by decide) w) (fun w => cmp_any M 1 hM (by decide) w) (fun w => cmp_any A M (by omega) hM w) (fun w => cmp_any A M (by omega) hM w) (fun w => (inverse_walk A A M hA h1 hM w).mono fun e w' ⟨v, er, he, hh, hb⟩ => by
    rcases hh with ⟨_, rfl, X, rfl, hX, hAX⟩ | ⟨hg, _⟩
    · rw [inv_one A X V M hX hV hAX hAV] at he; exact ⟨he, hb⟩
    · exact absurd (inv_gcd A M V h1 hAV) hg) w) w
theorem minv_none (A M : Nat) (hM : M < 2 ^ 256) (h1 : 1 < M) (hA : A < M) (hg : Nat.gcd A M ≠ 1) : ∀ w, Calls Try.prog 34 #[num A, num M] w fun e w' => e = .returned (.tuple #[num (0), .int .i64 7]) ∧ Below w.heap.size w w' := fun w =>
  invw A M _ _ (fun w => with_inverse A A M 1 _ _ _ _ _ (cmpN_pos h1) (cmpN_neg hA) (cmpN_neg hA) (fun w => of_any 1 (by decide) w) (fun w => cmp_any M 1 hM (by decide) w) (fun w => cmp_any A M (by omega) hM w) (fun w => cmp_any A M (by omega) hM w) (fun w => (inverse_walk A A M hA h1 hM w).mono fun e w' ⟨v, er, he, hh, hb⟩ => by
    rcases hh with ⟨hg', _⟩ | ⟨_, rfl, rfl⟩
    · exact absurd hg' hg
    · exact ⟨he, hb⟩) w) w
theorem minv_no (A M : Nat) (hA : A < 2 ^ 256) (hM : M < 2 ^ 256) (h : ¬ (1 < M ∧ A < M)) : ∀ w, Calls Try.prog 34 #[num A, num M] w fun e w' => e = .returned (.tuple #[num (0), .int .i64 1]) ∧ Below w.heap.size w w' := fun w =>
  invw A M _ _ (fun w => with_not A A M hA hA hM (fun h' => h ⟨h'.1, h'.2.1⟩) _ w) w
end Go.Proofs.Ytfjploahkodekaa
