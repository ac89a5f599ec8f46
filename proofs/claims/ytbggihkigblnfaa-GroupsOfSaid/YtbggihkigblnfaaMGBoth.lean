/-
 The document for groups: what is answered, walked.
-/
import Derived.Deep.Cut
import Derived.Test.YtbggihkigblnfaaMGIn
import Derived.Test.YtbggihkigblnfaaMRCommon
import Derived.Test.YtbggihkigblnfaaMRDiv
import Derived.Test.YtbggihkigblnfaaMRGExpT
import Derived.Test.YtbggihkigblnfaaMRGMay
import Derived.Test.YtbggihkigblnfaaMRGMulT
import Derived.Test.YtbggihkigblnfaaMRefC
import Derived.Test.YtbggihkigblnfaaMTree
namespace Go.Proofs.Ytbggihkigblnfaa
set_option maxRecDepth 100000
open Go.RowKit
set_option linter.unusedSimpArgs false
set_option linter.unusedVariables false
attribute [local go_sem ↓] Go.wp_at_zero Go.wp_at_succ

set_option maxRecDepth 100000 in
set_option maxHeartbeats 8000000 in
theorem r8inv_bad (P Q G H A : Nat)
  (c1 : ∀ w, Calls Try.prog 40 #[grp P Q G H, num A] w fun e w' => e = .returned (.bool false) ∧ Below w.heap.size w w')
  (w : World) : Calls Try.prog 18 #[grp P Q G H, num A] w fun e w' => e = .returned (.tuple #[num 0, .int .i64 1]) ∧ Below w.heap.size w w' := by
 have Hc1 := Lib.hid c1
 clear c1
 go_enter Try.func18, Try.ntmps18
 go_wp2_with fail
 have BW := Lib.hid (Below.refl w.heap.size w)
 have Eo : w.heap.size ≤ w.heap.size + 1 + 1 := by have := BW.out.size; omega
 have Dro : w.heap.size ≠ w.heap.size + 1 + 1 := by omega
 have Dao : w.heap.size + 1 ≠ w.heap.size + 1 + 1 := by omega
 generalize hW1 : (((w.alloc (.cells #[.int .u64 (wd P 0 : Nat), .int .u64 (wd P 1 : Nat), .int .u64 (wd P 2 : Nat), .int .u64 (wd P 3 : Nat), .int .u64 (wd Q 0 : Nat), .int .u64 (wd Q 1 : Nat), .int .u64 (wd Q 2 : Nat), .int .u64 (wd Q 3 : Nat), .int .u64 (wd G 0 : Nat), .int .u64 (wd G 1 : Nat), .int .u64 (wd G 2 : Nat), .int .u64 (wd G 3 : Nat), .int .u64 (wd H 0 : Nat), .int .u64 (wd H 1 : Nat), .int .u64 (wd H 2 : Nat), .int .u64 (wd H 3 : Nat)] 35)).alloc (.cells #[.int .u64 (wd A 0 : Nat), .int .u64 (wd A 1 : Nat), .int .u64 (wd A 2 : Nat), .int .u64 (wd A 3 : Nat)] 24)).alloc (.cells #[.int .u64 0, .int .u64 0, .int .u64 0, .int .u64 0] 24)) = W1 at *
 have Nr : At W1 (w.heap.size) _ _ := at_of hW1 (((At.at_ _ _ _ _ (by simp)).alloc _).alloc _)
 have Na : At W1 (w.heap.size + 1) _ _ := at_of hW1 ((At.at_ _ _ _ _ (by simp)).alloc _)
 have No : At W1 (w.heap.size + 1 + 1) _ _ := at_of hW1 (At.at_ _ _ _ _ (by simp))
 have NB := gr_of hW1 (gr_alloc (gr_alloc (gr_alloc BW.out _) _) _)
 clear hW1 BW 
 generalize w.heap.size + 1 + 1 = go at *
 generalize w.heap.size + 1 = ga at *
 obtain ⟨gr, hg0⟩ : ∃ g, g = w.heap.size := ⟨_, rfl⟩
 rw [← hg0] at Nr ⊢
 rw [← hg0] at Dro
 clear hg0
 have Fr := Lib.hid Nr
 have Fa := Lib.hid Na
 have Fo := Lib.hid No
 have BW := Lib.hid NB
 clear NB Nr Na No
 refine (Hc1.out _).mono ?_
 rintro e v2 ⟨rfl, z2⟩
 have Nr := Lib.hid (Fr.out.on z2)
 have Na := Lib.hid (Fa.out.on z2)
 have No := Lib.hid (Fo.out.on z2)
 have NB := Lib.hid (bel_tr BW.out z2)
 clear BW z2 Fr Fa Fo
 have Fr := Nr
 have Fa := Na
 have Fo := No
 have BW := NB
 clear NB Nr Na No
 have Lo := Fo.out.lt
 have co0 := Fo.out.c0
 have co1 := Fo.out.c1
 have co2 := Fo.out.c2
 have co3 := Fo.out.c3
 have fo0 : v2.frozen? ⟨go, 0, none⟩ = false := Fo.out.frozen 0
 have fo1 : v2.frozen? ⟨go, 1, none⟩ = false := Fo.out.frozen 1
 have fo2 : v2.frozen? ⟨go, 2, none⟩ = false := Fo.out.frozen 2
 have fo3 : v2.frozen? ⟨go, 3, none⟩ = false := Fo.out.frozen 3
 go_wp2_with fail
 clear Lo co0 co1 co2 co3 fo0 fo1 fo2 fo3
 generalize hW3 : ((((v2.setCell ⟨go, 0, none⟩ (.int .u64 0)).setCell ⟨go, 1, none⟩ (.int .u64 0)).setCell ⟨go, 2, none⟩ (.int .u64 0)).setCell ⟨go, 3, none⟩ (.int .u64 0)) = W3 at *
 have Nr := at_of hW3 ((Fr.out).far4 Dro _ _ _ _)
 have Na := at_of hW3 ((Fa.out).far4 Dao _ _ _ _)
 have No := at_of hW3 ((Fo.out).put4 _ _ _ _)
 have NB := gr_of hW3 (((((BW.out).setCell Eo _).setCell Eo _).setCell Eo _).setCell Eo _)
 clear hW3 BW Fr Fa Fo
 have Fr := Lib.hid Nr
 have Fa := Lib.hid Na
 have Fo := Lib.hid No
 have BW := Lib.hid NB
 clear NB Nr Na No
 have Lo := Fo.out.lt
 have co0 := Fo.out.c0
 have co1 := Fo.out.c1
 have co2 := Fo.out.c2
 have co3 := Fo.out.c3
 refine bodyPost_ret (v := .tuple #[.agg #[.int .u64 0, .int .u64 0, .int .u64 0, .int .u64 0], .int .i64 1]) (by simp [results, Try.results18, go_sem, *]) rfl ⟨rfl, BW.out⟩

set_option maxRecDepth 100000 in
set_option maxHeartbeats 8000000 in
theorem r8inv_good (P Q G H A V : Nat) (er : Int)
  (c1 : ∀ w, Calls Try.prog 40 #[grp P Q G H, num A] w fun e w' => e = .returned (.bool true) ∧ Below w.heap.size w w')
  (c3 : ∀ w, Calls Try.prog 42 #[num A, num P] w fun e w' => e = .returned (.tuple #[num V, .int .i64 er]) ∧ Below w.heap.size w w')
  (w : World) : Calls Try.prog 18 #[grp P Q G H, num A] w fun e w' => e = .returned (.tuple #[num V, .int .i64 er]) ∧ Below w.heap.size w w' := by
 have Hc1 := Lib.hid c1
 have Hc3 := Lib.hid c3
 clear c1 c3
 go_enter Try.func18, Try.ntmps18
 go_wp2_with fail
 have BW := Lib.hid (Below.refl w.heap.size w)
 have Eo : w.heap.size ≤ w.heap.size + 1 + 1 := by have := BW.out.size; omega
 have Dro : w.heap.size ≠ w.heap.size + 1 + 1 := by omega
 have Dao : w.heap.size + 1 ≠ w.heap.size + 1 + 1 := by omega
 generalize hW1 : (((w.alloc (.cells #[.int .u64 (wd P 0 : Nat), .int .u64 (wd P 1 : Nat), .int .u64 (wd P 2 : Nat), .int .u64 (wd P 3 : Nat), .int .u64 (wd Q 0 : Nat), .int .u64 (wd Q 1 : Nat), .int .u64 (wd Q 2 : Nat), .int .u64 (wd Q 3 : Nat), .int .u64 (wd G 0 : Nat), .int .u64 (wd G 1 : Nat), .int .u64 (wd G 2 : Nat), .int .u64 (wd G 3 : Nat), .int .u64 (wd H 0 : Nat), .int .u64 (wd H 1 : Nat), .int .u64 (wd H 2 : Nat), .int .u64 (wd H 3 : Nat)] 35)).alloc (.cells #[.int .u64 (wd A 0 : Nat), .int .u64 (wd A 1 : Nat), .int .u64 (wd A 2 : Nat), .int .u64 (wd A 3 : Nat)] 24)).alloc (.cells #[.int .u64 0, .int .u64 0, .int .u64 0, .int .u64 0] 24)) = W1 at *
 have Nr : At W1 (w.heap.size) _ _ := at_of hW1 (((At.at_ _ _ _ _ (by simp)).alloc _).alloc _)
 have Na : At W1 (w.heap.size + 1) _ _ := at_of hW1 ((At.at_ _ _ _ _ (by simp)).alloc _)
 have No : At W1 (w.heap.size + 1 + 1) _ _ := at_of hW1 (At.at_ _ _ _ _ (by simp))
 have NB := gr_of hW1 (gr_alloc (gr_alloc (gr_alloc BW.out _) _) _)
 clear hW1 BW 
 generalize w.heap.size + 1 + 1 = go at *
 generalize w.heap.size + 1 = ga at *
 obtain ⟨gr, hg0⟩ : ∃ g, g = w.heap.size := ⟨_, rfl⟩
 rw [← hg0] at Nr ⊢
 rw [← hg0] at Dro
 clear hg0
 have Fr := Lib.hid Nr
 have Fa := Lib.hid Na
 have Fo := Lib.hid No
 have BW := Lib.hid NB
 clear NB Nr Na No
 refine (Hc1.out _).mono ?_
 rintro e v2 ⟨rfl, z2⟩
 have Nr := Lib.hid (Fr.out.on z2)
 have Na := Lib.hid (Fa.out.on z2)
 have No := Lib.hid (Fo.out.on z2)
 have NB := Lib.hid (bel_tr BW.out z2)
 clear BW z2 Fr Fa Fo
 have Fr := Nr
 have Fa := Na
 have Fo := No
 have BW := NB
 clear NB Nr Na No
 have La := Fa.out.lt
 have ca0 := Fa.out.c0
 have ca1 := Fa.out.c1
 have ca2 := Fa.out.c2
 have ca3 := Fa.out.c3
 have Lr := Fr.out.lt
 have cr0 : v2.cell? ⟨gr, 0, none⟩ = some (.int .u64 (wd P 0 : Nat)) := Fr.out.cell 0
 have cr1 : v2.cell? ⟨gr, 1, none⟩ = some (.int .u64 (wd P 1 : Nat)) := Fr.out.cell 1
 have cr2 : v2.cell? ⟨gr, 2, none⟩ = some (.int .u64 (wd P 2 : Nat)) := Fr.out.cell 2
 have cr3 : v2.cell? ⟨gr, 3, none⟩ = some (.int .u64 (wd P 3 : Nat)) := Fr.out.cell 3
 have cr4 : v2.cell? ⟨gr, 4, none⟩ = some (.int .u64 (wd Q 0 : Nat)) := Fr.out.cell 4
 have cr5 : v2.cell? ⟨gr, 5, none⟩ = some (.int .u64 (wd Q 1 : Nat)) := Fr.out.cell 5
 have cr6 : v2.cell? ⟨gr, 6, none⟩ = some (.int .u64 (wd Q 2 : Nat)) := Fr.out.cell 6
 have cr7 : v2.cell? ⟨gr, 7, none⟩ = some (.int .u64 (wd Q 3 : Nat)) := Fr.out.cell 7
 have cr8 : v2.cell? ⟨gr, 8, none⟩ = some (.int .u64 (wd G 0 : Nat)) := Fr.out.cell 8
 have cr9 : v2.cell? ⟨gr, 9, none⟩ = some (.int .u64 (wd G 1 : Nat)) := Fr.out.cell 9
 have cr10 : v2.cell? ⟨gr, 10, none⟩ = some (.int .u64 (wd G 2 : Nat)) := Fr.out.cell 10
 have cr11 : v2.cell? ⟨gr, 11, none⟩ = some (.int .u64 (wd G 3 : Nat)) := Fr.out.cell 11
 have cr12 : v2.cell? ⟨gr, 12, none⟩ = some (.int .u64 (wd H 0 : Nat)) := Fr.out.cell 12
 have cr13 : v2.cell? ⟨gr, 13, none⟩ = some (.int .u64 (wd H 1 : Nat)) := Fr.out.cell 13
 have cr14 : v2.cell? ⟨gr, 14, none⟩ = some (.int .u64 (wd H 2 : Nat)) := Fr.out.cell 14
 have cr15 : v2.cell? ⟨gr, 15, none⟩ = some (.int .u64 (wd H 3 : Nat)) := Fr.out.cell 15
 go_wp2_with fail
 clear La ca0 ca1 ca2 ca3 Lr cr0 cr1 cr2 cr3 cr4 cr5 cr6 cr7 cr8 cr9 cr10 cr11 cr12 cr13 cr14 cr15
 refine (Hc3.out _).mono ?_
 rintro e v3 ⟨rfl, z3⟩
 have Nr := Lib.hid (Fr.out.on z3)
 have Na := Lib.hid (Fa.out.on z3)
 have No := Lib.hid (Fo.out.on z3)
 have NB := Lib.hid (bel_tr BW.out z3)
 clear BW z3 Fr Fa Fo
 have Fr := Nr
 have Fa := Na
 have Fo := No
 have BW := NB
 clear NB Nr Na No
 have Lo := Fo.out.lt
 have co0 := Fo.out.c0
 have co1 := Fo.out.c1
 have co2 := Fo.out.c2
 have co3 := Fo.out.c3
 have fo0 : v3.frozen? ⟨go, 0, none⟩ = false := Fo.out.frozen 0
 have fo1 : v3.frozen? ⟨go, 1, none⟩ = false := Fo.out.frozen 1
 have fo2 : v3.frozen? ⟨go, 2, none⟩ = false := Fo.out.frozen 2
 have fo3 : v3.frozen? ⟨go, 3, none⟩ = false := Fo.out.frozen 3
 go_wp2_with fail
 clear Lo co0 co1 co2 co3 fo0 fo1 fo2 fo3
 generalize hW4 : ((((v3.setCell ⟨go, 0, none⟩ (.int .u64 (wd V 0 : Nat))).setCell ⟨go, 1, none⟩ (.int .u64 (wd V 1 : Nat))).setCell ⟨go, 2, none⟩ (.int .u64 (wd V 2 : Nat))).setCell ⟨go, 3, none⟩ (.int .u64 (wd V 3 : Nat))) = W4 at *
 have Nr := at_of hW4 ((Fr.out).far4 Dro _ _ _ _)
 have Na := at_of hW4 ((Fa.out).far4 Dao _ _ _ _)
 have No := at_of hW4 ((Fo.out).put4 _ _ _ _)
 have NB := gr_of hW4 (((((BW.out).setCell Eo _).setCell Eo _).setCell Eo _).setCell Eo _)
 clear hW4 BW Fr Fa Fo
 have Fr := Lib.hid Nr
 have Fa := Lib.hid Na
 have Fo := Lib.hid No
 have BW := Lib.hid NB
 clear NB Nr Na No
 have Lo := Fo.out.lt
 have co0 := Fo.out.c0
 have co1 := Fo.out.c1
 have co2 := Fo.out.c2
 have co3 := Fo.out.c3
 refine bodyPost_ret (v := .tuple #[num V, .int .i64 er]) (by simp [results, Try.results18, go_sem, *]) rfl ⟨rfl, BW.out⟩

end Go.Proofs.Ytbggihkigblnfaa

/-
 The document's In; each pair of answers, the program's and the document's, is one.
-/
namespace Go.Proofs.Ytbggihkigblnfaa
set_option maxRecDepth 100000
open Go.RowKit
set_option linter.unusedSimpArgs false
set_option linter.unusedVariables false
attribute [local go_sem ↓] Go.wp_at_zero Go.wp_at_succ

set_option maxRecDepth 100000 in
set_option maxHeartbeats 8000000 in
theorem r8in_no (P Q G H A : Nat)
  (c1 : ∀ w, Calls Try.prog 40 #[grp P Q G H, num A] w fun e w' => e = .returned (.bool false) ∧ Below w.heap.size w w')
  (w : World) : Calls Try.prog 21 #[grp P Q G H, num A] w fun e w' => e = .returned (.bool false) ∧ Below w.heap.size w w' := by
 have Hc1 := Lib.hid c1
 clear c1
 go_enter Try.func21, Try.ntmps21
 go_wp2_with fail
 have BW := Lib.hid (Below.refl w.heap.size w)
 generalize hW1 : ((w.alloc (.cells #[.int .u64 (wd P 0 : Nat), .int .u64 (wd P 1 : Nat), .int .u64 (wd P 2 : Nat), .int .u64 (wd P 3 : Nat), .int .u64 (wd Q 0 : Nat), .int .u64 (wd Q 1 : Nat), .int .u64 (wd Q 2 : Nat), .int .u64 (wd Q 3 : Nat), .int .u64 (wd G 0 : Nat), .int .u64 (wd G 1 : Nat), .int .u64 (wd G 2 : Nat), .int .u64 (wd G 3 : Nat), .int .u64 (wd H 0 : Nat), .int .u64 (wd H 1 : Nat), .int .u64 (wd H 2 : Nat), .int .u64 (wd H 3 : Nat)] 35)).alloc (.cells #[.int .u64 (wd A 0 : Nat), .int .u64 (wd A 1 : Nat), .int .u64 (wd A 2 : Nat), .int .u64 (wd A 3 : Nat)] 24)) = W1 at *
 have Nr : At W1 (w.heap.size) _ _ := at_of hW1 ((At.at_ _ _ _ _ (by simp)).alloc _)
 have Na : At W1 (w.heap.size + 1) _ _ := at_of hW1 (At.at_ _ _ _ _ (by simp))
 have NB := gr_of hW1 (gr_alloc (gr_alloc BW.out _) _)
 clear hW1 BW 
 generalize w.heap.size + 1 = ga at *
 obtain ⟨gr, hg0⟩ : ∃ g, g = w.heap.size := ⟨_, rfl⟩
 rw [← hg0] at Nr ⊢
 clear hg0
 have Fr := Lib.hid Nr
 have Fa := Lib.hid Na
 have BW := Lib.hid NB
 clear NB Nr Na
 refine (Hc1.out _).mono ?_
 rintro e v2 ⟨rfl, z2⟩
 have Nr := Lib.hid (Fr.out.on z2)
 have Na := Lib.hid (Fa.out.on z2)
 have NB := Lib.hid (bel_tr BW.out z2)
 clear BW z2 Fr Fa
 have Fr := Nr
 have Fa := Na
 have BW := NB
 clear NB Nr Na
 go_wp2
 go_ret
 exact ⟨rfl, BW.out⟩

set_option maxRecDepth 100000 in
set_option maxHeartbeats 8000000 in
theorem r8in_true (P Q G H A X : Nat)
  (c1 : ∀ w, Calls Try.prog 40 #[grp P Q G H, num A] w fun e w' => e = .returned (.bool true) ∧ Below w.heap.size w w')
  (c3 : ∀ w, Calls Try.prog 43 #[num A, num Q, num P] w fun e w' => e = .returned (.tuple #[num X, .int .i64 0]) ∧ Below w.heap.size w w')
  (e : ∀ w : World, (Op.equalIn 10000 24 (num X) (num 1)).run Try.prog w = .ok true w)
  (w : World) : Calls Try.prog 21 #[grp P Q G H, num A] w fun e w' => e = .returned (.bool true) ∧ Below w.heap.size w w' := by
 have Hc1 := Lib.hid c1
 have Hc3 := Lib.hid c3
 have He := Lib.hid e
 clear c1 c3 e
 go_enter Try.func21, Try.ntmps21
 go_wp2_with fail
 have BW := Lib.hid (Below.refl w.heap.size w)
 generalize hW1 : ((w.alloc (.cells #[.int .u64 (wd P 0 : Nat), .int .u64 (wd P 1 : Nat), .int .u64 (wd P 2 : Nat), .int .u64 (wd P 3 : Nat), .int .u64 (wd Q 0 : Nat), .int .u64 (wd Q 1 : Nat), .int .u64 (wd Q 2 : Nat), .int .u64 (wd Q 3 : Nat), .int .u64 (wd G 0 : Nat), .int .u64 (wd G 1 : Nat), .int .u64 (wd G 2 : Nat), .int .u64 (wd G 3 : Nat), .int .u64 (wd H 0 : Nat), .int .u64 (wd H 1 : Nat), .int .u64 (wd H 2 : Nat), .int .u64 (wd H 3 : Nat)] 35)).alloc (.cells #[.int .u64 (wd A 0 : Nat), .int .u64 (wd A 1 : Nat), .int .u64 (wd A 2 : Nat), .int .u64 (wd A 3 : Nat)] 24)) = W1 at *
 have Nr : At W1 (w.heap.size) _ _ := at_of hW1 ((At.at_ _ _ _ _ (by simp)).alloc _)
 have Na : At W1 (w.heap.size + 1) _ _ := at_of hW1 (At.at_ _ _ _ _ (by simp))
 have NB := gr_of hW1 (gr_alloc (gr_alloc BW.out _) _)
 clear hW1 BW 
 generalize w.heap.size + 1 = ga at *
 obtain ⟨gr, hg0⟩ : ∃ g, g = w.heap.size := ⟨_, rfl⟩
 rw [← hg0] at Nr ⊢
 clear hg0
 have Fr := Lib.hid Nr
 have Fa := Lib.hid Na
 have BW := Lib.hid NB
 clear NB Nr Na
 refine (Hc1.out _).mono ?_
 rintro e v2 ⟨rfl, z2⟩
 have Nr := Lib.hid (Fr.out.on z2)
 have Na := Lib.hid (Fa.out.on z2)
 have NB := Lib.hid (bel_tr BW.out z2)
 clear BW z2 Fr Fa
 have Fr := Nr
 have Fa := Na
 have BW := NB
 clear NB Nr Na
 have Lr := Fr.out.lt
 have cr0 : v2.cell? ⟨gr, 0, none⟩ = some (.int .u64 (wd P 0 : Nat)) := Fr.out.cell 0
 have cr1 : v2.cell? ⟨gr, 1, none⟩ = some (.int .u64 (wd P 1 : Nat)) := Fr.out.cell 1
 have cr2 : v2.cell? ⟨gr, 2, none⟩ = some (.int .u64 (wd P 2 : Nat)) := Fr.out.cell 2
 have cr3 : v2.cell? ⟨gr, 3, none⟩ = some (.int .u64 (wd P 3 : Nat)) := Fr.out.cell 3
 have cr4 : v2.cell? ⟨gr, 4, none⟩ = some (.int .u64 (wd Q 0 : Nat)) := Fr.out.cell 4
 have cr5 : v2.cell? ⟨gr, 5, none⟩ = some (.int .u64 (wd Q 1 : Nat)) := Fr.out.cell 5
 have cr6 : v2.cell? ⟨gr, 6, none⟩ = some (.int .u64 (wd Q 2 : Nat)) := Fr.out.cell 6
 have cr7 : v2.cell? ⟨gr, 7, none⟩ = some (.int .u64 (wd Q 3 : Nat)) := Fr.out.cell 7
 have cr8 : v2.cell? ⟨gr, 8, none⟩ = some (.int .u64 (wd G 0 : Nat)) := Fr.out.cell 8
 have cr9 : v2.cell? ⟨gr, 9, none⟩ = some (.int .u64 (wd G 1 : Nat)) := Fr.out.cell 9
 have cr10 : v2.cell? ⟨gr, 10, none⟩ = some (.int .u64 (wd G 2 : Nat)) := Fr.out.cell 10
 have cr11 : v2.cell? ⟨gr, 11, none⟩ = some (.int .u64 (wd G 3 : Nat)) := Fr.out.cell 11
 have cr12 : v2.cell? ⟨gr, 12, none⟩ = some (.int .u64 (wd H 0 : Nat)) := Fr.out.cell 12
 have cr13 : v2.cell? ⟨gr, 13, none⟩ = some (.int .u64 (wd H 1 : Nat)) := Fr.out.cell 13
 have cr14 : v2.cell? ⟨gr, 14, none⟩ = some (.int .u64 (wd H 2 : Nat)) := Fr.out.cell 14
 have cr15 : v2.cell? ⟨gr, 15, none⟩ = some (.int .u64 (wd H 3 : Nat)) := Fr.out.cell 15
 have La := Fa.out.lt
 have ca0 := Fa.out.c0
 have ca1 := Fa.out.c1
 have ca2 := Fa.out.c2
 have ca3 := Fa.out.c3
 go_wp2_with fail
 clear Lr cr0 cr1 cr2 cr3 cr4 cr5 cr6 cr7 cr8 cr9 cr10 cr11 cr12 cr13 cr14 cr15 La ca0 ca1 ca2 ca3
 refine (Hc3.out _).mono ?_
 rintro e v3 ⟨rfl, z3⟩
 have Nr := Lib.hid (Fr.out.on z3)
 have Na := Lib.hid (Fa.out.on z3)
 have NB := Lib.hid (bel_tr BW.out z3)
 clear BW z3 Fr Fa
 have Fr := Nr
 have Fa := Na
 have BW := NB
 clear NB Nr Na
 go_upto_region 4 with fail
 generalize hW4 : (v3.alloc (.cells #[.int .u64 (wd X 0 : Nat), .int .u64 (wd X 1 : Nat), .int .u64 (wd X 2 : Nat), .int .u64 (wd X 3 : Nat)] 24)) = W4 at *
 have Nx : At W4 (v3.heap.size) _ _ := at_of hW4 (At.at_ _ _ _ _ (by simp))
 have Nr := at_of hW4 (Fr.out.alloc _)
 have Na := at_of hW4 (Fa.out.alloc _)
 have NB := gr_of hW4 (gr_alloc BW.out _)
 clear hW4 BW Fr Fa
 generalize v3.heap.size = gx at *
 have Fr := Lib.hid Nr
 have Fa := Lib.hid Na
 have Fx := Lib.hid Nx
 have BW := Lib.hid NB
 clear NB Nr Na Nx
 try simp only [List.append_eq, List.cons_append, List.nil_append]
 refine wp_region_noPanic ?_
 refine wp_region_held_drew (S := fun w' => At w' gx 24 #[.int .u64 (wd X 0 : Nat), .int .u64 (wd X 1 : Nat), .int .u64 (wd X 2 : Nat), .int .u64 (wd X 3 : Nat)]) (by kernel_rfl) (Fx.out.drew) (fun _ => ?_)
 refine wpAnyH_cores (fuel := 1) (⟨0, 20, [], Kind.val (.agg #[.int .u64 (wd X 0 : Nat), .int .u64 (wd X 1 : Nat), .int .u64 (wd X 2 : Nat), .int .u64 (wd X 3 : Nat)]), true⟩ :: ⟨1, 21, [0], Kind.val (.agg #[.int .u64 (wd 1 0 : Nat), .int .u64 (wd 1 1 : Nat), .int .u64 (wd 1 2 : Nat), .int .u64 (wd 1 3 : Nat)]), false⟩ :: ⟨2, 22, [0, 1], Kind.val (.bool true), true⟩ :: []) _ _ W4 _ ?_ ?_ ?_ ?_ ?_ ?_ ?_ ?_ ?_ ?_ ?_
 ·rfl
 ·kernel_rfl
 ·exact of_decide_eq_true (by kernel_rfl)
 ·(repeat refine all_cons ⟨_, by rfl, by rfl⟩ ?_); exact all_nil
 ·exact fun _ hb => Fx.out.on hb
 ·exact (Below.refl _ _).drew
 ·kernel_rfl
 ·exact fun _ _ _ _ _ h => h
 ·(repeat (refine all_cons ?_ ?_; rotate_left)); exact all_nil
  ·exact coreG_loadP _ _ _ _ _ _ gx _ _ _ _ (by rfl) (by rfl) (wants_none) (ko 5) (fun _ hs => hs)
  ·exact core_pureAs _ (by rfl)
  ·exact coreG_bin _ _ _ _ _ _ _ _ _ _ _ _ _ (by rfl) (by rfl) (wants_none) (kc 0 20) (kc 1 21) (eql_run true _ _ _ _ _ _ _ _ _ _ _ _ _ _ _ He.out)
 ·(repeat (refine all_cons ?_ ?_; rotate_left)); exact all_nil
  ·exact sA
  ·exact fun _ => coreG_call _ 44 _ _ [] _ _ _ _ _ _ _ (by rfl) Try.func44 (by kernel_rfl) (by rfl) (by rfl) (wants_none) .nil (rone_any)
  ·exact sA
 intro vs y5 hc
 have BZ := bel_tr BW.out hc.bel
 refine assign_one (i := 3) (.tmp 22) 4 _ _ _ (.bool true) (by kernel_rfl) (by rfl) (hc.at_ (of_decide_eq_true (by kernel_rfl)) (by rfl) 2 22 _ (.bool true) (by rfl) (by rfl) (by rfl)) (Fx.out.on hc.bel) ?_
 refine wpAnyH_done (by kernel_rfl) ?_ _
 refine NoPanic.normal ?_
 generalize hA : Act.put (over _ _ vs) (some 4) (.bool true) = A
 have hA0 : A.tmps.getD 4 undef = .bool true := by rw [← hA]; exact put_at _ _ _ (by rw [over_size]; exact Nat.le_of_ble_eq_true rfl)
 have hAd : A.defers = [] := by rw [← hA, put_defers, over_defers]
 clear hA hc
 go_wp2_with fail
 refine bodyPost_ret (v := .bool true) (by simp [results, Try.results21, go_sem] at hA0 ⊢; simp [hA0]) hAd ⟨rfl, BZ⟩

set_option maxRecDepth 100000 in
set_option maxHeartbeats 8000000 in
theorem r8in_false (P Q G H A X : Nat)
  (c1 : ∀ w, Calls Try.prog 40 #[grp P Q G H, num A] w fun e w' => e = .returned (.bool true) ∧ Below w.heap.size w w')
  (c3 : ∀ w, Calls Try.prog 43 #[num A, num Q, num P] w fun e w' => e = .returned (.tuple #[num X, .int .i64 0]) ∧ Below w.heap.size w w')
  (e : ∀ w : World, (Op.equalIn 10000 24 (num X) (num 1)).run Try.prog w = .ok false w)
  (w : World) : Calls Try.prog 21 #[grp P Q G H, num A] w fun e w' => e = .returned (.bool false) ∧ Below w.heap.size w w' := by
 have Hc1 := Lib.hid c1
 have Hc3 := Lib.hid c3
 have He := Lib.hid e
 clear c1 c3 e
 go_enter Try.func21, Try.ntmps21
 go_wp2_with fail
 have BW := Lib.hid (Below.refl w.heap.size w)
 generalize hW1 : ((w.alloc (.cells #[.int .u64 (wd P 0 : Nat), .int .u64 (wd P 1 : Nat), .int .u64 (wd P 2 : Nat), .int .u64 (wd P 3 : Nat), .int .u64 (wd Q 0 : Nat), .int .u64 (wd Q 1 : Nat), .int .u64 (wd Q 2 : Nat), .int .u64 (wd Q 3 : Nat), .int .u64 (wd G 0 : Nat), .int .u64 (wd G 1 : Nat), .int .u64 (wd G 2 : Nat), .int .u64 (wd G 3 : Nat), .int .u64 (wd H 0 : Nat), .int .u64 (wd H 1 : Nat), .int .u64 (wd H 2 : Nat), .int .u64 (wd H 3 : Nat)] 35)).alloc (.cells #[.int .u64 (wd A 0 : Nat), .int .u64 (wd A 1 : Nat), .int .u64 (wd A 2 : Nat), .int .u64 (wd A 3 : Nat)] 24)) = W1 at *
 have Nr : At W1 (w.heap.size) _ _ := at_of hW1 ((At.at_ _ _ _ _ (by simp)).alloc _)
 have Na : At W1 (w.heap.size + 1) _ _ := at_of hW1 (At.at_ _ _ _ _ (by simp))
 have NB := gr_of hW1 (gr_alloc (gr_alloc BW.out _) _)
 clear hW1 BW 
 generalize w.heap.size + 1 = ga at *
 obtain ⟨gr, hg0⟩ : ∃ g, g = w.heap.size := ⟨_, rfl⟩
 rw [← hg0] at Nr ⊢
 clear hg0
 have Fr := Lib.hid Nr
 have Fa := Lib.hid Na
 have BW := Lib.hid NB
 clear NB Nr Na
 refine (Hc1.out _).mono ?_
 rintro e v2 ⟨rfl, z2⟩
 have Nr := Lib.hid (Fr.out.on z2)
 have Na := Lib.hid (Fa.out.on z2)
 have NB := Lib.hid (bel_tr BW.out z2)
 clear BW z2 Fr Fa
 have Fr := Nr
 have Fa := Na
 have BW := NB
 clear NB Nr Na
 have Lr := Fr.out.lt
 have cr0 : v2.cell? ⟨gr, 0, none⟩ = some (.int .u64 (wd P 0 : Nat)) := Fr.out.cell 0
 have cr1 : v2.cell? ⟨gr, 1, none⟩ = some (.int .u64 (wd P 1 : Nat)) := Fr.out.cell 1
 have cr2 : v2.cell? ⟨gr, 2, none⟩ = some (.int .u64 (wd P 2 : Nat)) := Fr.out.cell 2
 have cr3 : v2.cell? ⟨gr, 3, none⟩ = some (.int .u64 (wd P 3 : Nat)) := Fr.out.cell 3
 have cr4 : v2.cell? ⟨gr, 4, none⟩ = some (.int .u64 (wd Q 0 : Nat)) := Fr.out.cell 4
 have cr5 : v2.cell? ⟨gr, 5, none⟩ = some (.int .u64 (wd Q 1 : Nat)) := Fr.out.cell 5
 have cr6 : v2.cell? ⟨gr, 6, none⟩ = some (.int .u64 (wd Q 2 : Nat)) := Fr.out.cell 6
 have cr7 : v2.cell? ⟨gr, 7, none⟩ = some (.int .u64 (wd Q 3 : Nat)) := Fr.out.cell 7
 have cr8 : v2.cell? ⟨gr, 8, none⟩ = some (.int .u64 (wd G 0 : Nat)) := Fr.out.cell 8
 have cr9 : v2.cell? ⟨gr, 9, none⟩ = some (.int .u64 (wd G 1 : Nat)) := Fr.out.cell 9
 have cr10 : v2.cell? ⟨gr, 10, none⟩ = some (.int .u64 (wd G 2 : Nat)) := Fr.out.cell 10
 have cr11 : v2.cell? ⟨gr, 11, none⟩ = some (.int .u64 (wd G 3 : Nat)) := Fr.out.cell 11
 have cr12 : v2.cell? ⟨gr, 12, none⟩ = some (.int .u64 (wd H 0 : Nat)) := Fr.out.cell 12
 have cr13 : v2.cell? ⟨gr, 13, none⟩ = some (.int .u64 (wd H 1 : Nat)) := Fr.out.cell 13
 have cr14 : v2.cell? ⟨gr, 14, none⟩ = some (.int .u64 (wd H 2 : Nat)) := Fr.out.cell 14
 have cr15 : v2.cell? ⟨gr, 15, none⟩ = some (.int .u64 (wd H 3 : Nat)) := Fr.out.cell 15
 have La := Fa.out.lt
 have ca0 := Fa.out.c0
 have ca1 := Fa.out.c1
 have ca2 := Fa.out.c2
 have ca3 := Fa.out.c3
 go_wp2_with fail
 clear Lr cr0 cr1 cr2 cr3 cr4 cr5 cr6 cr7 cr8 cr9 cr10 cr11 cr12 cr13 cr14 cr15 La ca0 ca1 ca2 ca3
 refine (Hc3.out _).mono ?_
 rintro e v3 ⟨rfl, z3⟩
 have Nr := Lib.hid (Fr.out.on z3)
 have Na := Lib.hid (Fa.out.on z3)
 have NB := Lib.hid (bel_tr BW.out z3)
 clear BW z3 Fr Fa
 have Fr := Nr
 have Fa := Na
 have BW := NB
 clear NB Nr Na
 go_upto_region 4 with fail
 generalize hW4 : (v3.alloc (.cells #[.int .u64 (wd X 0 : Nat), .int .u64 (wd X 1 : Nat), .int .u64 (wd X 2 : Nat), .int .u64 (wd X 3 : Nat)] 24)) = W4 at *
 have Nx : At W4 (v3.heap.size) _ _ := at_of hW4 (At.at_ _ _ _ _ (by simp))
 have Nr := at_of hW4 (Fr.out.alloc _)
 have Na := at_of hW4 (Fa.out.alloc _)
 have NB := gr_of hW4 (gr_alloc BW.out _)
 clear hW4 BW Fr Fa
 generalize v3.heap.size = gx at *
 have Fr := Lib.hid Nr
 have Fa := Lib.hid Na
 have Fx := Lib.hid Nx
 have BW := Lib.hid NB
 clear NB Nr Na Nx
 try simp only [List.append_eq, List.cons_append, List.nil_append]
 refine wp_region_noPanic ?_
 refine wp_region_held_drew (S := fun w' => At w' gx 24 #[.int .u64 (wd X 0 : Nat), .int .u64 (wd X 1 : Nat), .int .u64 (wd X 2 : Nat), .int .u64 (wd X 3 : Nat)]) (by kernel_rfl) (Fx.out.drew) (fun _ => ?_)
 refine wpAnyH_cores (fuel := 1) (⟨0, 20, [], Kind.val (.agg #[.int .u64 (wd X 0 : Nat), .int .u64 (wd X 1 : Nat), .int .u64 (wd X 2 : Nat), .int .u64 (wd X 3 : Nat)]), true⟩ :: ⟨1, 21, [0], Kind.val (.agg #[.int .u64 (wd 1 0 : Nat), .int .u64 (wd 1 1 : Nat), .int .u64 (wd 1 2 : Nat), .int .u64 (wd 1 3 : Nat)]), false⟩ :: ⟨2, 22, [0, 1], Kind.val (.bool false), true⟩ :: []) _ _ W4 _ ?_ ?_ ?_ ?_ ?_ ?_ ?_ ?_ ?_ ?_ ?_
 ·rfl
 ·kernel_rfl
 ·exact of_decide_eq_true (by kernel_rfl)
 ·(repeat refine all_cons ⟨_, by rfl, by rfl⟩ ?_); exact all_nil
 ·exact fun _ hb => Fx.out.on hb
 ·exact (Below.refl _ _).drew
 ·kernel_rfl
 ·exact fun _ _ _ _ _ h => h
 ·(repeat (refine all_cons ?_ ?_; rotate_left)); exact all_nil
  ·exact coreG_loadP _ _ _ _ _ _ gx _ _ _ _ (by rfl) (by rfl) (wants_none) (ko 5) (fun _ hs => hs)
  ·exact core_pureAs _ (by rfl)
  ·exact coreG_bin _ _ _ _ _ _ _ _ _ _ _ _ _ (by rfl) (by rfl) (wants_none) (kc 0 20) (kc 1 21) (eql_run false _ _ _ _ _ _ _ _ _ _ _ _ _ _ _ He.out)
 ·(repeat (refine all_cons ?_ ?_; rotate_left)); exact all_nil
  ·exact sA
  ·exact fun _ => coreG_call _ 44 _ _ [] _ _ _ _ _ _ _ (by rfl) Try.func44 (by kernel_rfl) (by rfl) (by rfl) (wants_none) .nil (rone_any)
  ·exact sA
 intro vs y5 hc
 have BZ := bel_tr BW.out hc.bel
 refine assign_one (i := 3) (.tmp 22) 4 _ _ _ (.bool false) (by kernel_rfl) (by rfl) (hc.at_ (of_decide_eq_true (by kernel_rfl)) (by rfl) 2 22 _ (.bool false) (by rfl) (by rfl) (by rfl)) (Fx.out.on hc.bel) ?_
 refine wpAnyH_done (by kernel_rfl) ?_ _
 refine NoPanic.normal ?_
 generalize hA : Act.put (over _ _ vs) (some 4) (.bool false) = A
 have hA0 : A.tmps.getD 4 undef = .bool false := by rw [← hA]; exact put_at _ _ _ (by rw [over_size]; exact Nat.le_of_ble_eq_true rfl)
 have hAd : A.defers = [] := by rw [← hA, put_defers, over_defers]
 clear hA hc
 go_wp2_with fail
 refine bodyPost_ret (v := .bool false) (by simp [results, Try.results21, go_sem] at hA0 ⊢; simp [hA0]) hAd ⟨rfl, BZ⟩

theorem r8in_any (P Q G H A : Nat) (hP : P < 2 ^ 256) (hQ : Q < 2 ^ 256) (hA : A < 2 ^ 256) (w : World) : Calls Try.prog 21 #[grp P Q G H, num A] w fun e w' => e = .returned (.bool (inB P Q A)) ∧ Below w.heap.size w w' := by
 rcases hm : mayB P A with _ | _
 ·rw [show inB P Q A = false from by simp [inB, hm]]
  exact r8in_no P Q G H A (fun w => hm ▸ rmay8_any P Q G H A hP hA w) w
 ·obtain ⟨h0, h1⟩ := mayB_iff.mp hm
  have hX : A ^ Q % P < 2 ^ 256 := Nat.lt_trans (Nat.mod_lt _ (by omega)) hP
  have CM := fun w => hm ▸ rmay8_any P Q G H A hP hA w
  have CE := re_yes A Q P hP hQ (by omega) h1
  by_cases h1 : A ^ Q % P = 1
  ·rw [show inB P Q A = true from by simp [inB, hm, h1]]
   exact r8in_true P Q G H A _ CM CE (fun w => by rw [eqN _ 1 hX (by decide), decide_eq_true h1]) w
  ·rw [show inB P Q A = false from by simp [inB, hm, h1]]
   exact r8in_false P Q G H A _ CM CE (fun w => by rw [eqN _ 1 hX (by decide), decide_eq_false h1]) w
theorem grcom_any (X Y : Nat) (hX : X < 2 ^ 256) (hY : Y < 2 ^ 256) (w : World) : Calls Try.prog 64 #[num X, num Y] w fun e w' => e = .returned (num (Nat.gcd X Y)) ∧ Below w.heap.size w w' := by
 refine rcommon_any (fun A B hA hB h0 => ?_) X Y hX hY w
 have hB0 : 0 < B := by omega
 exact ⟨A / B, A % B, Nat.mod_lt _ hB0, by rw [Nat.mul_comm]; exact (Nat.div_add_mod _ _).symm, fun w => rdiv_any A B hA hB h0 w⟩
theorem gboth_mul (P Q G H A B : Nat) (hP : P < 2 ^ 256) (hA : A < 2 ^ 256) (hB : B < 2 ^ 256) : ∃ (V : Nat) (er : Int), (∀ w, Calls Try.prog 14 #[grp P Q G H, num A, num B] w fun e w' => e = .returned (.tuple #[num V, .int .i64 er]) ∧ Below w.heap.size w w') ∧ (∀ w, Calls Try.prog 17 #[grp P Q G H, num A, num B] w fun e w' => e = .returned (.tuple #[num V, .int .i64 er]) ∧ Below w.heap.size w w') := by
 by_cases h : mayB P A = true ∧ mayB P B = true
 ·obtain ⟨h0, h1⟩ := mayB_iff.mp h.1
  obtain ⟨h2, h3⟩ := mayB_iff.mp h.2
  exact ⟨_, 0, gmul_yes P Q G H A B hP hA hB h.1 h.2, fun w => r8mul_good P Q G H A B _ _ (fun w => h.1 ▸ rmay8_any P Q G H A hP hA w) (fun w => h.2 ▸ rmay8_any P Q G H B hP hB w) (rm_yes A B P hP (by omega) h1 h3) w⟩
 ·refine ⟨0, 1, gmul_no P Q G H A B hP hA hB h, fun w => ?_⟩
  rcases ha : mayB P A with _ | _
  ·exact r8mul_bad1 P Q G H A B (fun w => ha ▸ rmay8_any P Q G H A hP hA w) w
  ·rcases hb : mayB P B with _ | _
   ·exact r8mul_bad2 P Q G H A B (fun w => ha ▸ rmay8_any P Q G H A hP hA w) (fun w => hb ▸ rmay8_any P Q G H B hP hB w) w
   ·exact absurd ⟨ha, hb⟩ h
theorem gboth_exp (P Q G H A B : Nat) (hP : P < 2 ^ 256) (hA : A < 2 ^ 256) (hB : B < 2 ^ 256) : ∃ (V : Nat) (er : Int), (∀ w, Calls Try.prog 16 #[grp P Q G H, num A, num B] w fun e w' => e = .returned (.tuple #[num V, .int .i64 er]) ∧ Below w.heap.size w w') ∧ (∀ w, Calls Try.prog 19 #[grp P Q G H, num A, num B] w fun e w' => e = .returned (.tuple #[num V, .int .i64 er]) ∧ Below w.heap.size w w') := by
 rcases h : mayB P A with _ | _
 ·exact ⟨0, 1, gexp_no P Q G H A B hP hA h, fun w => r8exp_bad P Q G H A B (fun w => h ▸ rmay8_any P Q G H A hP hA w) w⟩
 ·obtain ⟨h0, h1⟩ := mayB_iff.mp h
  exact ⟨_, 0, gexp_yes P Q G H A B hP hA hB h, fun w => r8exp_good P Q G H A B _ _ (fun w => h ▸ rmay8_any P Q G H A hP hA w) (re_yes A B P hP hB (by omega) h1) w⟩
theorem ginv_there (A M : Nat) (h1 : 1 < M) (hg : Nat.gcd A M = 1) : ∃ V, V < M ∧ A * V % M = 1 := inv_there A M h1 hg
theorem gboth_inv (P Q G H A : Nat) (hP : P < 2 ^ 256) (hA : A < 2 ^ 256) : ∃ (V : Nat) (er : Int), (∀ w, Calls Try.prog 15 #[grp P Q G H, num A] w fun e w' => e = .returned (.tuple #[num V, .int .i64 er]) ∧ Below w.heap.size w w') ∧ (∀ w, Calls Try.prog 18 #[grp P Q G H, num A] w fun e w' => e = .returned (.tuple #[num V, .int .i64 er]) ∧ Below w.heap.size w w') := by
 rcases h : mayB P A with _ | _
 ·exact ⟨0, 1, ginv_no P Q G H A hP hA h, fun w => r8inv_bad P Q G H A (fun w => h ▸ rmay8_any P Q G H A hP hA w) w⟩
 ·obtain ⟨h0, h1⟩ := mayB_iff.mp h
  have hm : ∀ w, Calls Try.prog 62 #[num A, num A, num P] w fun e w' => e = .returned (.bool true) ∧ Below w.heap.size w w' := fun w => by
   have := may_any A A P hA hA hP w
   rw [show decide (1 < P ∧ A < P ∧ A < P) = true from decide_eq_true ⟨by omega, h1, h1⟩] at this
   exact this
  have CO := fun w => rof1_any 1 (by decide) w
  have CC := fun w => grcom_any A P hA hP w
  have CM := fun w => h ▸ rmay8_any P Q G H A hP hA w
  by_cases hg : Nat.gcd A P = 1
  ·obtain ⟨V, hV, hAV⟩ := ginv_there A P (by omega) hg
   rw [hg] at CC
   exact ⟨V, 0, ginv_yes P Q G H A V hP hA h hV hAV, fun w => r8inv_good P Q G H A V _ CM (fun w => ri_some A P V h1 (by omega) hP hg hV hAV hm CC CO w) w⟩
  ·have hgl : Nat.gcd A P < 2 ^ 256 := Nat.lt_of_le_of_lt (Nat.gcd_le_right _ (by omega)) hP
   refine ⟨0, 7, ginv_none P Q G H A hP hA h hg, fun w => r8inv_good P Q G H A 0 _ CM (fun w => ?_) w⟩
   have := ri_none A P _ hm CC CO (fun w => by rw [eqN _ 1 hgl (by decide)]; simp [hg]) w
   rwa [← num_zero] at this
end Go.Proofs.Ytbggihkigblnfaa
