/-
 groups: what is answered, walked.
-/
import Derived.Deep.Cut
import Derived.Test.YtbggihkigblnfaaWGInvT
import Derived.Test.YtbggihkigblnfaaWTree
namespace Go.Proofs.Ytbggihkigblnfaa
set_option maxRecDepth 100000
open Go.RowKit
set_option linter.unusedSimpArgs false
set_option linter.unusedVariables false
attribute [local go_sem ↓] Go.wp_at_zero Go.wp_at_succ

set_option maxRecDepth 100000 in
set_option maxHeartbeats 8000000 in
theorem gexp_bad (P Q G H A B : Nat)
  (c1 : ∀ w, Calls Try.prog 37 #[grp P Q G H, num A] w fun e w' => e = .returned (.bool false) ∧ Below w.heap.size w w')
  (w : World) : Calls Try.prog 16 #[grp P Q G H, num A, num B] w fun e w' => e = .returned (.tuple #[num 0, .int .i64 1]) ∧ Below w.heap.size w w' := by
 have Hc1 := Lib.hid c1
 clear c1
 go_enter Try.func16, Try.ntmps16
 go_wp2_with fail
 have BW := Lib.hid (Below.refl w.heap.size w)
 have Eo : w.heap.size ≤ w.heap.size + 1 + 1 + 1 := by have := BW.out.size; omega
 have Dro : w.heap.size ≠ w.heap.size + 1 + 1 + 1 := by omega
 have Dao : w.heap.size + 1 ≠ w.heap.size + 1 + 1 + 1 := by omega
 have Dbo : w.heap.size + 1 + 1 ≠ w.heap.size + 1 + 1 + 1 := by omega
 generalize hW1 : ((((w.alloc (.cells #[.int .u64 (wd P 0 : Nat), .int .u64 (wd P 1 : Nat), .int .u64 (wd P 2 : Nat), .int .u64 (wd P 3 : Nat), .int .u64 (wd Q 0 : Nat), .int .u64 (wd Q 1 : Nat), .int .u64 (wd Q 2 : Nat), .int .u64 (wd Q 3 : Nat), .int .u64 (wd G 0 : Nat), .int .u64 (wd G 1 : Nat), .int .u64 (wd G 2 : Nat), .int .u64 (wd G 3 : Nat), .int .u64 (wd H 0 : Nat), .int .u64 (wd H 1 : Nat), .int .u64 (wd H 2 : Nat), .int .u64 (wd H 3 : Nat)] 35)).alloc (.cells #[.int .u64 (wd A 0 : Nat), .int .u64 (wd A 1 : Nat), .int .u64 (wd A 2 : Nat), .int .u64 (wd A 3 : Nat)] 24)).alloc (.cells #[.int .u64 (wd B 0 : Nat), .int .u64 (wd B 1 : Nat), .int .u64 (wd B 2 : Nat), .int .u64 (wd B 3 : Nat)] 24)).alloc (.cells #[.int .u64 0, .int .u64 0, .int .u64 0, .int .u64 0] 24)) = W1 at *
 have Nr : At W1 (w.heap.size) _ _ := at_of hW1 ((((At.at_ _ _ _ _ (by simp)).alloc _).alloc _).alloc _)
 have Na : At W1 (w.heap.size + 1) _ _ := at_of hW1 (((At.at_ _ _ _ _ (by simp)).alloc _).alloc _)
 have Nb : At W1 (w.heap.size + 1 + 1) _ _ := at_of hW1 ((At.at_ _ _ _ _ (by simp)).alloc _)
 have No : At W1 (w.heap.size + 1 + 1 + 1) _ _ := at_of hW1 (At.at_ _ _ _ _ (by simp))
 have NB := gr_of hW1 (gr_alloc (gr_alloc (gr_alloc (gr_alloc BW.out _) _) _) _)
 clear hW1 BW 
 generalize w.heap.size + 1 + 1 + 1 = go at *
 generalize w.heap.size + 1 + 1 = gb at *
 generalize w.heap.size + 1 = ga at *
 obtain ⟨gr, hg0⟩ : ∃ g, g = w.heap.size := ⟨_, rfl⟩
 rw [← hg0] at Nr ⊢
 rw [← hg0] at Dro
 clear hg0
 have Fr := Lib.hid Nr
 have Fa := Lib.hid Na
 have Fb := Lib.hid Nb
 have Fo := Lib.hid No
 have BW := Lib.hid NB
 clear NB Nr Na Nb No
 refine (Hc1.out _).mono ?_
 rintro e v2 ⟨rfl, z2⟩
 have Nr := Lib.hid (Fr.out.on z2)
 have Na := Lib.hid (Fa.out.on z2)
 have Nb := Lib.hid (Fb.out.on z2)
 have No := Lib.hid (Fo.out.on z2)
 have NB := Lib.hid (bel_tr BW.out z2)
 clear BW z2 Fr Fa Fb Fo
 have Fr := Nr
 have Fa := Na
 have Fb := Nb
 have Fo := No
 have BW := NB
 clear NB Nr Na Nb No
 have Lo := Fo.out.lt
 have co0 := Fo.out.c0
 have co1 := Fo.out.c1
 have co2 := Fo.out.c2
 have co3 := Fo.out.c3
 have fo0 : v2.frozen? ⟨go, 0, none⟩ = false := Fo.out.frozen 0
 have fo1 : v2.frozen? ⟨go, 1, none⟩ = false := Fo.out.frozen 1
 have fo2 : v2.frozen? ⟨go, 2, none⟩ = false := Fo.out.frozen 2
 have fo3 : v2.frozen? ⟨go, 3, none⟩ = false := Fo.out.frozen 3
 go_wp2_with fail
 clear Lo co0 co1 co2 co3 fo0 fo1 fo2 fo3
 generalize hW3 : ((((v2.setCell ⟨go, 0, none⟩ (.int .u64 0)).setCell ⟨go, 1, none⟩ (.int .u64 0)).setCell ⟨go, 2, none⟩ (.int .u64 0)).setCell ⟨go, 3, none⟩ (.int .u64 0)) = W3 at *
 have Nr := at_of hW3 ((Fr.out).far4 Dro _ _ _ _)
 have Na := at_of hW3 ((Fa.out).far4 Dao _ _ _ _)
 have Nb := at_of hW3 ((Fb.out).far4 Dbo _ _ _ _)
 have No := at_of hW3 ((Fo.out).put4 _ _ _ _)
 have NB := gr_of hW3 (((((BW.out).setCell Eo _).setCell Eo _).setCell Eo _).setCell Eo _)
 clear hW3 BW Fr Fa Fb Fo
 have Fr := Lib.hid Nr
 have Fa := Lib.hid Na
 have Fb := Lib.hid Nb
 have Fo := Lib.hid No
 have BW := Lib.hid NB
 clear NB Nr Na Nb No
 have Lo := Fo.out.lt
 have co0 := Fo.out.c0
 have co1 := Fo.out.c1
 have co2 := Fo.out.c2
 have co3 := Fo.out.c3
 refine bodyPost_ret (v := .tuple #[.agg #[.int .u64 0, .int .u64 0, .int .u64 0, .int .u64 0], .int .i64 1]) (by simp [results, Try.results16, go_sem, *]) rfl ⟨rfl, BW.out⟩

set_option maxRecDepth 100000 in
set_option maxHeartbeats 8000000 in
theorem gexp_good (P Q G H A B V : Nat) (er : Int)
  (c1 : ∀ w, Calls Try.prog 37 #[grp P Q G H, num A] w fun e w' => e = .returned (.bool true) ∧ Below w.heap.size w w')
  (c3 : ∀ w, Calls Try.prog 39 #[num A, num B, num P] w fun e w' => e = .returned (.tuple #[num V, .int .i64 er]) ∧ Below w.heap.size w w')
  (w : World) : Calls Try.prog 16 #[grp P Q G H, num A, num B] w fun e w' => e = .returned (.tuple #[num V, .int .i64 er]) ∧ Below w.heap.size w w' := by
 have Hc1 := Lib.hid c1
 have Hc3 := Lib.hid c3
 clear c1 c3
 go_enter Try.func16, Try.ntmps16
 go_wp2_with fail
 have BW := Lib.hid (Below.refl w.heap.size w)
 have Eo : w.heap.size ≤ w.heap.size + 1 + 1 + 1 := by have := BW.out.size; omega
 have Dro : w.heap.size ≠ w.heap.size + 1 + 1 + 1 := by omega
 have Dao : w.heap.size + 1 ≠ w.heap.size + 1 + 1 + 1 := by omega
 have Dbo : w.heap.size + 1 + 1 ≠ w.heap.size + 1 + 1 + 1 := by omega
 generalize hW1 : ((((w.alloc (.cells #[.int .u64 (wd P 0 : Nat), .int .u64 (wd P 1 : Nat), .int .u64 (wd P 2 : Nat), .int .u64 (wd P 3 : Nat), .int .u64 (wd Q 0 : Nat), .int .u64 (wd Q 1 : Nat), .int .u64 (wd Q 2 : Nat), .int .u64 (wd Q 3 : Nat), .int .u64 (wd G 0 : Nat), .int .u64 (wd G 1 : Nat), .int .u64 (wd G 2 : Nat), .int .u64 (wd G 3 : Nat), .int .u64 (wd H 0 : Nat), .int .u64 (wd H 1 : Nat), .int .u64 (wd H 2 : Nat), .int .u64 (wd H 3 : Nat)] 35)).alloc (.cells #[.int .u64 (wd A 0 : Nat), .int .u64 (wd A 1 : Nat), .int .u64 (wd A 2 : Nat), .int .u64 (wd A 3 : Nat)] 24)).alloc (.cells #[.int .u64 (wd B 0 : Nat), .int .u64 (wd B 1 : Nat), .int .u64 (wd B 2 : Nat), .int .u64 (wd B 3 : Nat)] 24)).alloc (.cells #[.int .u64 0, .int .u64 0, .int .u64 0, .int .u64 0] 24)) = W1 at *
 have Nr : At W1 (w.heap.size) _ _ := at_of hW1 ((((At.at_ _ _ _ _ (by simp)).alloc _).alloc _).alloc _)
 have Na : At W1 (w.heap.size + 1) _ _ := at_of hW1 (((At.at_ _ _ _ _ (by simp)).alloc _).alloc _)
 have Nb : At W1 (w.heap.size + 1 + 1) _ _ := at_of hW1 ((At.at_ _ _ _ _ (by simp)).alloc _)
 have No : At W1 (w.heap.size + 1 + 1 + 1) _ _ := at_of hW1 (At.at_ _ _ _ _ (by simp))
 have NB := gr_of hW1 (gr_alloc (gr_alloc (gr_alloc (gr_alloc BW.out _) _) _) _)
 clear hW1 BW 
 generalize w.heap.size + 1 + 1 + 1 = go at *
 generalize w.heap.size + 1 + 1 = gb at *
 generalize w.heap.size + 1 = ga at *
 obtain ⟨gr, hg0⟩ : ∃ g, g = w.heap.size := ⟨_, rfl⟩
 rw [← hg0] at Nr ⊢
 rw [← hg0] at Dro
 clear hg0
 have Fr := Lib.hid Nr
 have Fa := Lib.hid Na
 have Fb := Lib.hid Nb
 have Fo := Lib.hid No
 have BW := Lib.hid NB
 clear NB Nr Na Nb No
 refine (Hc1.out _).mono ?_
 rintro e v2 ⟨rfl, z2⟩
 have Nr := Lib.hid (Fr.out.on z2)
 have Na := Lib.hid (Fa.out.on z2)
 have Nb := Lib.hid (Fb.out.on z2)
 have No := Lib.hid (Fo.out.on z2)
 have NB := Lib.hid (bel_tr BW.out z2)
 clear BW z2 Fr Fa Fb Fo
 have Fr := Nr
 have Fa := Na
 have Fb := Nb
 have Fo := No
 have BW := NB
 clear NB Nr Na Nb No
 have La := Fa.out.lt
 have ca0 := Fa.out.c0
 have ca1 := Fa.out.c1
 have ca2 := Fa.out.c2
 have ca3 := Fa.out.c3
 have Lb := Fb.out.lt
 have cb0 := Fb.out.c0
 have cb1 := Fb.out.c1
 have cb2 := Fb.out.c2
 have cb3 := Fb.out.c3
 have Lr := Fr.out.lt
 have cr0 : v2.cell? ⟨gr, 0, none⟩ = some (.int .u64 (wd P 0 : Nat)) := Fr.out.cell 0
 have cr1 : v2.cell? ⟨gr, 1, none⟩ = some (.int .u64 (wd P 1 : Nat)) := Fr.out.cell 1
 have cr2 : v2.cell? ⟨gr, 2, none⟩ = some (.int .u64 (wd P 2 : Nat)) := Fr.out.cell 2
 have cr3 : v2.cell? ⟨gr, 3, none⟩ = some (.int .u64 (wd P 3 : Nat)) := Fr.out.cell 3
 have cr4 : v2.cell? ⟨gr, 4, none⟩ = some (.int .u64 (wd Q 0 : Nat)) := Fr.out.cell 4
 have cr5 : v2.cell? ⟨gr, 5, none⟩ = some (.int .u64 (wd Q 1 : Nat)) := Fr.out.cell 5
 have cr6 : v2.cell? ⟨gr, 6, none⟩ = some (.int .u64 (wd Q 2 : Nat)) := Fr.out.cell 6
 have cr7 : v2.cell? ⟨gr, 7, none⟩ = some (.int .u64 (wd Q 3 : Nat)) := Fr.out.cell 7
 have cr8 : v2.cell? ⟨gr, 8, none⟩ = some (.int .u64 (wd G 0 : Nat)) := Fr.out.cell 8
 have cr9 : v2.cell? ⟨gr, 9, none⟩ = some (.int .u64 (wd G 1 : Nat)) := Fr.out.cell 9
 have cr10 : v2.cell? ⟨gr, 10, none⟩ = some (.int .u64 (wd G 2 : Nat)) := Fr.out.cell 10
 have cr11 : v2.cell? ⟨gr, 11, none⟩ = some (.int .u64 (wd G 3 : Nat)) := Fr.out.cell 11
 have cr12 : v2.cell? ⟨gr, 12, none⟩ = some (.int .u64 (wd H 0 : Nat)) := Fr.out.cell 12
 have cr13 : v2.cell? ⟨gr, 13, none⟩ = some (.int .u64 (wd H 1 : Nat)) := Fr.out.cell 13
 have cr14 : v2.cell? ⟨gr, 14, none⟩ = some (.int .u64 (wd H 2 : Nat)) := Fr.out.cell 14
 have cr15 : v2.cell? ⟨gr, 15, none⟩ = some (.int .u64 (wd H 3 : Nat)) := Fr.out.cell 15
 go_wp2_with fail
 clear La ca0 ca1 ca2 ca3 Lb cb0 cb1 cb2 cb3 Lr cr0 cr1 cr2 cr3 cr4 cr5 cr6 cr7 cr8 cr9 cr10 cr11 cr12 cr13 cr14 cr15
 refine (Hc3.out _).mono ?_
 rintro e v3 ⟨rfl, z3⟩
 have Nr := Lib.hid (Fr.out.on z3)
 have Na := Lib.hid (Fa.out.on z3)
 have Nb := Lib.hid (Fb.out.on z3)
 have No := Lib.hid (Fo.out.on z3)
 have NB := Lib.hid (bel_tr BW.out z3)
 clear BW z3 Fr Fa Fb Fo
 have Fr := Nr
 have Fa := Na
 have Fb := Nb
 have Fo := No
 have BW := NB
 clear NB Nr Na Nb No
 have Lo := Fo.out.lt
 have co0 := Fo.out.c0
 have co1 := Fo.out.c1
 have co2 := Fo.out.c2
 have co3 := Fo.out.c3
 have fo0 : v3.frozen? ⟨go, 0, none⟩ = false := Fo.out.frozen 0
 have fo1 : v3.frozen? ⟨go, 1, none⟩ = false := Fo.out.frozen 1
 have fo2 : v3.frozen? ⟨go, 2, none⟩ = false := Fo.out.frozen 2
 have fo3 : v3.frozen? ⟨go, 3, none⟩ = false := Fo.out.frozen 3
 go_wp2_with fail
 clear Lo co0 co1 co2 co3 fo0 fo1 fo2 fo3
 generalize hW4 : ((((v3.setCell ⟨go, 0, none⟩ (.int .u64 (wd V 0 : Nat))).setCell ⟨go, 1, none⟩ (.int .u64 (wd V 1 : Nat))).setCell ⟨go, 2, none⟩ (.int .u64 (wd V 2 : Nat))).setCell ⟨go, 3, none⟩ (.int .u64 (wd V 3 : Nat))) = W4 at *
 have Nr := at_of hW4 ((Fr.out).far4 Dro _ _ _ _)
 have Na := at_of hW4 ((Fa.out).far4 Dao _ _ _ _)
 have Nb := at_of hW4 ((Fb.out).far4 Dbo _ _ _ _)
 have No := at_of hW4 ((Fo.out).put4 _ _ _ _)
 have NB := gr_of hW4 (((((BW.out).setCell Eo _).setCell Eo _).setCell Eo _).setCell Eo _)
 clear hW4 BW Fr Fa Fb Fo
 have Fr := Lib.hid Nr
 have Fa := Lib.hid Na
 have Fb := Lib.hid Nb
 have Fo := Lib.hid No
 have BW := Lib.hid NB
 clear NB Nr Na Nb No
 have Lo := Fo.out.lt
 have co0 := Fo.out.c0
 have co1 := Fo.out.c1
 have co2 := Fo.out.c2
 have co3 := Fo.out.c3
 refine bodyPost_ret (v := .tuple #[num V, .int .i64 er]) (by simp [results, Try.results16, go_sem, *]) rfl ⟨rfl, BW.out⟩

end Go.Proofs.Ytbggihkigblnfaa
