/-
 groups: mayMultiply, Mul, Inv, Exp, In; what they answer.
-/
import Derived.Deep.Cut
import Derived.Test.YtbggihkigblnfaaWRng
import Derived.Test.YtbggihkigblnfaaWTree
namespace Go.Proofs.Ytbggihkigblnfaa
set_option maxRecDepth 100000
open Go.RowKit
set_option linter.unusedSimpArgs false
set_option linter.unusedVariables false
attribute [local go_sem ↓] Go.wp_at_zero Go.wp_at_succ

theorem cmpN_lt0b {X Y : Nat} (h : X < Y) : cmpN X Y < 0 := by rw [cmpN_lt h]; decide
theorem cmpN_nlt0 {X Y : Nat} (h : ¬ X < Y) : ¬ cmpN X Y < 0 := by unfold cmpN; rw [if_neg h]; split <;> decide
/-- may a number be multiplied? -/
def mayB (P A : Nat) : Bool := decide (A ≠ 0) && decide (A < P)
theorem mayB_iff {P A : Nat} : mayB P A = true ↔ A ≠ 0 ∧ A < P := by simp [mayB]
set_option maxRecDepth 100000 in
set_option maxHeartbeats 8000000 in
theorem gmay_any (P Q G H A : Nat) (hP : P < 2 ^ 256) (hA : A < 2 ^ 256) (w : World) : Calls Try.prog 37 #[grp P Q G H, num A] w fun e w' => e = .returned (.bool (mayB P A)) ∧ Below w.heap.size w w' := by
 have eqz := eqZ A hA
 by_cases h0 : A = 0
 ·rw [decide_eq_true h0] at eqz
  rw [show mayB P A = false from by simp [mayB, h0]]
  clear h0 hP hA
  go_enter Try.func37, Try.ntmps37
  have BW := Lib.hid (Below.refl w.heap.size w)
  go_upto_region 1 with fail
  generalize hW1 : ((w.alloc (.cells #[.int .u64 (wd P 0 : Nat), .int .u64 (wd P 1 : Nat), .int .u64 (wd P 2 : Nat), .int .u64 (wd P 3 : Nat), .int .u64 (wd Q 0 : Nat), .int .u64 (wd Q 1 : Nat), .int .u64 (wd Q 2 : Nat), .int .u64 (wd Q 3 : Nat), .int .u64 (wd G 0 : Nat), .int .u64 (wd G 1 : Nat), .int .u64 (wd G 2 : Nat), .int .u64 (wd G 3 : Nat), .int .u64 (wd H 0 : Nat), .int .u64 (wd H 1 : Nat), .int .u64 (wd H 2 : Nat), .int .u64 (wd H 3 : Nat)] 35)).alloc (.cells #[.int .u64 (wd A 0 : Nat), .int .u64 (wd A 1 : Nat), .int .u64 (wd A 2 : Nat), .int .u64 (wd A 3 : Nat)] 24)) = W1 at *
  have Nr : At W1 (w.heap.size) _ _ := at_of hW1 ((At.at_ _ _ _ _ (by simp)).alloc _)
  have Na : At W1 (w.heap.size + 1) _ _ := at_of hW1 (At.at_ _ _ _ _ (by simp))
  have NB := gr_of hW1 (gr_alloc (gr_alloc BW.out _) _)
  clear hW1 BW 
  generalize w.heap.size + 1 = ga at *
  obtain ⟨gr, hg0⟩ : ∃ g, g = w.heap.size := ⟨_, rfl⟩
  rw [← hg0] at Nr ⊢
  clear hg0
  have Fr := Lib.hid Nr
  have Fa := Lib.hid Na
  have BW := Lib.hid NB
  clear NB Nr Na
  have Lr := Fr.out.lt
  have cr0 : W1.cell? ⟨gr, 0, none⟩ = some (.int .u64 (wd P 0 : Nat)) := Fr.out.cell 0
  have cr1 : W1.cell? ⟨gr, 1, none⟩ = some (.int .u64 (wd P 1 : Nat)) := Fr.out.cell 1
  have cr2 : W1.cell? ⟨gr, 2, none⟩ = some (.int .u64 (wd P 2 : Nat)) := Fr.out.cell 2
  have cr3 : W1.cell? ⟨gr, 3, none⟩ = some (.int .u64 (wd P 3 : Nat)) := Fr.out.cell 3
  have cr4 : W1.cell? ⟨gr, 4, none⟩ = some (.int .u64 (wd Q 0 : Nat)) := Fr.out.cell 4
  have cr5 : W1.cell? ⟨gr, 5, none⟩ = some (.int .u64 (wd Q 1 : Nat)) := Fr.out.cell 5
  have cr6 : W1.cell? ⟨gr, 6, none⟩ = some (.int .u64 (wd Q 2 : Nat)) := Fr.out.cell 6
  have cr7 : W1.cell? ⟨gr, 7, none⟩ = some (.int .u64 (wd Q 3 : Nat)) := Fr.out.cell 7
  have cr8 : W1.cell? ⟨gr, 8, none⟩ = some (.int .u64 (wd G 0 : Nat)) := Fr.out.cell 8
  have cr9 : W1.cell? ⟨gr, 9, none⟩ = some (.int .u64 (wd G 1 : Nat)) := Fr.out.cell 9
  have cr10 : W1.cell? ⟨gr, 10, none⟩ = some (.int .u64 (wd G 2 : Nat)) := Fr.out.cell 10
  have cr11 : W1.cell? ⟨gr, 11, none⟩ = some (.int .u64 (wd G 3 : Nat)) := Fr.out.cell 11
  have cr12 : W1.cell? ⟨gr, 12, none⟩ = some (.int .u64 (wd H 0 : Nat)) := Fr.out.cell 12
  have cr13 : W1.cell? ⟨gr, 13, none⟩ = some (.int .u64 (wd H 1 : Nat)) := Fr.out.cell 13
  have cr14 : W1.cell? ⟨gr, 14, none⟩ = some (.int .u64 (wd H 2 : Nat)) := Fr.out.cell 14
  have cr15 : W1.cell? ⟨gr, 15, none⟩ = some (.int .u64 (wd H 3 : Nat)) := Fr.out.cell 15
  have La := Fa.out.lt
  have ca0 := Fa.out.c0
  have ca1 := Fa.out.c1
  have ca2 := Fa.out.c2
  have ca3 := Fa.out.c3
  go_wp2
  go_ret
  exact ⟨rfl, BW.out⟩
 ·rw [decide_eq_false h0] at eqz
  have HC := Lib.hid (fun w => cmp_any A P hA hP w)
  have HK : mayB P A = decide (cmpN A P < 0) := by
   by_cases h : A < P
   ·simp [mayB, h0, h, cmpN_lt0b h]
   ·simp only [mayB, h, cmpN_nlt0 h, decide_false, Bool.and_false]
  rw [HK]
  clear h0 hP hA HK
  generalize cmpN A P = k at *
  obtain ⟨V, hV⟩ : ∃ V, V = decide (k < 0) := ⟨_, rfl⟩
  rw [← hV]
  have HV := Lib.hid hV
  clear hV
  go_enter Try.func37, Try.ntmps37
  have BW := Lib.hid (Below.refl w.heap.size w)
  go_upto_region 1 with fail
  generalize hW1 : ((w.alloc (.cells #[.int .u64 (wd P 0 : Nat), .int .u64 (wd P 1 : Nat), .int .u64 (wd P 2 : Nat), .int .u64 (wd P 3 : Nat), .int .u64 (wd Q 0 : Nat), .int .u64 (wd Q 1 : Nat), .int .u64 (wd Q 2 : Nat), .int .u64 (wd Q 3 : Nat), .int .u64 (wd G 0 : Nat), .int .u64 (wd G 1 : Nat), .int .u64 (wd G 2 : Nat), .int .u64 (wd G 3 : Nat), .int .u64 (wd H 0 : Nat), .int .u64 (wd H 1 : Nat), .int .u64 (wd H 2 : Nat), .int .u64 (wd H 3 : Nat)] 35)).alloc (.cells #[.int .u64 (wd A 0 : Nat), .int .u64 (wd A 1 : Nat), .int .u64 (wd A 2 : Nat), .int .u64 (wd A 3 : Nat)] 24)) = W1 at *
  have Nr : At W1 (w.heap.size) _ _ := at_of hW1 ((At.at_ _ _ _ _ (by simp)).alloc _)
  have Na : At W1 (w.heap.size + 1) _ _ := at_of hW1 (At.at_ _ _ _ _ (by simp))
  have NB := gr_of hW1 (gr_alloc (gr_alloc BW.out _) _)
  clear hW1 BW 
  generalize w.heap.size + 1 = ga at *
  obtain ⟨gr, hg0⟩ : ∃ g, g = w.heap.size := ⟨_, rfl⟩
  rw [← hg0] at Nr ⊢
  clear hg0
  have Fr := Lib.hid Nr
  have Fa := Lib.hid Na
  have BW := Lib.hid NB
  clear NB Nr Na
  have Lr := Fr.out.lt
  have cr0 : W1.cell? ⟨gr, 0, none⟩ = some (.int .u64 (wd P 0 : Nat)) := Fr.out.cell 0
  have cr1 : W1.cell? ⟨gr, 1, none⟩ = some (.int .u64 (wd P 1 : Nat)) := Fr.out.cell 1
  have cr2 : W1.cell? ⟨gr, 2, none⟩ = some (.int .u64 (wd P 2 : Nat)) := Fr.out.cell 2
  have cr3 : W1.cell? ⟨gr, 3, none⟩ = some (.int .u64 (wd P 3 : Nat)) := Fr.out.cell 3
  have cr4 : W1.cell? ⟨gr, 4, none⟩ = some (.int .u64 (wd Q 0 : Nat)) := Fr.out.cell 4
  have cr5 : W1.cell? ⟨gr, 5, none⟩ = some (.int .u64 (wd Q 1 : Nat)) := Fr.out.cell 5
  have cr6 : W1.cell? ⟨gr, 6, none⟩ = some (.int .u64 (wd Q 2 : Nat)) := Fr.out.cell 6
  have cr7 : W1.cell? ⟨gr, 7, none⟩ = some (.int .u64 (wd Q 3 : Nat)) := Fr.out.cell 7
  have cr8 : W1.cell? ⟨gr, 8, none⟩ = some (.int .u64 (wd G 0 : Nat)) := Fr.out.cell 8
  have cr9 : W1.cell? ⟨gr, 9, none⟩ = some (.int .u64 (wd G 1 : Nat)) := Fr.out.cell 9
  have cr10 : W1.cell? ⟨gr, 10, none⟩ = some (.int .u64 (wd G 2 : Nat)) := Fr.out.cell 10
  have cr11 : W1.cell? ⟨gr, 11, none⟩ = some (.int .u64 (wd G 3 : Nat)) := Fr.out.cell 11
  have cr12 : W1.cell? ⟨gr, 12, none⟩ = some (.int .u64 (wd H 0 : Nat)) := Fr.out.cell 12
  have cr13 : W1.cell? ⟨gr, 13, none⟩ = some (.int .u64 (wd H 1 : Nat)) := Fr.out.cell 13
  have cr14 : W1.cell? ⟨gr, 14, none⟩ = some (.int .u64 (wd H 2 : Nat)) := Fr.out.cell 14
  have cr15 : W1.cell? ⟨gr, 15, none⟩ = some (.int .u64 (wd H 3 : Nat)) := Fr.out.cell 15
  have La := Fa.out.lt
  have ca0 := Fa.out.c0
  have ca1 := Fa.out.c1
  have ca2 := Fa.out.c2
  have ca3 := Fa.out.c3
  go_wp2_with fail
  clear Lr cr0 cr1 cr2 cr3 cr4 cr5 cr6 cr7 cr8 cr9 cr10 cr11 cr12 cr13 cr14 cr15 La ca0 ca1 ca2 ca3
  clear eqz
  refine (HC.out _).mono ?_
  rintro e v2 ⟨rfl, z2⟩
  have Nr := Lib.hid (Fr.out.on z2)
  have Na := Lib.hid (Fa.out.on z2)
  have NB := Lib.hid (bel_tr BW.out z2)
  clear BW z2 Fr Fa
  have Fr := Nr
  have Fa := Na
  have BW := NB
  clear NB Nr Na
  by_cases hk : k < 0
  ·go_wp2
   go_ret
   exact ⟨by rw [HV.out, decide_eq_true hk]; rfl, BW.out⟩
  ·go_wp2
   go_ret
   exact ⟨by rw [HV.out, decide_eq_false (by omega)]; rfl, BW.out⟩

end Go.Proofs.Ytbggihkigblnfaa

/-
 groups: what is answered, walked.
-/
namespace Go.Proofs.Ytbggihkigblnfaa
set_option maxRecDepth 100000
open Go.RowKit
set_option linter.unusedSimpArgs false
set_option linter.unusedVariables false
attribute [local go_sem ↓] Go.wp_at_zero Go.wp_at_succ

set_option maxRecDepth 100000 in
set_option maxHeartbeats 8000000 in
theorem ginv_good (P Q G H A V : Nat) (er : Int)
  (c1 : ∀ w, Calls Try.prog 37 #[grp P Q G H, num A] w fun e w' => e = .returned (.bool true) ∧ Below w.heap.size w w')
  (c3 : ∀ w, Calls Try.prog 30 #[num A, num P] w fun e w' => e = .returned (.tuple #[num V, .int .i64 er]) ∧ Below w.heap.size w w')
  (w : World) : Calls Try.prog 15 #[grp P Q G H, num A] w fun e w' => e = .returned (.tuple #[num V, .int .i64 er]) ∧ Below w.heap.size w w' := by
 have Hc1 := Lib.hid c1
 have Hc3 := Lib.hid c3
 clear c1 c3
 go_enter Try.func15, Try.ntmps15
 go_wp2_with fail
 have BW := Lib.hid (Below.refl w.heap.size w)
 have Eo : w.heap.size ≤ w.heap.size + 1 + 1 := by have := BW.out.size; omega
 have Dro : w.heap.size ≠ w.heap.size + 1 + 1 := by omega
 have Dao : w.heap.size + 1 ≠ w.heap.size + 1 + 1 := by omega
 generalize hW1 : (((w.alloc (.cells #[.int .u64 (wd P 0 : Nat), .int .u64 (wd P 1 : Nat), .int .u64 (wd P 2 : Nat), .int .u64 (wd P 3 : Nat), .int .u64 (wd Q 0 : Nat), .int .u64 (wd Q 1 : Nat), .int .u64 (wd Q 2 : Nat), .int .u64 (wd Q 3 : Nat), .int .u64 (wd G 0 : Nat), .int .u64 (wd G 1 : Nat), .int .u64 (wd G 2 : Nat), .int .u64 (wd G 3 : Nat), .int .u64 (wd H 0 : Nat), .int .u64 (wd H 1 : Nat), .int .u64 (wd H 2 : Nat), .int .u64 (wd H 3 : Nat)] 35)).alloc (.cells #[.int .u64 (wd A 0 : Nat), .int .u64 (wd A 1 : Nat), .int .u64 (wd A 2 : Nat), .int .u64 (wd A 3 : Nat)] 24)).alloc (.cells #[.int .u64 0, .int .u64 0, .int .u64 0, .int .u64 0] 24)) = W1 at *
 have Nr : At W1 (w.heap.size) _ _ := at_of hW1 (((At.at_ _ _ _ _ (by simp)).alloc _).alloc _)
 have Na : At W1 (w.heap.size + 1) _ _ := at_of hW1 ((At.at_ _ _ _ _ (by simp)).alloc _)
 have No : At W1 (w.heap.size + 1 + 1) _ _ := at_of hW1 (At.at_ _ _ _ _ (by simp))
 have NB := gr_of hW1 (gr_alloc (gr_alloc (gr_alloc BW.out _) _) _)
 clear hW1 BW 
 generalize w.heap.size + 1 + 1 = go at *
 generalize w.heap.size + 1 = ga at *
 obtain ⟨gr, hg0⟩ : ∃ g, g = w.heap.size := ⟨_, rfl⟩
 rw [← hg0] at Nr ⊢
 rw [← hg0] at Dro
 clear hg0
 have Fr := Lib.hid Nr
 have Fa := Lib.hid Na
 have Fo := Lib.hid No
 have BW := Lib.hid NB
 clear NB Nr Na No
 refine (Hc1.out _).mono ?_
 rintro e v2 ⟨rfl, z2⟩
 have Nr := Lib.hid (Fr.out.on z2)
 have Na := Lib.hid (Fa.out.on z2)
 have No := Lib.hid (Fo.out.on z2)
 have NB := Lib.hid (bel_tr BW.out z2)
 clear BW z2 Fr Fa Fo
 have Fr := Nr
 have Fa := Na
 have Fo := No
 have BW := NB
 clear NB Nr Na No
 have La := Fa.out.lt
 have ca0 := Fa.out.c0
 have ca1 := Fa.out.c1
 have ca2 := Fa.out.c2
 have ca3 := Fa.out.c3
 have Lr := Fr.out.lt
 have cr0 : v2.cell? ⟨gr, 0, none⟩ = some (.int .u64 (wd P 0 : Nat)) := Fr.out.cell 0
 have cr1 : v2.cell? ⟨gr, 1, none⟩ = some (.int .u64 (wd P 1 : Nat)) := Fr.out.cell 1
 have cr2 : v2.cell? ⟨gr, 2, none⟩ = some (.int .u64 (wd P 2 : Nat)) := Fr.out.cell 2
 have cr3 : v2.cell? ⟨gr, 3, none⟩ = some (.int .u64 (wd P 3 : Nat)) := Fr.out.cell 3
 have cr4 : v2.cell? ⟨gr, 4, none⟩ = some (.int .u64 (wd Q 0 : Nat)) := Fr.out.cell 4
 have cr5 : v2.cell? ⟨gr, 5, none⟩ = some (.int .u64 (wd Q 1 : Nat)) := Fr.out.cell 5
 have cr6 : v2.cell? ⟨gr, 6, none⟩ = some (.int .u64 (wd Q 2 : Nat)) := Fr.out.cell 6
 have cr7 : v2.cell? ⟨gr, 7, none⟩ = some (.int .u64 (wd Q 3 : Nat)) := Fr.out.cell 7
 have cr8 : v2.cell? ⟨gr, 8, none⟩ = some (.int .u64 (wd G 0 : Nat)) := Fr.out.cell 8
 have cr9 : v2.cell? ⟨gr, 9, none⟩ = some (.int .u64 (wd G 1 : Nat)) := Fr.out.cell 9
 have cr10 : v2.cell? ⟨gr, 10, none⟩ = some (.int .u64 (wd G 2 : Nat)) := Fr.out.cell 10
 have cr11 : v2.cell? ⟨gr, 11, none⟩ = some (.int .u64 (wd G 3 : Nat)) := Fr.out.cell 11
 have cr12 : v2.cell? ⟨gr, 12, none⟩ = some (.int .u64 (wd H 0 : Nat)) := Fr.out.cell 12
 have cr13 : v2.cell? ⟨gr, 13, none⟩ = some (.int .u64 (wd H 1 : Nat)) := Fr.out.cell 13
 have cr14 : v2.cell? ⟨gr, 14, none⟩ = some (.int .u64 (wd H 2 : Nat)) := Fr.out.cell 14
 have cr15 : v2.cell? ⟨gr, 15, none⟩ = some (.int .u64 (wd H 3 : Nat)) := Fr.out.cell 15
 go_wp2_with fail
 clear La ca0 ca1 ca2 ca3 Lr cr0 cr1 cr2 cr3 cr4 cr5 cr6 cr7 cr8 cr9 cr10 cr11 cr12 cr13 cr14 cr15
 refine (Hc3.out _).mono ?_
 rintro e v3 ⟨rfl, z3⟩
 have Nr := Lib.hid (Fr.out.on z3)
 have Na := Lib.hid (Fa.out.on z3)
 have No := Lib.hid (Fo.out.on z3)
 have NB := Lib.hid (bel_tr BW.out z3)
 clear BW z3 Fr Fa Fo
 have Fr := Nr
 have Fa := Na
 have Fo := No
 have BW := NB
 clear NB Nr Na No
 have Lo := Fo.out.lt
 have co0 := Fo.out.c0
 have co1 := Fo.out.c1
 have co2 := Fo.out.c2
 have co3 := Fo.out.c3
 have fo0 : v3.frozen? ⟨go, 0, none⟩ = false := Fo.out.frozen 0
 have fo1 : v3.frozen? ⟨go, 1, none⟩ = false := Fo.out.frozen 1
 have fo2 : v3.frozen? ⟨go, 2, none⟩ = false := Fo.out.frozen 2
 have fo3 : v3.frozen? ⟨go, 3, none⟩ = false := Fo.out.frozen 3
 go_wp2_with fail
 clear Lo co0 co1 co2 co3 fo0 fo1 fo2 fo3
 generalize hW4 : ((((v3.setCell ⟨go, 0, none⟩ (.int .u64 (wd V 0 : Nat))).setCell ⟨go, 1, none⟩ (.int .u64 (wd V 1 : Nat))).setCell ⟨go, 2, none⟩ (.int .u64 (wd V 2 : Nat))).setCell ⟨go, 3, none⟩ (.int .u64 (wd V 3 : Nat))) = W4 at *
 have Nr := at_of hW4 ((Fr.out).far4 Dro _ _ _ _)
 have Na := at_of hW4 ((Fa.out).far4 Dao _ _ _ _)
 have No := at_of hW4 ((Fo.out).put4 _ _ _ _)
 have NB := gr_of hW4 (((((BW.out).setCell Eo _).setCell Eo _).setCell Eo _).setCell Eo _)
 clear hW4 BW Fr Fa Fo
 have Fr := Lib.hid Nr
 have Fa := Lib.hid Na
 have Fo := Lib.hid No
 have BW := Lib.hid NB
 clear NB Nr Na No
 have Lo := Fo.out.lt
 have co0 := Fo.out.c0
 have co1 := Fo.out.c1
 have co2 := Fo.out.c2
 have co3 := Fo.out.c3
 refine bodyPost_ret (v := .tuple #[num V, .int .i64 er]) (by simp [results, Try.results15, go_sem, *]) rfl ⟨rfl, BW.out⟩

end Go.Proofs.Ytbggihkigblnfaa
