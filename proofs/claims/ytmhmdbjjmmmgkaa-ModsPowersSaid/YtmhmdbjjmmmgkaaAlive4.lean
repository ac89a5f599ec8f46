/-
  balefirelaw04.of, is, Below, alive: the document's examples.
-/
import Derived.Test.YtmhmdbjjmmmgkaaMod11
import Derived.Test.YtmhmdbjjmmmgkaaEq
namespace Go.Proofs.Ytmhmdbjjmmmgkaa
open Go.RowKit
set_option linter.unusedSimpArgs false
set_option linter.unusedVariables false
attribute [local go_sem ↓] Go.wp_at_zero Go.wp_at_succ

theorem ofM_any (x : Nat) (hx : x < 18446744073709551616) (w : World) : Calls Try.prog 28 #[.int .u64 (x : Nat)] w fun e w' => e = .returned (num x) ∧ Below w.heap.size w w' := by
  have C := of_any x hx
  have HC := Lib.hid C
  clear C hx
  go_enter Try.func28, Try.ntmps28
  go_wp2_with fail
  have BW := Lib.hid (Below.refl w.heap.size w)
  have Nq : At (w.alloc (.cells #[.int .u64 0, .int .u64 0, .int .u64 0, .int .u64 0] 24)) (w.heap.size) 24 #[.int .u64 0, .int .u64 0, .int .u64 0, .int .u64 0] := At.at_ _ _ _ _ (by simp)
  have NB : Below w.heap.size w (w.alloc (.cells #[.int .u64 0, .int .u64 0, .int .u64 0, .int .u64 0] 24)) := gr_alloc BW.out _
  clear BW 
  generalize (w.alloc (.cells #[.int .u64 0, .int .u64 0, .int .u64 0, .int .u64 0] 24)) = W1 at *
  obtain ⟨gq, hg0⟩ : ∃ g, g = w.heap.size := ⟨_, rfl⟩
  rw [← hg0] at Nq ⊢
  have Eq : w.heap.size ≤ gq := by omega
  clear hg0
  have Fq := Lib.hid Nq
  have BW := Lib.hid NB
  clear NB Nq
  refine (HC.out _).mono ?_
  rintro e v2 ⟨rfl, z2⟩
  have Nq := Lib.hid (Fq.out.on z2)
  have NB := Lib.hid (bel_tr BW.out z2)
  clear BW z2 Fq
  have Fq := Nq
  have BW := NB
  clear NB Nq
  have Lq := Fq.out.lt
  have cq0 : v2.cell? ⟨gq, 0, none⟩ = some (.int .u64 0) := Fq.out.cell 0
  have cq1 : v2.cell? ⟨gq, 1, none⟩ = some (.int .u64 0) := Fq.out.cell 1
  have cq2 : v2.cell? ⟨gq, 2, none⟩ = some (.int .u64 0) := Fq.out.cell 2
  have cq3 : v2.cell? ⟨gq, 3, none⟩ = some (.int .u64 0) := Fq.out.cell 3
  have fq0 : v2.frozen? ⟨gq, 0, none⟩ = false := Fq.out.frozen 0
  have fq1 : v2.frozen? ⟨gq, 1, none⟩ = false := Fq.out.frozen 1
  have fq2 : v2.frozen? ⟨gq, 2, none⟩ = false := Fq.out.frozen 2
  have fq3 : v2.frozen? ⟨gq, 3, none⟩ = false := Fq.out.frozen 3
  go_wp2_with fail
  clear Lq cq0 cq1 cq2 cq3 fq0 fq1 fq2 fq3
  have Nq_0 : At ((((v2.setCell ⟨gq, 0, none⟩ (.int .u64 (wd x 0 : Nat))).setCell ⟨gq, 1, none⟩ (.int .u64 (wd x 1 : Nat))).setCell ⟨gq, 2, none⟩ (.int .u64 (wd x 2 : Nat))).setCell ⟨gq, 3, none⟩ (.int .u64 (wd x 3 : Nat))) gq 24 #[.int .u64 (wd x 0 : Nat), .int .u64 (wd x 1 : Nat), .int .u64 (wd x 2 : Nat), .int .u64 (wd x 3 : Nat)] := (Fq.out).put4 _ _ _ _
  have NB_0 : Below w.heap.size w ((((v2.setCell ⟨gq, 0, none⟩ (.int .u64 (wd x 0 : Nat))).setCell ⟨gq, 1, none⟩ (.int .u64 (wd x 1 : Nat))).setCell ⟨gq, 2, none⟩ (.int .u64 (wd x 2 : Nat))).setCell ⟨gq, 3, none⟩ (.int .u64 (wd x 3 : Nat))) := ((((BW.out).setCell Eq _).setCell Eq _).setCell Eq _).setCell Eq _
  have Nq := Nq_0
  have NB := NB_0
  clear BW Fq Nq_0 NB_0
  generalize ((((v2.setCell ⟨gq, 0, none⟩ (.int .u64 (wd x 0 : Nat))).setCell ⟨gq, 1, none⟩ (.int .u64 (wd x 1 : Nat))).setCell ⟨gq, 2, none⟩ (.int .u64 (wd x 2 : Nat))).setCell ⟨gq, 3, none⟩ (.int .u64 (wd x 3 : Nat))) = W3 at *
  have Fq := Lib.hid Nq
  have BW := Lib.hid NB
  clear NB Nq
  have Lq := Fq.out.lt
  have cq0 : W3.cell? ⟨gq, 0, none⟩ = some (.int .u64 (wd x 0 : Nat)) := Fq.out.cell 0
  have cq1 : W3.cell? ⟨gq, 1, none⟩ = some (.int .u64 (wd x 1 : Nat)) := Fq.out.cell 1
  have cq2 : W3.cell? ⟨gq, 2, none⟩ = some (.int .u64 (wd x 2 : Nat)) := Fq.out.cell 2
  have cq3 : W3.cell? ⟨gq, 3, none⟩ = some (.int .u64 (wd x 3 : Nat)) := Fq.out.cell 3
  refine bodyPost_ret (v := num x) (by simp [results, Try.results28, go_sem, *]) rfl ⟨rfl, BW.out⟩

set_option maxRecDepth 100000 in
set_option maxHeartbeats 8000000 in
theorem belowM (A M Q r : Nat)
    (c1 : ∀ w, Calls Try.prog 11 #[num A, num M] w fun e w' => e = .returned (.tuple #[num Q, num r, .int .i64 0]) ∧ Below w.heap.size w w')
    (w : World) : Calls Try.prog 30 #[num A, num M] w fun e w' => e = .returned (num r) ∧ Below w.heap.size w w' := by
  have Hc1 := Lib.hid c1
  clear c1
  go_enter Try.func30, Try.ntmps30
  go_wp2_with fail
  have BW := Lib.hid (Below.refl w.heap.size w)
  have Na : At (((w.alloc (.cells #[.int .u64 (wd A 0 : Nat), .int .u64 (wd A 1 : Nat), .int .u64 (wd A 2 : Nat), .int .u64 (wd A 3 : Nat)] 24)).alloc (.cells #[.int .u64 (wd M 0 : Nat), .int .u64 (wd M 1 : Nat), .int .u64 (wd M 2 : Nat), .int .u64 (wd M 3 : Nat)] 24)).alloc (.cells #[.int .u64 0, .int .u64 0, .int .u64 0, .int .u64 0] 24)) (w.heap.size) 24 #[.int .u64 (wd A 0 : Nat), .int .u64 (wd A 1 : Nat), .int .u64 (wd A 2 : Nat), .int .u64 (wd A 3 : Nat)] := ((At.at_ _ _ _ _ (by simp)).alloc _).alloc _
  have Nm : At (((w.alloc (.cells #[.int .u64 (wd A 0 : Nat), .int .u64 (wd A 1 : Nat), .int .u64 (wd A 2 : Nat), .int .u64 (wd A 3 : Nat)] 24)).alloc (.cells #[.int .u64 (wd M 0 : Nat), .int .u64 (wd M 1 : Nat), .int .u64 (wd M 2 : Nat), .int .u64 (wd M 3 : Nat)] 24)).alloc (.cells #[.int .u64 0, .int .u64 0, .int .u64 0, .int .u64 0] 24)) (w.heap.size + 1) 24 #[.int .u64 (wd M 0 : Nat), .int .u64 (wd M 1 : Nat), .int .u64 (wd M 2 : Nat), .int .u64 (wd M 3 : Nat)] := (At.at_ _ _ _ _ (by simp)).alloc _
  have No : At (((w.alloc (.cells #[.int .u64 (wd A 0 : Nat), .int .u64 (wd A 1 : Nat), .int .u64 (wd A 2 : Nat), .int .u64 (wd A 3 : Nat)] 24)).alloc (.cells #[.int .u64 (wd M 0 : Nat), .int .u64 (wd M 1 : Nat), .int .u64 (wd M 2 : Nat), .int .u64 (wd M 3 : Nat)] 24)).alloc (.cells #[.int .u64 0, .int .u64 0, .int .u64 0, .int .u64 0] 24)) (w.heap.size + 1 + 1) 24 #[.int .u64 0, .int .u64 0, .int .u64 0, .int .u64 0] := At.at_ _ _ _ _ (by simp)
  have Eo : w.heap.size ≤ w.heap.size + 1 + 1 := by have := BW.out.size; omega
  have Dao : w.heap.size ≠ w.heap.size + 1 + 1 := by omega
  have Dmo : w.heap.size + 1 ≠ w.heap.size + 1 + 1 := by omega
  have NB : Below w.heap.size w (((w.alloc (.cells #[.int .u64 (wd A 0 : Nat), .int .u64 (wd A 1 : Nat), .int .u64 (wd A 2 : Nat), .int .u64 (wd A 3 : Nat)] 24)).alloc (.cells #[.int .u64 (wd M 0 : Nat), .int .u64 (wd M 1 : Nat), .int .u64 (wd M 2 : Nat), .int .u64 (wd M 3 : Nat)] 24)).alloc (.cells #[.int .u64 0, .int .u64 0, .int .u64 0, .int .u64 0] 24)) := gr_alloc (gr_alloc (gr_alloc BW.out _) _) _
  clear BW 
  generalize (((w.alloc (.cells #[.int .u64 (wd A 0 : Nat), .int .u64 (wd A 1 : Nat), .int .u64 (wd A 2 : Nat), .int .u64 (wd A 3 : Nat)] 24)).alloc (.cells #[.int .u64 (wd M 0 : Nat), .int .u64 (wd M 1 : Nat), .int .u64 (wd M 2 : Nat), .int .u64 (wd M 3 : Nat)] 24)).alloc (.cells #[.int .u64 0, .int .u64 0, .int .u64 0, .int .u64 0] 24)) = W1 at *
  generalize w.heap.size + 1 + 1 = go at *
  generalize w.heap.size + 1 = gm at *
  obtain ⟨ga, hg0⟩ : ∃ g, g = w.heap.size := ⟨_, rfl⟩
  rw [← hg0] at Na ⊢
  rw [← hg0] at Dao
  clear hg0
  have Fa := Lib.hid Na
  have Fm := Lib.hid Nm
  have Fo := Lib.hid No
  have BW := Lib.hid NB
  clear NB Na Nm No
  refine (Hc1.out _).mono ?_
  rintro e v2 ⟨rfl, z2⟩
  have Na := Lib.hid (Fa.out.on z2)
  have Nm := Lib.hid (Fm.out.on z2)
  have No := Lib.hid (Fo.out.on z2)
  have NB := Lib.hid (bel_tr BW.out z2)
  clear BW z2 Fa Fm Fo
  have Fa := Na
  have Fm := Nm
  have Fo := No
  have BW := NB
  clear NB Na Nm No
  have Lo := Fo.out.lt
  have co0 : v2.cell? ⟨go, 0, none⟩ = some (.int .u64 0) := Fo.out.cell 0
  have co1 : v2.cell? ⟨go, 1, none⟩ = some (.int .u64 0) := Fo.out.cell 1
  have co2 : v2.cell? ⟨go, 2, none⟩ = some (.int .u64 0) := Fo.out.cell 2
  have co3 : v2.cell? ⟨go, 3, none⟩ = some (.int .u64 0) := Fo.out.cell 3
  have fo0 : v2.frozen? ⟨go, 0, none⟩ = false := Fo.out.frozen 0
  have fo1 : v2.frozen? ⟨go, 1, none⟩ = false := Fo.out.frozen 1
  have fo2 : v2.frozen? ⟨go, 2, none⟩ = false := Fo.out.frozen 2
  have fo3 : v2.frozen? ⟨go, 3, none⟩ = false := Fo.out.frozen 3
  go_wp2_with fail
  clear Lo co0 co1 co2 co3 fo0 fo1 fo2 fo3
  have Na_0 : At ((((v2.setCell ⟨go, 0, none⟩ (.int .u64 (wd r 0 : Nat))).setCell ⟨go, 1, none⟩ (.int .u64 (wd r 1 : Nat))).setCell ⟨go, 2, none⟩ (.int .u64 (wd r 2 : Nat))).setCell ⟨go, 3, none⟩ (.int .u64 (wd r 3 : Nat))) ga 24 #[.int .u64 (wd A 0 : Nat), .int .u64 (wd A 1 : Nat), .int .u64 (wd A 2 : Nat), .int .u64 (wd A 3 : Nat)] := (Fa.out).far4 Dao _ _ _ _
  have Nm_0 : At ((((v2.setCell ⟨go, 0, none⟩ (.int .u64 (wd r 0 : Nat))).setCell ⟨go, 1, none⟩ (.int .u64 (wd r 1 : Nat))).setCell ⟨go, 2, none⟩ (.int .u64 (wd r 2 : Nat))).setCell ⟨go, 3, none⟩ (.int .u64 (wd r 3 : Nat))) gm 24 #[.int .u64 (wd M 0 : Nat), .int .u64 (wd M 1 : Nat), .int .u64 (wd M 2 : Nat), .int .u64 (wd M 3 : Nat)] := (Fm.out).far4 Dmo _ _ _ _
  have No_0 : At ((((v2.setCell ⟨go, 0, none⟩ (.int .u64 (wd r 0 : Nat))).setCell ⟨go, 1, none⟩ (.int .u64 (wd r 1 : Nat))).setCell ⟨go, 2, none⟩ (.int .u64 (wd r 2 : Nat))).setCell ⟨go, 3, none⟩ (.int .u64 (wd r 3 : Nat))) go 24 #[.int .u64 (wd r 0 : Nat), .int .u64 (wd r 1 : Nat), .int .u64 (wd r 2 : Nat), .int .u64 (wd r 3 : Nat)] := (Fo.out).put4 _ _ _ _
  have NB_0 : Below w.heap.size w ((((v2.setCell ⟨go, 0, none⟩ (.int .u64 (wd r 0 : Nat))).setCell ⟨go, 1, none⟩ (.int .u64 (wd r 1 : Nat))).setCell ⟨go, 2, none⟩ (.int .u64 (wd r 2 : Nat))).setCell ⟨go, 3, none⟩ (.int .u64 (wd r 3 : Nat))) := ((((BW.out).setCell Eo _).setCell Eo _).setCell Eo _).setCell Eo _
  have Na := Na_0
  have Nm := Nm_0
  have No := No_0
  have NB := NB_0
  clear BW Fa Fm Fo Na_0 Nm_0 No_0 NB_0
  generalize ((((v2.setCell ⟨go, 0, none⟩ (.int .u64 (wd r 0 : Nat))).setCell ⟨go, 1, none⟩ (.int .u64 (wd r 1 : Nat))).setCell ⟨go, 2, none⟩ (.int .u64 (wd r 2 : Nat))).setCell ⟨go, 3, none⟩ (.int .u64 (wd r 3 : Nat))) = W3 at *
  have Fa := Lib.hid Na
  have Fm := Lib.hid Nm
  have Fo := Lib.hid No
  have BW := Lib.hid NB
  clear NB Na Nm No
  have Nq : At ((W3.alloc (.cells #[.int .u64 (wd Q 0 : Nat), .int .u64 (wd Q 1 : Nat), .int .u64 (wd Q 2 : Nat), .int .u64 (wd Q 3 : Nat)] 24)).alloc (.cells #[.int .u64 (wd r 0 : Nat), .int .u64 (wd r 1 : Nat), .int .u64 (wd r 2 : Nat), .int .u64 (wd r 3 : Nat)] 24)) (W3.heap.size) 24 #[.int .u64 (wd Q 0 : Nat), .int .u64 (wd Q 1 : Nat), .int .u64 (wd Q 2 : Nat), .int .u64 (wd Q 3 : Nat)] := (At.at_ _ _ _ _ (by simp)).alloc _
  have Doq : go ≠ W3.heap.size := by have := Fo.out.lt; omega
  have Nr : At ((W3.alloc (.cells #[.int .u64 (wd Q 0 : Nat), .int .u64 (wd Q 1 : Nat), .int .u64 (wd Q 2 : Nat), .int .u64 (wd Q 3 : Nat)] 24)).alloc (.cells #[.int .u64 (wd r 0 : Nat), .int .u64 (wd r 1 : Nat), .int .u64 (wd r 2 : Nat), .int .u64 (wd r 3 : Nat)] 24)) (W3.heap.size + 1) 24 #[.int .u64 (wd r 0 : Nat), .int .u64 (wd r 1 : Nat), .int .u64 (wd r 2 : Nat), .int .u64 (wd r 3 : Nat)] := At.at_ _ _ _ _ (by simp)
  have Dor : go ≠ W3.heap.size + 1 := by have := Fo.out.lt; omega
  have Na : At ((W3.alloc (.cells #[.int .u64 (wd Q 0 : Nat), .int .u64 (wd Q 1 : Nat), .int .u64 (wd Q 2 : Nat), .int .u64 (wd Q 3 : Nat)] 24)).alloc (.cells #[.int .u64 (wd r 0 : Nat), .int .u64 (wd r 1 : Nat), .int .u64 (wd r 2 : Nat), .int .u64 (wd r 3 : Nat)] 24)) ga 24 #[.int .u64 (wd A 0 : Nat), .int .u64 (wd A 1 : Nat), .int .u64 (wd A 2 : Nat), .int .u64 (wd A 3 : Nat)] := (Fa.out.alloc _).alloc _
  have Nm : At ((W3.alloc (.cells #[.int .u64 (wd Q 0 : Nat), .int .u64 (wd Q 1 : Nat), .int .u64 (wd Q 2 : Nat), .int .u64 (wd Q 3 : Nat)] 24)).alloc (.cells #[.int .u64 (wd r 0 : Nat), .int .u64 (wd r 1 : Nat), .int .u64 (wd r 2 : Nat), .int .u64 (wd r 3 : Nat)] 24)) gm 24 #[.int .u64 (wd M 0 : Nat), .int .u64 (wd M 1 : Nat), .int .u64 (wd M 2 : Nat), .int .u64 (wd M 3 : Nat)] := (Fm.out.alloc _).alloc _
  have No : At ((W3.alloc (.cells #[.int .u64 (wd Q 0 : Nat), .int .u64 (wd Q 1 : Nat), .int .u64 (wd Q 2 : Nat), .int .u64 (wd Q 3 : Nat)] 24)).alloc (.cells #[.int .u64 (wd r 0 : Nat), .int .u64 (wd r 1 : Nat), .int .u64 (wd r 2 : Nat), .int .u64 (wd r 3 : Nat)] 24)) go 24 #[.int .u64 (wd r 0 : Nat), .int .u64 (wd r 1 : Nat), .int .u64 (wd r 2 : Nat), .int .u64 (wd r 3 : Nat)] := (Fo.out.alloc _).alloc _
  have NB : Below w.heap.size w ((W3.alloc (.cells #[.int .u64 (wd Q 0 : Nat), .int .u64 (wd Q 1 : Nat), .int .u64 (wd Q 2 : Nat), .int .u64 (wd Q 3 : Nat)] 24)).alloc (.cells #[.int .u64 (wd r 0 : Nat), .int .u64 (wd r 1 : Nat), .int .u64 (wd r 2 : Nat), .int .u64 (wd r 3 : Nat)] 24)) := gr_alloc (gr_alloc BW.out _) _
  clear BW Fa Fm Fo
  generalize ((W3.alloc (.cells #[.int .u64 (wd Q 0 : Nat), .int .u64 (wd Q 1 : Nat), .int .u64 (wd Q 2 : Nat), .int .u64 (wd Q 3 : Nat)] 24)).alloc (.cells #[.int .u64 (wd r 0 : Nat), .int .u64 (wd r 1 : Nat), .int .u64 (wd r 2 : Nat), .int .u64 (wd r 3 : Nat)] 24)) = W4 at *
  generalize W3.heap.size + 1 = gr at *
  generalize W3.heap.size = gq at *
  have Fa := Lib.hid Na
  have Fm := Lib.hid Nm
  have Fo := Lib.hid No
  have Fq := Lib.hid Nq
  have Fr := Lib.hid Nr
  have BW := Lib.hid NB
  clear NB Na Nm No Nq Nr
  have Lo := Fo.out.lt
  have co0 : W4.cell? ⟨go, 0, none⟩ = some (.int .u64 (wd r 0 : Nat)) := Fo.out.cell 0
  have co1 : W4.cell? ⟨go, 1, none⟩ = some (.int .u64 (wd r 1 : Nat)) := Fo.out.cell 1
  have co2 : W4.cell? ⟨go, 2, none⟩ = some (.int .u64 (wd r 2 : Nat)) := Fo.out.cell 2
  have co3 : W4.cell? ⟨go, 3, none⟩ = some (.int .u64 (wd r 3 : Nat)) := Fo.out.cell 3
  refine bodyPost_ret (v := num r) (by simp [results, Try.results30, go_sem, *]) rfl ⟨rfl, BW.out⟩

theorem belowM_any (A M : Nat) (hA : A < 2 ^ 256) (hM : M < 2 ^ 256) (h0 : M ≠ 0) : ∀ w, Calls Try.prog 30 #[num A, num M] w fun e w' => e = .returned (num (A % M)) ∧ Below w.heap.size w w' := by
  obtain ⟨Q, r, hQ, hr, he, C⟩ := div_ex A M hA hM h0
  have : A % M = r := by rw [he, Nat.mul_comm, Nat.mul_add_mod, Nat.mod_eq_of_lt hr]
  rw [this]
  exact fun w => belowM A M Q r C w

set_option maxRecDepth 100000 in
set_option maxHeartbeats 8000000 in
theorem isM (X : Nat) (k : Int) (c1 : ∀ w, Calls Try.prog 28 #[.int .u64 k] w fun e w' => e = .returned (num X) ∧ Below w.heap.size w w') (w : World) : Calls Try.prog 55 #[num X, .int .i64 0, .int .u64 k] w fun e w' => e = .returned (.bool true) ∧ Below w.heap.size w w' := by
  have Hc1 := Lib.hid c1
  clear c1
  go_enter Try.func55, Try.ntmps55
  go_wp2_with fail
  have BW := Lib.hid (Below.refl w.heap.size w)
  have Na : At (w.alloc (.cells #[.int .u64 (wd X 0 : Nat), .int .u64 (wd X 1 : Nat), .int .u64 (wd X 2 : Nat), .int .u64 (wd X 3 : Nat)] 24)) (w.heap.size) 24 #[.int .u64 (wd X 0 : Nat), .int .u64 (wd X 1 : Nat), .int .u64 (wd X 2 : Nat), .int .u64 (wd X 3 : Nat)] := At.at_ _ _ _ _ (by simp)
  have NB : Below w.heap.size w (w.alloc (.cells #[.int .u64 (wd X 0 : Nat), .int .u64 (wd X 1 : Nat), .int .u64 (wd X 2 : Nat), .int .u64 (wd X 3 : Nat)] 24)) := gr_alloc BW.out _
  clear BW 
  generalize (w.alloc (.cells #[.int .u64 (wd X 0 : Nat), .int .u64 (wd X 1 : Nat), .int .u64 (wd X 2 : Nat), .int .u64 (wd X 3 : Nat)] 24)) = W1 at *
  obtain ⟨ga, hg0⟩ : ∃ g, g = w.heap.size := ⟨_, rfl⟩
  rw [← hg0] at Na ⊢
  clear hg0
  have Fa := Lib.hid Na
  have BW := Lib.hid NB
  clear NB Na
  have qq := eqY X
  try simp only [List.append_eq, List.cons_append, List.nil_append]
  refine wp_region_noPanic ?_
  refine wp_region_held_drew (S := fun w' => At w' ga 24 #[.int .u64 (wd X 0 : Nat), .int .u64 (wd X 1 : Nat), .int .u64 (wd X 2 : Nat), .int .u64 (wd X 3 : Nat)]) (by kernel_rfl) (Fa.out.drew) (fun _ => ?_)
  refine wpAnyH_cores (fuel := 1) (⟨0, 7, [], Kind.val (.int .i64 0), true⟩ :: ⟨1, 8, [0], Kind.val (.bool true), true⟩ :: ⟨2, 9, [1], Kind.val (.bool true), true⟩ :: ⟨3, 10, [2], Kind.val (.agg #[.int .u64 (wd X 0 : Nat), .int .u64 (wd X 1 : Nat), .int .u64 (wd X 2 : Nat), .int .u64 (wd X 3 : Nat)]), true⟩ :: ⟨4, 11, [2, 3], Kind.val (.int .u64 k), true⟩ :: ⟨5, 12, [2, 4], Kind.val (.agg #[.int .u64 (wd X 0 : Nat), .int .u64 (wd X 1 : Nat), .int .u64 (wd X 2 : Nat), .int .u64 (wd X 3 : Nat)]), false⟩ :: ⟨6, 13, [2, 3, 5], Kind.val (.bool true), true⟩ :: ⟨7, 14, [2, 6], Kind.val (.bool true), true⟩ :: []) _ _ W1 _ ?_ ?_ ?_ ?_ ?_ ?_ ?_ ?_ ?_ ?_ ?_
  · rfl
  · kernel_rfl
  · exact of_decide_eq_true (by kernel_rfl)
  · exact all_cons ⟨_, by rfl, by rfl⟩ (all_cons ⟨_, by rfl, by rfl⟩ (all_cons ⟨_, by rfl, by rfl⟩ (all_cons ⟨_, by rfl, by rfl⟩ (all_cons ⟨_, by rfl, by rfl⟩ (all_cons ⟨_, by rfl, by rfl⟩ (all_cons ⟨_, by rfl, by rfl⟩ (all_cons ⟨_, by rfl, by rfl⟩ (all_nil))))))))
  · exact fun _ hb => Fa.out.on hb
  · exact (Below.refl _ _).drew
  · kernel_rfl
  · exact fun _ _ _ _ _ h => h
  · refine all_cons ?_ (all_cons ?_ (all_cons ?_ (all_cons ?_ (all_cons ?_ (all_cons ?_ (all_cons ?_ (all_cons ?_ (all_nil))))))))
    · exact coreG_move _ _ _ _ _ _ _ (by rfl) (by rfl) (wants_none) (known_old 1 _ (of_decide_eq_true (by rfl)) (by rfl))
    · exact coreG_bin _ _ _ _ _ _ _ _ _ _ _ _ _ (by rfl) (by rfl) (wants_none) (known_core 0 7 _ _ (of_decide_eq_true (by rfl)) (by rfl) (by rfl) (by rfl)) (known_const _) ((fun ρ w hx hy => by simp only [execOp, hx, hy]; simp [go_sem]))
    · exact coreG_move _ _ _ _ _ _ _ (by rfl) (by rfl) (wants_none) (known_core 1 8 _ _ (of_decide_eq_true (by rfl)) (by rfl) (by rfl) (by rfl))
    · exact coreG_loadP _ _ _ _ _ _ ga _ _ _ _ (by rfl) (by rfl) (wants_core 2 9 2 _ _ _ (by rfl) (by rfl) (by rfl) (known_core 2 9 _ _ (of_decide_eq_true (by rfl)) (by rfl) (by rfl) (by rfl)) _ (by rfl)) (known_old 3 _ (of_decide_eq_true (by rfl)) (by rfl)) (fun _ hs => hs)
    · exact coreG_move _ _ _ _ _ _ _ (by rfl) (by rfl) (wants_core 2 9 2 _ _ _ (by rfl) (by rfl) (by rfl) (known_core 2 9 _ _ (of_decide_eq_true (by rfl)) (by rfl) (by rfl) (by rfl)) _ (by rfl)) (known_old 2 _ (of_decide_eq_true (by rfl)) (by rfl))
    · exact core_pureAs _ (by rfl)
    · exact coreG_bin _ _ _ _ _ _ _ _ _ _ _ _ _ (by rfl) (by rfl) (wants_core 2 9 2 _ _ _ (by rfl) (by rfl) (by rfl) (known_core 2 9 _ _ (of_decide_eq_true (by rfl)) (by rfl) (by rfl) (by rfl)) _ (by rfl)) (known_core 3 10 _ _ (of_decide_eq_true (by rfl)) (by rfl) (by rfl) (by rfl)) (known_core 5 12 _ _ (of_decide_eq_true (by rfl)) (by rfl) (by rfl) (by rfl)) (eql_run true _ _ _ _ _ _ _ _ _ _ _ _ _ _ _ (eqY X))
    · exact coreG_pick _ _ _ _ _ _ _ _ _ _ _ _ (by rfl) (by rfl) (wants_none) (known_core 2 9 _ _ (of_decide_eq_true (by rfl)) (by rfl) (by rfl) (by rfl)) (known_core 6 13 _ _ (of_decide_eq_true (by rfl)) (by rfl) (by rfl) (by rfl)) (known_const _) (by rfl)
  · refine all_cons ?_ (all_cons ?_ (all_cons ?_ (all_cons ?_ (all_cons ?_ (all_cons ?_ (all_cons ?_ (all_cons ?_ (all_nil))))))))
    · exact core_stepAs _ (by rfl)
    · exact core_stepAs _ (by rfl)
    · exact core_stepAs _ (by rfl)
    · exact core_stepAs _ (by rfl)
    · exact core_stepAs _ (by rfl)
    · exact fun _ => coreG_call _ 28 _ _ [.tmp 11] _ _ _ _ _ _ _ (by rfl) Try.func28 (by kernel_rfl) (by rfl) (by rfl) (wants_core 2 9 2 _ _ _ (by rfl) (by rfl) (by rfl) (known_core 2 9 _ _ (of_decide_eq_true (by rfl)) (by rfl) (by rfl) (by rfl)) _ (by rfl)) (.cons (known_core 4 11 _ _ (of_decide_eq_true (by rfl)) (by rfl) (by rfl) (by rfl)) .nil) (Hc1.out)
    · exact core_stepAs _ (by rfl)
    · exact core_stepAs _ (by rfl)
  intro vs y2 hc
  have BZ := bel_tr BW.out hc.bel
  refine assign_one (i := 8) (.tmp 14) 6 _ _ _ (.bool true) (by kernel_rfl) (by rfl) (hc.at_ (of_decide_eq_true (by kernel_rfl)) (by rfl) 7 14 _ (.bool true) (by rfl) (by rfl) (by rfl)) (Fa.out.on hc.bel) ?_
  refine wpAnyH_done (by kernel_rfl) ?_ _
  refine NoPanic.normal ?_
  generalize hA : Act.put (over _ _ vs) (some 6) (.bool true) = A
  have hA0 : A.tmps.getD 6 undef = .bool true := by rw [← hA]; exact put_at _ _ _ (by rw [over_size]; exact Nat.le_of_ble_eq_true rfl)
  have hAd : A.defers = [] := by rw [← hA, put_defers, over_defers]
  clear hA hc
  go_wp2_with fail
  refine bodyPost_ret (v := .bool true) (by simp [results, Try.results55, go_sem] at hA0 ⊢; simp [hA0]) hAd ⟨rfl, BZ⟩

set_option maxRecDepth 100000 in
set_option maxHeartbeats 8000000 in
theorem alive4_walk (n0 n1 n2 n3 n4 n5 n6 n7 n9 : Nat)
    (On0 : ∀ w, Calls Try.prog 28 #[.int .u64 0] w fun e w' => e = .returned (num n0) ∧ Below w.heap.size w w')
    (On1 : ∀ w, Calls Try.prog 28 #[.int .u64 1] w fun e w' => e = .returned (num n1) ∧ Below w.heap.size w w')
    (On2 : ∀ w, Calls Try.prog 28 #[.int .u64 2] w fun e w' => e = .returned (num n2) ∧ Below w.heap.size w w')
    (On3 : ∀ w, Calls Try.prog 28 #[.int .u64 3] w fun e w' => e = .returned (num n3) ∧ Below w.heap.size w w')
    (On4 : ∀ w, Calls Try.prog 28 #[.int .u64 4] w fun e w' => e = .returned (num n4) ∧ Below w.heap.size w w')
    (On5 : ∀ w, Calls Try.prog 28 #[.int .u64 5] w fun e w' => e = .returned (num n5) ∧ Below w.heap.size w w')
    (On6 : ∀ w, Calls Try.prog 28 #[.int .u64 6] w fun e w' => e = .returned (num n6) ∧ Below w.heap.size w w')
    (On7 : ∀ w, Calls Try.prog 28 #[.int .u64 7] w fun e w' => e = .returned (num n7) ∧ Below w.heap.size w w')
    (On9 : ∀ w, Calls Try.prog 28 #[.int .u64 9] w fun e w' => e = .returned (num n9) ∧ Below w.heap.size w w')
    (E0 : ∀ w, Calls Try.prog 17 #[num n5, num n6, num n7] w fun e w' => e = .returned (.tuple #[num n4, .int .i64 0]) ∧ Below w.heap.size w w')
    (E1 : ∀ w, Calls Try.prog 18 #[num n2, num n6, num n7] w fun e w' => e = .returned (.tuple #[num n3, .int .i64 0]) ∧ Below w.heap.size w w')
    (E2 : ∀ w, Calls Try.prog 19 #[num n5, num n6, num n7] w fun e w' => e = .returned (.tuple #[num n2, .int .i64 0]) ∧ Below w.heap.size w w')
    (E3 : ∀ w, Calls Try.prog 20 #[num n3, num n6, num n7] w fun e w' => e = .returned (.tuple #[num n1, .int .i64 0]) ∧ Below w.heap.size w w')
    (E4 : ∀ w, Calls Try.prog 21 #[num n3, num n7] w fun e w' => e = .returned (.tuple #[num n5, .int .i64 0]) ∧ Below w.heap.size w w')
    (E5 : ∀ w, Calls Try.prog 17 #[num n7, num n0, num n7] w fun e w' => e = .returned (.tuple #[num n0, .int .i64 1]) ∧ Below w.heap.size w w')
    (E6 : ∀ w, Calls Try.prog 19 #[num n0, num n0, num n1] w fun e w' => e = .returned (.tuple #[num n0, .int .i64 1]) ∧ Below w.heap.size w w')
    (E7 : ∀ w, Calls Try.prog 21 #[num n2, num n4] w fun e w' => e = .returned (.tuple #[num n0, .int .i64 7]) ∧ Below w.heap.size w w')
    (E8 : ∀ w, Calls Try.prog 21 #[num n0, num n5] w fun e w' => e = .returned (.tuple #[num n0, .int .i64 7]) ∧ Below w.heap.size w w')
    (E9 : ∀ w, Calls Try.prog 20 #[num n0, num n0, num n9] w fun e w' => e = .returned (.tuple #[num n1, .int .i64 0]) ∧ Below w.heap.size w w')
    (I4 : ∀ w, Calls Try.prog 55 #[num n4, .int .i64 0, .int .u64 4] w fun e w' => e = .returned (.bool true) ∧ Below w.heap.size w w')
    (I3 : ∀ w, Calls Try.prog 55 #[num n3, .int .i64 0, .int .u64 3] w fun e w' => e = .returned (.bool true) ∧ Below w.heap.size w w')
    (I2 : ∀ w, Calls Try.prog 55 #[num n2, .int .i64 0, .int .u64 2] w fun e w' => e = .returned (.bool true) ∧ Below w.heap.size w w')
    (I1 : ∀ w, Calls Try.prog 55 #[num n1, .int .i64 0, .int .u64 1] w fun e w' => e = .returned (.bool true) ∧ Below w.heap.size w w')
    (I5 : ∀ w, Calls Try.prog 55 #[num n5, .int .i64 0, .int .u64 5] w fun e w' => e = .returned (.bool true) ∧ Below w.heap.size w w')
    (w : World) : Calls Try.prog 29 #[] w fun e w' => e = .returned (.bool true) ∧ Below w.heap.size w w' := by
  have HOn0 := Lib.hid On0
  have HOn1 := Lib.hid On1
  have HOn2 := Lib.hid On2
  have HOn3 := Lib.hid On3
  have HOn4 := Lib.hid On4
  have HOn5 := Lib.hid On5
  have HOn6 := Lib.hid On6
  have HOn7 := Lib.hid On7
  have HOn9 := Lib.hid On9
  have HE0 := Lib.hid E0
  have HE1 := Lib.hid E1
  have HE2 := Lib.hid E2
  have HE3 := Lib.hid E3
  have HE4 := Lib.hid E4
  have HE5 := Lib.hid E5
  have HE6 := Lib.hid E6
  have HE7 := Lib.hid E7
  have HE8 := Lib.hid E8
  have HE9 := Lib.hid E9
  have HI4 := Lib.hid I4
  have HI3 := Lib.hid I3
  have HI2 := Lib.hid I2
  have HI1 := Lib.hid I1
  have HI5 := Lib.hid I5
  clear On0 On1 On2 On3 On4 On5 On6 On7 On9 E0 E1 E2 E3 E4 E5 E6 E7 E8 E9 I4 I3 I2 I1 I5
  go_enter Try.func29, Try.ntmps29
  go_wp2_with fail
  have BW := Lib.hid (Below.refl w.heap.size w)
  refine (HOn5.out _).mono ?_
  rintro e v1 ⟨rfl, z1⟩
  have NB := Lib.hid (bel_tr BW.out z1)
  clear BW z1 
  have BW := NB
  clear NB 
  go_wp2_with fail
  refine (HOn6.out _).mono ?_
  rintro e v2 ⟨rfl, z2⟩
  have NB := Lib.hid (bel_tr BW.out z2)
  clear BW z2 
  have BW := NB
  clear NB 
  go_wp2_with fail
  refine (HOn7.out _).mono ?_
  rintro e v3 ⟨rfl, z3⟩
  have NB := Lib.hid (bel_tr BW.out z3)
  clear BW z3 
  have BW := NB
  clear NB 
  go_wp2_with fail
  refine (HE0.out _).mono ?_
  rintro e v4 ⟨rfl, z4⟩
  have NB := Lib.hid (bel_tr BW.out z4)
  clear BW z4 
  have BW := NB
  clear NB 
  go_wp2_with fail
  have Na : At (v4.alloc (.cells #[.int .u64 (wd n4 0 : Nat), .int .u64 (wd n4 1 : Nat), .int .u64 (wd n4 2 : Nat), .int .u64 (wd n4 3 : Nat)] 24)) (v4.heap.size) 24 #[.int .u64 (wd n4 0 : Nat), .int .u64 (wd n4 1 : Nat), .int .u64 (wd n4 2 : Nat), .int .u64 (wd n4 3 : Nat)] := At.at_ _ _ _ _ (by simp)
  have NB : Below w.heap.size w (v4.alloc (.cells #[.int .u64 (wd n4 0 : Nat), .int .u64 (wd n4 1 : Nat), .int .u64 (wd n4 2 : Nat), .int .u64 (wd n4 3 : Nat)] 24)) := gr_alloc BW.out _
  clear BW 
  generalize (v4.alloc (.cells #[.int .u64 (wd n4 0 : Nat), .int .u64 (wd n4 1 : Nat), .int .u64 (wd n4 2 : Nat), .int .u64 (wd n4 3 : Nat)] 24)) = W5 at *
  generalize v4.heap.size = ga at *
  have Fa := Lib.hid Na
  have BW := Lib.hid NB
  clear NB Na
  refine (HOn2.out _).mono ?_
  rintro e v6 ⟨rfl, z6⟩
  have Na := Lib.hid (Fa.out.on z6)
  have NB := Lib.hid (bel_tr BW.out z6)
  clear BW z6 Fa
  have Fa := Na
  have BW := NB
  clear NB Na
  go_wp2_with fail
  refine (HOn6.out _).mono ?_
  rintro e v7 ⟨rfl, z7⟩
  have Na := Lib.hid (Fa.out.on z7)
  have NB := Lib.hid (bel_tr BW.out z7)
  clear BW z7 Fa
  have Fa := Na
  have BW := NB
  clear NB Na
  go_wp2_with fail
  refine (HOn7.out _).mono ?_
  rintro e v8 ⟨rfl, z8⟩
  have Na := Lib.hid (Fa.out.on z8)
  have NB := Lib.hid (bel_tr BW.out z8)
  clear BW z8 Fa
  have Fa := Na
  have BW := NB
  clear NB Na
  go_wp2_with fail
  refine (HE1.out _).mono ?_
  rintro e v9 ⟨rfl, z9⟩
  have Na := Lib.hid (Fa.out.on z9)
  have NB := Lib.hid (bel_tr BW.out z9)
  clear BW z9 Fa
  have Fa := Na
  have BW := NB
  clear NB Na
  go_wp2_with fail
  have Nb : At (v9.alloc (.cells #[.int .u64 (wd n3 0 : Nat), .int .u64 (wd n3 1 : Nat), .int .u64 (wd n3 2 : Nat), .int .u64 (wd n3 3 : Nat)] 24)) (v9.heap.size) 24 #[.int .u64 (wd n3 0 : Nat), .int .u64 (wd n3 1 : Nat), .int .u64 (wd n3 2 : Nat), .int .u64 (wd n3 3 : Nat)] := At.at_ _ _ _ _ (by simp)
  have Na : At (v9.alloc (.cells #[.int .u64 (wd n3 0 : Nat), .int .u64 (wd n3 1 : Nat), .int .u64 (wd n3 2 : Nat), .int .u64 (wd n3 3 : Nat)] 24)) ga 24 #[.int .u64 (wd n4 0 : Nat), .int .u64 (wd n4 1 : Nat), .int .u64 (wd n4 2 : Nat), .int .u64 (wd n4 3 : Nat)] := Fa.out.alloc _
  have NB : Below w.heap.size w (v9.alloc (.cells #[.int .u64 (wd n3 0 : Nat), .int .u64 (wd n3 1 : Nat), .int .u64 (wd n3 2 : Nat), .int .u64 (wd n3 3 : Nat)] 24)) := gr_alloc BW.out _
  clear BW Fa
  generalize (v9.alloc (.cells #[.int .u64 (wd n3 0 : Nat), .int .u64 (wd n3 1 : Nat), .int .u64 (wd n3 2 : Nat), .int .u64 (wd n3 3 : Nat)] 24)) = W10 at *
  generalize v9.heap.size = gb at *
  have Fa := Lib.hid Na
  have Fb := Lib.hid Nb
  have BW := Lib.hid NB
  clear NB Na Nb
  refine (HOn5.out _).mono ?_
  rintro e v11 ⟨rfl, z11⟩
  have Na := Lib.hid (Fa.out.on z11)
  have Nb := Lib.hid (Fb.out.on z11)
  have NB := Lib.hid (bel_tr BW.out z11)
  clear BW z11 Fa Fb
  have Fa := Na
  have Fb := Nb
  have BW := NB
  clear NB Na Nb
  go_wp2_with fail
  refine (HOn6.out _).mono ?_
  rintro e v12 ⟨rfl, z12⟩
  have Na := Lib.hid (Fa.out.on z12)
  have Nb := Lib.hid (Fb.out.on z12)
  have NB := Lib.hid (bel_tr BW.out z12)
  clear BW z12 Fa Fb
  have Fa := Na
  have Fb := Nb
  have BW := NB
  clear NB Na Nb
  go_wp2_with fail
  refine (HOn7.out _).mono ?_
  rintro e v13 ⟨rfl, z13⟩
  have Na := Lib.hid (Fa.out.on z13)
  have Nb := Lib.hid (Fb.out.on z13)
  have NB := Lib.hid (bel_tr BW.out z13)
  clear BW z13 Fa Fb
  have Fa := Na
  have Fb := Nb
  have BW := NB
  clear NB Na Nb
  go_wp2_with fail
  refine (HE2.out _).mono ?_
  rintro e v14 ⟨rfl, z14⟩
  have Na := Lib.hid (Fa.out.on z14)
  have Nb := Lib.hid (Fb.out.on z14)
  have NB := Lib.hid (bel_tr BW.out z14)
  clear BW z14 Fa Fb
  have Fa := Na
  have Fb := Nb
  have BW := NB
  clear NB Na Nb
  go_wp2_with fail
  have Nc : At (v14.alloc (.cells #[.int .u64 (wd n2 0 : Nat), .int .u64 (wd n2 1 : Nat), .int .u64 (wd n2 2 : Nat), .int .u64 (wd n2 3 : Nat)] 24)) (v14.heap.size) 24 #[.int .u64 (wd n2 0 : Nat), .int .u64 (wd n2 1 : Nat), .int .u64 (wd n2 2 : Nat), .int .u64 (wd n2 3 : Nat)] := At.at_ _ _ _ _ (by simp)
  have Na : At (v14.alloc (.cells #[.int .u64 (wd n2 0 : Nat), .int .u64 (wd n2 1 : Nat), .int .u64 (wd n2 2 : Nat), .int .u64 (wd n2 3 : Nat)] 24)) ga 24 #[.int .u64 (wd n4 0 : Nat), .int .u64 (wd n4 1 : Nat), .int .u64 (wd n4 2 : Nat), .int .u64 (wd n4 3 : Nat)] := Fa.out.alloc _
  have Nb : At (v14.alloc (.cells #[.int .u64 (wd n2 0 : Nat), .int .u64 (wd n2 1 : Nat), .int .u64 (wd n2 2 : Nat), .int .u64 (wd n2 3 : Nat)] 24)) gb 24 #[.int .u64 (wd n3 0 : Nat), .int .u64 (wd n3 1 : Nat), .int .u64 (wd n3 2 : Nat), .int .u64 (wd n3 3 : Nat)] := Fb.out.alloc _
  have NB : Below w.heap.size w (v14.alloc (.cells #[.int .u64 (wd n2 0 : Nat), .int .u64 (wd n2 1 : Nat), .int .u64 (wd n2 2 : Nat), .int .u64 (wd n2 3 : Nat)] 24)) := gr_alloc BW.out _
  clear BW Fa Fb
  generalize (v14.alloc (.cells #[.int .u64 (wd n2 0 : Nat), .int .u64 (wd n2 1 : Nat), .int .u64 (wd n2 2 : Nat), .int .u64 (wd n2 3 : Nat)] 24)) = W15 at *
  generalize v14.heap.size = gc at *
  have Fa := Lib.hid Na
  have Fb := Lib.hid Nb
  have Fc := Lib.hid Nc
  have BW := Lib.hid NB
  clear NB Na Nb Nc
  refine (HOn3.out _).mono ?_
  rintro e v16 ⟨rfl, z16⟩
  have Na := Lib.hid (Fa.out.on z16)
  have Nb := Lib.hid (Fb.out.on z16)
  have Nc := Lib.hid (Fc.out.on z16)
  have NB := Lib.hid (bel_tr BW.out z16)
  clear BW z16 Fa Fb Fc
  have Fa := Na
  have Fb := Nb
  have Fc := Nc
  have BW := NB
  clear NB Na Nb Nc
  go_wp2_with fail
  refine (HOn6.out _).mono ?_
  rintro e v17 ⟨rfl, z17⟩
  have Na := Lib.hid (Fa.out.on z17)
  have Nb := Lib.hid (Fb.out.on z17)
  have Nc := Lib.hid (Fc.out.on z17)
  have NB := Lib.hid (bel_tr BW.out z17)
  clear BW z17 Fa Fb Fc
  have Fa := Na
  have Fb := Nb
  have Fc := Nc
  have BW := NB
  clear NB Na Nb Nc
  go_wp2_with fail
  refine (HOn7.out _).mono ?_
  rintro e v18 ⟨rfl, z18⟩
  have Na := Lib.hid (Fa.out.on z18)
  have Nb := Lib.hid (Fb.out.on z18)
  have Nc := Lib.hid (Fc.out.on z18)
  have NB := Lib.hid (bel_tr BW.out z18)
  clear BW z18 Fa Fb Fc
  have Fa := Na
  have Fb := Nb
  have Fc := Nc
  have BW := NB
  clear NB Na Nb Nc
  go_wp2_with fail
  refine (HE3.out _).mono ?_
  rintro e v19 ⟨rfl, z19⟩
  have Na := Lib.hid (Fa.out.on z19)
  have Nb := Lib.hid (Fb.out.on z19)
  have Nc := Lib.hid (Fc.out.on z19)
  have NB := Lib.hid (bel_tr BW.out z19)
  clear BW z19 Fa Fb Fc
  have Fa := Na
  have Fb := Nb
  have Fc := Nc
  have BW := NB
  clear NB Na Nb Nc
  go_wp2_with fail
  have Nd : At (v19.alloc (.cells #[.int .u64 (wd n1 0 : Nat), .int .u64 (wd n1 1 : Nat), .int .u64 (wd n1 2 : Nat), .int .u64 (wd n1 3 : Nat)] 24)) (v19.heap.size) 24 #[.int .u64 (wd n1 0 : Nat), .int .u64 (wd n1 1 : Nat), .int .u64 (wd n1 2 : Nat), .int .u64 (wd n1 3 : Nat)] := At.at_ _ _ _ _ (by simp)
  have Na : At (v19.alloc (.cells #[.int .u64 (wd n1 0 : Nat), .int .u64 (wd n1 1 : Nat), .int .u64 (wd n1 2 : Nat), .int .u64 (wd n1 3 : Nat)] 24)) ga 24 #[.int .u64 (wd n4 0 : Nat), .int .u64 (wd n4 1 : Nat), .int .u64 (wd n4 2 : Nat), .int .u64 (wd n4 3 : Nat)] := Fa.out.alloc _
  have Nb : At (v19.alloc (.cells #[.int .u64 (wd n1 0 : Nat), .int .u64 (wd n1 1 : Nat), .int .u64 (wd n1 2 : Nat), .int .u64 (wd n1 3 : Nat)] 24)) gb 24 #[.int .u64 (wd n3 0 : Nat), .int .u64 (wd n3 1 : Nat), .int .u64 (wd n3 2 : Nat), .int .u64 (wd n3 3 : Nat)] := Fb.out.alloc _
  have Nc : At (v19.alloc (.cells #[.int .u64 (wd n1 0 : Nat), .int .u64 (wd n1 1 : Nat), .int .u64 (wd n1 2 : Nat), .int .u64 (wd n1 3 : Nat)] 24)) gc 24 #[.int .u64 (wd n2 0 : Nat), .int .u64 (wd n2 1 : Nat), .int .u64 (wd n2 2 : Nat), .int .u64 (wd n2 3 : Nat)] := Fc.out.alloc _
  have NB : Below w.heap.size w (v19.alloc (.cells #[.int .u64 (wd n1 0 : Nat), .int .u64 (wd n1 1 : Nat), .int .u64 (wd n1 2 : Nat), .int .u64 (wd n1 3 : Nat)] 24)) := gr_alloc BW.out _
  clear BW Fa Fb Fc
  generalize (v19.alloc (.cells #[.int .u64 (wd n1 0 : Nat), .int .u64 (wd n1 1 : Nat), .int .u64 (wd n1 2 : Nat), .int .u64 (wd n1 3 : Nat)] 24)) = W20 at *
  generalize v19.heap.size = gd at *
  have Fa := Lib.hid Na
  have Fb := Lib.hid Nb
  have Fc := Lib.hid Nc
  have Fd := Lib.hid Nd
  have BW := Lib.hid NB
  clear NB Na Nb Nc Nd
  refine (HOn3.out _).mono ?_
  rintro e v21 ⟨rfl, z21⟩
  have Na := Lib.hid (Fa.out.on z21)
  have Nb := Lib.hid (Fb.out.on z21)
  have Nc := Lib.hid (Fc.out.on z21)
  have Nd := Lib.hid (Fd.out.on z21)
  have NB := Lib.hid (bel_tr BW.out z21)
  clear BW z21 Fa Fb Fc Fd
  have Fa := Na
  have Fb := Nb
  have Fc := Nc
  have Fd := Nd
  have BW := NB
  clear NB Na Nb Nc Nd
  go_wp2_with fail
  refine (HOn7.out _).mono ?_
  rintro e v22 ⟨rfl, z22⟩
  have Na := Lib.hid (Fa.out.on z22)
  have Nb := Lib.hid (Fb.out.on z22)
  have Nc := Lib.hid (Fc.out.on z22)
  have Nd := Lib.hid (Fd.out.on z22)
  have NB := Lib.hid (bel_tr BW.out z22)
  clear BW z22 Fa Fb Fc Fd
  have Fa := Na
  have Fb := Nb
  have Fc := Nc
  have Fd := Nd
  have BW := NB
  clear NB Na Nb Nc Nd
  go_wp2_with fail
  refine (HE4.out _).mono ?_
  rintro e v23 ⟨rfl, z23⟩
  have Na := Lib.hid (Fa.out.on z23)
  have Nb := Lib.hid (Fb.out.on z23)
  have Nc := Lib.hid (Fc.out.on z23)
  have Nd := Lib.hid (Fd.out.on z23)
  have NB := Lib.hid (bel_tr BW.out z23)
  clear BW z23 Fa Fb Fc Fd
  have Fa := Na
  have Fb := Nb
  have Fc := Nc
  have Fd := Nd
  have BW := NB
  clear NB Na Nb Nc Nd
  go_wp2_with fail
  have Nx : At (v23.alloc (.cells #[.int .u64 (wd n5 0 : Nat), .int .u64 (wd n5 1 : Nat), .int .u64 (wd n5 2 : Nat), .int .u64 (wd n5 3 : Nat)] 24)) (v23.heap.size) 24 #[.int .u64 (wd n5 0 : Nat), .int .u64 (wd n5 1 : Nat), .int .u64 (wd n5 2 : Nat), .int .u64 (wd n5 3 : Nat)] := At.at_ _ _ _ _ (by simp)
  have Na : At (v23.alloc (.cells #[.int .u64 (wd n5 0 : Nat), .int .u64 (wd n5 1 : Nat), .int .u64 (wd n5 2 : Nat), .int .u64 (wd n5 3 : Nat)] 24)) ga 24 #[.int .u64 (wd n4 0 : Nat), .int .u64 (wd n4 1 : Nat), .int .u64 (wd n4 2 : Nat), .int .u64 (wd n4 3 : Nat)] := Fa.out.alloc _
  have Nb : At (v23.alloc (.cells #[.int .u64 (wd n5 0 : Nat), .int .u64 (wd n5 1 : Nat), .int .u64 (wd n5 2 : Nat), .int .u64 (wd n5 3 : Nat)] 24)) gb 24 #[.int .u64 (wd n3 0 : Nat), .int .u64 (wd n3 1 : Nat), .int .u64 (wd n3 2 : Nat), .int .u64 (wd n3 3 : Nat)] := Fb.out.alloc _
  have Nc : At (v23.alloc (.cells #[.int .u64 (wd n5 0 : Nat), .int .u64 (wd n5 1 : Nat), .int .u64 (wd n5 2 : Nat), .int .u64 (wd n5 3 : Nat)] 24)) gc 24 #[.int .u64 (wd n2 0 : Nat), .int .u64 (wd n2 1 : Nat), .int .u64 (wd n2 2 : Nat), .int .u64 (wd n2 3 : Nat)] := Fc.out.alloc _
  have Nd : At (v23.alloc (.cells #[.int .u64 (wd n5 0 : Nat), .int .u64 (wd n5 1 : Nat), .int .u64 (wd n5 2 : Nat), .int .u64 (wd n5 3 : Nat)] 24)) gd 24 #[.int .u64 (wd n1 0 : Nat), .int .u64 (wd n1 1 : Nat), .int .u64 (wd n1 2 : Nat), .int .u64 (wd n1 3 : Nat)] := Fd.out.alloc _
  have NB : Below w.heap.size w (v23.alloc (.cells #[.int .u64 (wd n5 0 : Nat), .int .u64 (wd n5 1 : Nat), .int .u64 (wd n5 2 : Nat), .int .u64 (wd n5 3 : Nat)] 24)) := gr_alloc BW.out _
  clear BW Fa Fb Fc Fd
  generalize (v23.alloc (.cells #[.int .u64 (wd n5 0 : Nat), .int .u64 (wd n5 1 : Nat), .int .u64 (wd n5 2 : Nat), .int .u64 (wd n5 3 : Nat)] 24)) = W24 at *
  generalize v23.heap.size = gx at *
  have Fa := Lib.hid Na
  have Fb := Lib.hid Nb
  have Fc := Lib.hid Nc
  have Fd := Lib.hid Nd
  have Fx := Lib.hid Nx
  have BW := Lib.hid NB
  clear NB Na Nb Nc Nd Nx
  refine (HOn7.out _).mono ?_
  rintro e v25 ⟨rfl, z25⟩
  have Na := Lib.hid (Fa.out.on z25)
  have Nb := Lib.hid (Fb.out.on z25)
  have Nc := Lib.hid (Fc.out.on z25)
  have Nd := Lib.hid (Fd.out.on z25)
  have Nx := Lib.hid (Fx.out.on z25)
  have NB := Lib.hid (bel_tr BW.out z25)
  clear BW z25 Fa Fb Fc Fd Fx
  have Fa := Na
  have Fb := Nb
  have Fc := Nc
  have Fd := Nd
  have Fx := Nx
  have BW := NB
  clear NB Na Nb Nc Nd Nx
  go_wp2_with fail
  refine (HOn0.out _).mono ?_
  rintro e v26 ⟨rfl, z26⟩
  have Na := Lib.hid (Fa.out.on z26)
  have Nb := Lib.hid (Fb.out.on z26)
  have Nc := Lib.hid (Fc.out.on z26)
  have Nd := Lib.hid (Fd.out.on z26)
  have Nx := Lib.hid (Fx.out.on z26)
  have NB := Lib.hid (bel_tr BW.out z26)
  clear BW z26 Fa Fb Fc Fd Fx
  have Fa := Na
  have Fb := Nb
  have Fc := Nc
  have Fd := Nd
  have Fx := Nx
  have BW := NB
  clear NB Na Nb Nc Nd Nx
  go_wp2_with fail
  refine (HOn7.out _).mono ?_
  rintro e v27 ⟨rfl, z27⟩
  have Na := Lib.hid (Fa.out.on z27)
  have Nb := Lib.hid (Fb.out.on z27)
  have Nc := Lib.hid (Fc.out.on z27)
  have Nd := Lib.hid (Fd.out.on z27)
  have Nx := Lib.hid (Fx.out.on z27)
  have NB := Lib.hid (bel_tr BW.out z27)
  clear BW z27 Fa Fb Fc Fd Fx
  have Fa := Na
  have Fb := Nb
  have Fc := Nc
  have Fd := Nd
  have Fx := Nx
  have BW := NB
  clear NB Na Nb Nc Nd Nx
  go_wp2_with fail
  refine (HE5.out _).mono ?_
  rintro e v28 ⟨rfl, z28⟩
  have Na := Lib.hid (Fa.out.on z28)
  have Nb := Lib.hid (Fb.out.on z28)
  have Nc := Lib.hid (Fc.out.on z28)
  have Nd := Lib.hid (Fd.out.on z28)
  have Nx := Lib.hid (Fx.out.on z28)
  have NB := Lib.hid (bel_tr BW.out z28)
  clear BW z28 Fa Fb Fc Fd Fx
  have Fa := Na
  have Fb := Nb
  have Fc := Nc
  have Fd := Nd
  have Fx := Nx
  have BW := NB
  clear NB Na Nb Nc Nd Nx
  go_wp2_with fail
  have Nf : At (v28.alloc (.cells #[.int .u64 (wd n0 0 : Nat), .int .u64 (wd n0 1 : Nat), .int .u64 (wd n0 2 : Nat), .int .u64 (wd n0 3 : Nat)] 24)) (v28.heap.size) 24 #[.int .u64 (wd n0 0 : Nat), .int .u64 (wd n0 1 : Nat), .int .u64 (wd n0 2 : Nat), .int .u64 (wd n0 3 : Nat)] := At.at_ _ _ _ _ (by simp)
  have Na : At (v28.alloc (.cells #[.int .u64 (wd n0 0 : Nat), .int .u64 (wd n0 1 : Nat), .int .u64 (wd n0 2 : Nat), .int .u64 (wd n0 3 : Nat)] 24)) ga 24 #[.int .u64 (wd n4 0 : Nat), .int .u64 (wd n4 1 : Nat), .int .u64 (wd n4 2 : Nat), .int .u64 (wd n4 3 : Nat)] := Fa.out.alloc _
  have Nb : At (v28.alloc (.cells #[.int .u64 (wd n0 0 : Nat), .int .u64 (wd n0 1 : Nat), .int .u64 (wd n0 2 : Nat), .int .u64 (wd n0 3 : Nat)] 24)) gb 24 #[.int .u64 (wd n3 0 : Nat), .int .u64 (wd n3 1 : Nat), .int .u64 (wd n3 2 : Nat), .int .u64 (wd n3 3 : Nat)] := Fb.out.alloc _
  have Nc : At (v28.alloc (.cells #[.int .u64 (wd n0 0 : Nat), .int .u64 (wd n0 1 : Nat), .int .u64 (wd n0 2 : Nat), .int .u64 (wd n0 3 : Nat)] 24)) gc 24 #[.int .u64 (wd n2 0 : Nat), .int .u64 (wd n2 1 : Nat), .int .u64 (wd n2 2 : Nat), .int .u64 (wd n2 3 : Nat)] := Fc.out.alloc _
  have Nd : At (v28.alloc (.cells #[.int .u64 (wd n0 0 : Nat), .int .u64 (wd n0 1 : Nat), .int .u64 (wd n0 2 : Nat), .int .u64 (wd n0 3 : Nat)] 24)) gd 24 #[.int .u64 (wd n1 0 : Nat), .int .u64 (wd n1 1 : Nat), .int .u64 (wd n1 2 : Nat), .int .u64 (wd n1 3 : Nat)] := Fd.out.alloc _
  have Nx : At (v28.alloc (.cells #[.int .u64 (wd n0 0 : Nat), .int .u64 (wd n0 1 : Nat), .int .u64 (wd n0 2 : Nat), .int .u64 (wd n0 3 : Nat)] 24)) gx 24 #[.int .u64 (wd n5 0 : Nat), .int .u64 (wd n5 1 : Nat), .int .u64 (wd n5 2 : Nat), .int .u64 (wd n5 3 : Nat)] := Fx.out.alloc _
  have NB : Below w.heap.size w (v28.alloc (.cells #[.int .u64 (wd n0 0 : Nat), .int .u64 (wd n0 1 : Nat), .int .u64 (wd n0 2 : Nat), .int .u64 (wd n0 3 : Nat)] 24)) := gr_alloc BW.out _
  clear BW Fa Fb Fc Fd Fx
  generalize (v28.alloc (.cells #[.int .u64 (wd n0 0 : Nat), .int .u64 (wd n0 1 : Nat), .int .u64 (wd n0 2 : Nat), .int .u64 (wd n0 3 : Nat)] 24)) = W29 at *
  generalize v28.heap.size = gf at *
  have Fa := Lib.hid Na
  have Fb := Lib.hid Nb
  have Fc := Lib.hid Nc
  have Fd := Lib.hid Nd
  have Fx := Lib.hid Nx
  have Ff := Lib.hid Nf
  have BW := Lib.hid NB
  clear NB Na Nb Nc Nd Nx Nf
  refine (HOn0.out _).mono ?_
  rintro e v30 ⟨rfl, z30⟩
  have Na := Lib.hid (Fa.out.on z30)
  have Nb := Lib.hid (Fb.out.on z30)
  have Nc := Lib.hid (Fc.out.on z30)
  have Nd := Lib.hid (Fd.out.on z30)
  have Nx := Lib.hid (Fx.out.on z30)
  have Nf := Lib.hid (Ff.out.on z30)
  have NB := Lib.hid (bel_tr BW.out z30)
  clear BW z30 Fa Fb Fc Fd Fx Ff
  have Fa := Na
  have Fb := Nb
  have Fc := Nc
  have Fd := Nd
  have Fx := Nx
  have Ff := Nf
  have BW := NB
  clear NB Na Nb Nc Nd Nx Nf
  go_wp2_with fail
  refine (HOn0.out _).mono ?_
  rintro e v31 ⟨rfl, z31⟩
  have Na := Lib.hid (Fa.out.on z31)
  have Nb := Lib.hid (Fb.out.on z31)
  have Nc := Lib.hid (Fc.out.on z31)
  have Nd := Lib.hid (Fd.out.on z31)
  have Nx := Lib.hid (Fx.out.on z31)
  have Nf := Lib.hid (Ff.out.on z31)
  have NB := Lib.hid (bel_tr BW.out z31)
  clear BW z31 Fa Fb Fc Fd Fx Ff
  have Fa := Na
  have Fb := Nb
  have Fc := Nc
  have Fd := Nd
  have Fx := Nx
  have Ff := Nf
  have BW := NB
  clear NB Na Nb Nc Nd Nx Nf
  go_wp2_with fail
  refine (HOn1.out _).mono ?_
  rintro e v32 ⟨rfl, z32⟩
  have Na := Lib.hid (Fa.out.on z32)
  have Nb := Lib.hid (Fb.out.on z32)
  have Nc := Lib.hid (Fc.out.on z32)
  have Nd := Lib.hid (Fd.out.on z32)
  have Nx := Lib.hid (Fx.out.on z32)
  have Nf := Lib.hid (Ff.out.on z32)
  have NB := Lib.hid (bel_tr BW.out z32)
  clear BW z32 Fa Fb Fc Fd Fx Ff
  have Fa := Na
  have Fb := Nb
  have Fc := Nc
  have Fd := Nd
  have Fx := Nx
  have Ff := Nf
  have BW := NB
  clear NB Na Nb Nc Nd Nx Nf
  go_wp2_with fail
  refine (HE6.out _).mono ?_
  rintro e v33 ⟨rfl, z33⟩
  have Na := Lib.hid (Fa.out.on z33)
  have Nb := Lib.hid (Fb.out.on z33)
  have Nc := Lib.hid (Fc.out.on z33)
  have Nd := Lib.hid (Fd.out.on z33)
  have Nx := Lib.hid (Fx.out.on z33)
  have Nf := Lib.hid (Ff.out.on z33)
  have NB := Lib.hid (bel_tr BW.out z33)
  clear BW z33 Fa Fb Fc Fd Fx Ff
  have Fa := Na
  have Fb := Nb
  have Fc := Nc
  have Fd := Nd
  have Fx := Nx
  have Ff := Nf
  have BW := NB
  clear NB Na Nb Nc Nd Nx Nf
  go_wp2_with fail
  have Ng : At (v33.alloc (.cells #[.int .u64 (wd n0 0 : Nat), .int .u64 (wd n0 1 : Nat), .int .u64 (wd n0 2 : Nat), .int .u64 (wd n0 3 : Nat)] 24)) (v33.heap.size) 24 #[.int .u64 (wd n0 0 : Nat), .int .u64 (wd n0 1 : Nat), .int .u64 (wd n0 2 : Nat), .int .u64 (wd n0 3 : Nat)] := At.at_ _ _ _ _ (by simp)
  have Na : At (v33.alloc (.cells #[.int .u64 (wd n0 0 : Nat), .int .u64 (wd n0 1 : Nat), .int .u64 (wd n0 2 : Nat), .int .u64 (wd n0 3 : Nat)] 24)) ga 24 #[.int .u64 (wd n4 0 : Nat), .int .u64 (wd n4 1 : Nat), .int .u64 (wd n4 2 : Nat), .int .u64 (wd n4 3 : Nat)] := Fa.out.alloc _
  have Nb : At (v33.alloc (.cells #[.int .u64 (wd n0 0 : Nat), .int .u64 (wd n0 1 : Nat), .int .u64 (wd n0 2 : Nat), .int .u64 (wd n0 3 : Nat)] 24)) gb 24 #[.int .u64 (wd n3 0 : Nat), .int .u64 (wd n3 1 : Nat), .int .u64 (wd n3 2 : Nat), .int .u64 (wd n3 3 : Nat)] := Fb.out.alloc _
  have Nc : At (v33.alloc (.cells #[.int .u64 (wd n0 0 : Nat), .int .u64 (wd n0 1 : Nat), .int .u64 (wd n0 2 : Nat), .int .u64 (wd n0 3 : Nat)] 24)) gc 24 #[.int .u64 (wd n2 0 : Nat), .int .u64 (wd n2 1 : Nat), .int .u64 (wd n2 2 : Nat), .int .u64 (wd n2 3 : Nat)] := Fc.out.alloc _
  have Nd : At (v33.alloc (.cells #[.int .u64 (wd n0 0 : Nat), .int .u64 (wd n0 1 : Nat), .int .u64 (wd n0 2 : Nat), .int .u64 (wd n0 3 : Nat)] 24)) gd 24 #[.int .u64 (wd n1 0 : Nat), .int .u64 (wd n1 1 : Nat), .int .u64 (wd n1 2 : Nat), .int .u64 (wd n1 3 : Nat)] := Fd.out.alloc _
  have Nx : At (v33.alloc (.cells #[.int .u64 (wd n0 0 : Nat), .int .u64 (wd n0 1 : Nat), .int .u64 (wd n0 2 : Nat), .int .u64 (wd n0 3 : Nat)] 24)) gx 24 #[.int .u64 (wd n5 0 : Nat), .int .u64 (wd n5 1 : Nat), .int .u64 (wd n5 2 : Nat), .int .u64 (wd n5 3 : Nat)] := Fx.out.alloc _
  have Nf : At (v33.alloc (.cells #[.int .u64 (wd n0 0 : Nat), .int .u64 (wd n0 1 : Nat), .int .u64 (wd n0 2 : Nat), .int .u64 (wd n0 3 : Nat)] 24)) gf 24 #[.int .u64 (wd n0 0 : Nat), .int .u64 (wd n0 1 : Nat), .int .u64 (wd n0 2 : Nat), .int .u64 (wd n0 3 : Nat)] := Ff.out.alloc _
  have NB : Below w.heap.size w (v33.alloc (.cells #[.int .u64 (wd n0 0 : Nat), .int .u64 (wd n0 1 : Nat), .int .u64 (wd n0 2 : Nat), .int .u64 (wd n0 3 : Nat)] 24)) := gr_alloc BW.out _
  clear BW Fa Fb Fc Fd Fx Ff
  generalize (v33.alloc (.cells #[.int .u64 (wd n0 0 : Nat), .int .u64 (wd n0 1 : Nat), .int .u64 (wd n0 2 : Nat), .int .u64 (wd n0 3 : Nat)] 24)) = W34 at *
  generalize v33.heap.size = gg at *
  have Fa := Lib.hid Na
  have Fb := Lib.hid Nb
  have Fc := Lib.hid Nc
  have Fd := Lib.hid Nd
  have Fx := Lib.hid Nx
  have Ff := Lib.hid Nf
  have Fg := Lib.hid Ng
  have BW := Lib.hid NB
  clear NB Na Nb Nc Nd Nx Nf Ng
  refine (HOn2.out _).mono ?_
  rintro e v35 ⟨rfl, z35⟩
  have Na := Lib.hid (Fa.out.on z35)
  have Nb := Lib.hid (Fb.out.on z35)
  have Nc := Lib.hid (Fc.out.on z35)
  have Nd := Lib.hid (Fd.out.on z35)
  have Nx := Lib.hid (Fx.out.on z35)
  have Nf := Lib.hid (Ff.out.on z35)
  have Ng := Lib.hid (Fg.out.on z35)
  have NB := Lib.hid (bel_tr BW.out z35)
  clear BW z35 Fa Fb Fc Fd Fx Ff Fg
  have Fa := Na
  have Fb := Nb
  have Fc := Nc
  have Fd := Nd
  have Fx := Nx
  have Ff := Nf
  have Fg := Ng
  have BW := NB
  clear NB Na Nb Nc Nd Nx Nf Ng
  go_wp2_with fail
  refine (HOn4.out _).mono ?_
  rintro e v36 ⟨rfl, z36⟩
  have Na := Lib.hid (Fa.out.on z36)
  have Nb := Lib.hid (Fb.out.on z36)
  have Nc := Lib.hid (Fc.out.on z36)
  have Nd := Lib.hid (Fd.out.on z36)
  have Nx := Lib.hid (Fx.out.on z36)
  have Nf := Lib.hid (Ff.out.on z36)
  have Ng := Lib.hid (Fg.out.on z36)
  have NB := Lib.hid (bel_tr BW.out z36)
  clear BW z36 Fa Fb Fc Fd Fx Ff Fg
  have Fa := Na
  have Fb := Nb
  have Fc := Nc
  have Fd := Nd
  have Fx := Nx
  have Ff := Nf
  have Fg := Ng
  have BW := NB
  clear NB Na Nb Nc Nd Nx Nf Ng
  go_wp2_with fail
  refine (HE7.out _).mono ?_
  rintro e v37 ⟨rfl, z37⟩
  have Na := Lib.hid (Fa.out.on z37)
  have Nb := Lib.hid (Fb.out.on z37)
  have Nc := Lib.hid (Fc.out.on z37)
  have Nd := Lib.hid (Fd.out.on z37)
  have Nx := Lib.hid (Fx.out.on z37)
  have Nf := Lib.hid (Ff.out.on z37)
  have Ng := Lib.hid (Fg.out.on z37)
  have NB := Lib.hid (bel_tr BW.out z37)
  clear BW z37 Fa Fb Fc Fd Fx Ff Fg
  have Fa := Na
  have Fb := Nb
  have Fc := Nc
  have Fd := Nd
  have Fx := Nx
  have Ff := Nf
  have Fg := Ng
  have BW := NB
  clear NB Na Nb Nc Nd Nx Nf Ng
  go_wp2_with fail
  have Nh : At (v37.alloc (.cells #[.int .u64 (wd n0 0 : Nat), .int .u64 (wd n0 1 : Nat), .int .u64 (wd n0 2 : Nat), .int .u64 (wd n0 3 : Nat)] 24)) (v37.heap.size) 24 #[.int .u64 (wd n0 0 : Nat), .int .u64 (wd n0 1 : Nat), .int .u64 (wd n0 2 : Nat), .int .u64 (wd n0 3 : Nat)] := At.at_ _ _ _ _ (by simp)
  have Na : At (v37.alloc (.cells #[.int .u64 (wd n0 0 : Nat), .int .u64 (wd n0 1 : Nat), .int .u64 (wd n0 2 : Nat), .int .u64 (wd n0 3 : Nat)] 24)) ga 24 #[.int .u64 (wd n4 0 : Nat), .int .u64 (wd n4 1 : Nat), .int .u64 (wd n4 2 : Nat), .int .u64 (wd n4 3 : Nat)] := Fa.out.alloc _
  have Nb : At (v37.alloc (.cells #[.int .u64 (wd n0 0 : Nat), .int .u64 (wd n0 1 : Nat), .int .u64 (wd n0 2 : Nat), .int .u64 (wd n0 3 : Nat)] 24)) gb 24 #[.int .u64 (wd n3 0 : Nat), .int .u64 (wd n3 1 : Nat), .int .u64 (wd n3 2 : Nat), .int .u64 (wd n3 3 : Nat)] := Fb.out.alloc _
  have Nc : At (v37.alloc (.cells #[.int .u64 (wd n0 0 : Nat), .int .u64 (wd n0 1 : Nat), .int .u64 (wd n0 2 : Nat), .int .u64 (wd n0 3 : Nat)] 24)) gc 24 #[.int .u64 (wd n2 0 : Nat), .int .u64 (wd n2 1 : Nat), .int .u64 (wd n2 2 : Nat), .int .u64 (wd n2 3 : Nat)] := Fc.out.alloc _
  have Nd : At (v37.alloc (.cells #[.int .u64 (wd n0 0 : Nat), .int .u64 (wd n0 1 : Nat), .int .u64 (wd n0 2 : Nat), .int .u64 (wd n0 3 : Nat)] 24)) gd 24 #[.int .u64 (wd n1 0 : Nat), .int .u64 (wd n1 1 : Nat), .int .u64 (wd n1 2 : Nat), .int .u64 (wd n1 3 : Nat)] := Fd.out.alloc _
  have Nx : At (v37.alloc (.cells #[.int .u64 (wd n0 0 : Nat), .int .u64 (wd n0 1 : Nat), .int .u64 (wd n0 2 : Nat), .int .u64 (wd n0 3 : Nat)] 24)) gx 24 #[.int .u64 (wd n5 0 : Nat), .int .u64 (wd n5 1 : Nat), .int .u64 (wd n5 2 : Nat), .int .u64 (wd n5 3 : Nat)] := Fx.out.alloc _
  have Nf : At (v37.alloc (.cells #[.int .u64 (wd n0 0 : Nat), .int .u64 (wd n0 1 : Nat), .int .u64 (wd n0 2 : Nat), .int .u64 (wd n0 3 : Nat)] 24)) gf 24 #[.int .u64 (wd n0 0 : Nat), .int .u64 (wd n0 1 : Nat), .int .u64 (wd n0 2 : Nat), .int .u64 (wd n0 3 : Nat)] := Ff.out.alloc _
  have Ng : At (v37.alloc (.cells #[.int .u64 (wd n0 0 : Nat), .int .u64 (wd n0 1 : Nat), .int .u64 (wd n0 2 : Nat), .int .u64 (wd n0 3 : Nat)] 24)) gg 24 #[.int .u64 (wd n0 0 : Nat), .int .u64 (wd n0 1 : Nat), .int .u64 (wd n0 2 : Nat), .int .u64 (wd n0 3 : Nat)] := Fg.out.alloc _
  have NB : Below w.heap.size w (v37.alloc (.cells #[.int .u64 (wd n0 0 : Nat), .int .u64 (wd n0 1 : Nat), .int .u64 (wd n0 2 : Nat), .int .u64 (wd n0 3 : Nat)] 24)) := gr_alloc BW.out _
  clear BW Fa Fb Fc Fd Fx Ff Fg
  generalize (v37.alloc (.cells #[.int .u64 (wd n0 0 : Nat), .int .u64 (wd n0 1 : Nat), .int .u64 (wd n0 2 : Nat), .int .u64 (wd n0 3 : Nat)] 24)) = W38 at *
  generalize v37.heap.size = gh at *
  have Fa := Lib.hid Na
  have Fb := Lib.hid Nb
  have Fc := Lib.hid Nc
  have Fd := Lib.hid Nd
  have Fx := Lib.hid Nx
  have Ff := Lib.hid Nf
  have Fg := Lib.hid Ng
  have Fh := Lib.hid Nh
  have BW := Lib.hid NB
  clear NB Na Nb Nc Nd Nx Nf Ng Nh
  refine (HOn0.out _).mono ?_
  rintro e v39 ⟨rfl, z39⟩
  have Na := Lib.hid (Fa.out.on z39)
  have Nb := Lib.hid (Fb.out.on z39)
  have Nc := Lib.hid (Fc.out.on z39)
  have Nd := Lib.hid (Fd.out.on z39)
  have Nx := Lib.hid (Fx.out.on z39)
  have Nf := Lib.hid (Ff.out.on z39)
  have Ng := Lib.hid (Fg.out.on z39)
  have Nh := Lib.hid (Fh.out.on z39)
  have NB := Lib.hid (bel_tr BW.out z39)
  clear BW z39 Fa Fb Fc Fd Fx Ff Fg Fh
  have Fa := Na
  have Fb := Nb
  have Fc := Nc
  have Fd := Nd
  have Fx := Nx
  have Ff := Nf
  have Fg := Ng
  have Fh := Nh
  have BW := NB
  clear NB Na Nb Nc Nd Nx Nf Ng Nh
  go_wp2_with fail
  refine (HOn5.out _).mono ?_
  rintro e v40 ⟨rfl, z40⟩
  have Na := Lib.hid (Fa.out.on z40)
  have Nb := Lib.hid (Fb.out.on z40)
  have Nc := Lib.hid (Fc.out.on z40)
  have Nd := Lib.hid (Fd.out.on z40)
  have Nx := Lib.hid (Fx.out.on z40)
  have Nf := Lib.hid (Ff.out.on z40)
  have Ng := Lib.hid (Fg.out.on z40)
  have Nh := Lib.hid (Fh.out.on z40)
  have NB := Lib.hid (bel_tr BW.out z40)
  clear BW z40 Fa Fb Fc Fd Fx Ff Fg Fh
  have Fa := Na
  have Fb := Nb
  have Fc := Nc
  have Fd := Nd
  have Fx := Nx
  have Ff := Nf
  have Fg := Ng
  have Fh := Nh
  have BW := NB
  clear NB Na Nb Nc Nd Nx Nf Ng Nh
  go_wp2_with fail
  refine (HE8.out _).mono ?_
  rintro e v41 ⟨rfl, z41⟩
  have Na := Lib.hid (Fa.out.on z41)
  have Nb := Lib.hid (Fb.out.on z41)
  have Nc := Lib.hid (Fc.out.on z41)
  have Nd := Lib.hid (Fd.out.on z41)
  have Nx := Lib.hid (Fx.out.on z41)
  have Nf := Lib.hid (Ff.out.on z41)
  have Ng := Lib.hid (Fg.out.on z41)
  have Nh := Lib.hid (Fh.out.on z41)
  have NB := Lib.hid (bel_tr BW.out z41)
  clear BW z41 Fa Fb Fc Fd Fx Ff Fg Fh
  have Fa := Na
  have Fb := Nb
  have Fc := Nc
  have Fd := Nd
  have Fx := Nx
  have Ff := Nf
  have Fg := Ng
  have Fh := Nh
  have BW := NB
  clear NB Na Nb Nc Nd Nx Nf Ng Nh
  go_wp2_with fail
  have Ni : At (v41.alloc (.cells #[.int .u64 (wd n0 0 : Nat), .int .u64 (wd n0 1 : Nat), .int .u64 (wd n0 2 : Nat), .int .u64 (wd n0 3 : Nat)] 24)) (v41.heap.size) 24 #[.int .u64 (wd n0 0 : Nat), .int .u64 (wd n0 1 : Nat), .int .u64 (wd n0 2 : Nat), .int .u64 (wd n0 3 : Nat)] := At.at_ _ _ _ _ (by simp)
  have Na : At (v41.alloc (.cells #[.int .u64 (wd n0 0 : Nat), .int .u64 (wd n0 1 : Nat), .int .u64 (wd n0 2 : Nat), .int .u64 (wd n0 3 : Nat)] 24)) ga 24 #[.int .u64 (wd n4 0 : Nat), .int .u64 (wd n4 1 : Nat), .int .u64 (wd n4 2 : Nat), .int .u64 (wd n4 3 : Nat)] := Fa.out.alloc _
  have Nb : At (v41.alloc (.cells #[.int .u64 (wd n0 0 : Nat), .int .u64 (wd n0 1 : Nat), .int .u64 (wd n0 2 : Nat), .int .u64 (wd n0 3 : Nat)] 24)) gb 24 #[.int .u64 (wd n3 0 : Nat), .int .u64 (wd n3 1 : Nat), .int .u64 (wd n3 2 : Nat), .int .u64 (wd n3 3 : Nat)] := Fb.out.alloc _
  have Nc : At (v41.alloc (.cells #[.int .u64 (wd n0 0 : Nat), .int .u64 (wd n0 1 : Nat), .int .u64 (wd n0 2 : Nat), .int .u64 (wd n0 3 : Nat)] 24)) gc 24 #[.int .u64 (wd n2 0 : Nat), .int .u64 (wd n2 1 : Nat), .int .u64 (wd n2 2 : Nat), .int .u64 (wd n2 3 : Nat)] := Fc.out.alloc _
  have Nd : At (v41.alloc (.cells #[.int .u64 (wd n0 0 : Nat), .int .u64 (wd n0 1 : Nat), .int .u64 (wd n0 2 : Nat), .int .u64 (wd n0 3 : Nat)] 24)) gd 24 #[.int .u64 (wd n1 0 : Nat), .int .u64 (wd n1 1 : Nat), .int .u64 (wd n1 2 : Nat), .int .u64 (wd n1 3 : Nat)] := Fd.out.alloc _
  have Nx : At (v41.alloc (.cells #[.int .u64 (wd n0 0 : Nat), .int .u64 (wd n0 1 : Nat), .int .u64 (wd n0 2 : Nat), .int .u64 (wd n0 3 : Nat)] 24)) gx 24 #[.int .u64 (wd n5 0 : Nat), .int .u64 (wd n5 1 : Nat), .int .u64 (wd n5 2 : Nat), .int .u64 (wd n5 3 : Nat)] := Fx.out.alloc _
  have Nf : At (v41.alloc (.cells #[.int .u64 (wd n0 0 : Nat), .int .u64 (wd n0 1 : Nat), .int .u64 (wd n0 2 : Nat), .int .u64 (wd n0 3 : Nat)] 24)) gf 24 #[.int .u64 (wd n0 0 : Nat), .int .u64 (wd n0 1 : Nat), .int .u64 (wd n0 2 : Nat), .int .u64 (wd n0 3 : Nat)] := Ff.out.alloc _
  have Ng : At (v41.alloc (.cells #[.int .u64 (wd n0 0 : Nat), .int .u64 (wd n0 1 : Nat), .int .u64 (wd n0 2 : Nat), .int .u64 (wd n0 3 : Nat)] 24)) gg 24 #[.int .u64 (wd n0 0 : Nat), .int .u64 (wd n0 1 : Nat), .int .u64 (wd n0 2 : Nat), .int .u64 (wd n0 3 : Nat)] := Fg.out.alloc _
  have Nh : At (v41.alloc (.cells #[.int .u64 (wd n0 0 : Nat), .int .u64 (wd n0 1 : Nat), .int .u64 (wd n0 2 : Nat), .int .u64 (wd n0 3 : Nat)] 24)) gh 24 #[.int .u64 (wd n0 0 : Nat), .int .u64 (wd n0 1 : Nat), .int .u64 (wd n0 2 : Nat), .int .u64 (wd n0 3 : Nat)] := Fh.out.alloc _
  have NB : Below w.heap.size w (v41.alloc (.cells #[.int .u64 (wd n0 0 : Nat), .int .u64 (wd n0 1 : Nat), .int .u64 (wd n0 2 : Nat), .int .u64 (wd n0 3 : Nat)] 24)) := gr_alloc BW.out _
  clear BW Fa Fb Fc Fd Fx Ff Fg Fh
  generalize (v41.alloc (.cells #[.int .u64 (wd n0 0 : Nat), .int .u64 (wd n0 1 : Nat), .int .u64 (wd n0 2 : Nat), .int .u64 (wd n0 3 : Nat)] 24)) = W42 at *
  generalize v41.heap.size = gi at *
  have Fa := Lib.hid Na
  have Fb := Lib.hid Nb
  have Fc := Lib.hid Nc
  have Fd := Lib.hid Nd
  have Fx := Lib.hid Nx
  have Ff := Lib.hid Nf
  have Fg := Lib.hid Ng
  have Fh := Lib.hid Nh
  have Fi := Lib.hid Ni
  have BW := Lib.hid NB
  clear NB Na Nb Nc Nd Nx Nf Ng Nh Ni
  refine (HOn0.out _).mono ?_
  rintro e v43 ⟨rfl, z43⟩
  have Na := Lib.hid (Fa.out.on z43)
  have Nb := Lib.hid (Fb.out.on z43)
  have Nc := Lib.hid (Fc.out.on z43)
  have Nd := Lib.hid (Fd.out.on z43)
  have Nx := Lib.hid (Fx.out.on z43)
  have Nf := Lib.hid (Ff.out.on z43)
  have Ng := Lib.hid (Fg.out.on z43)
  have Nh := Lib.hid (Fh.out.on z43)
  have Ni := Lib.hid (Fi.out.on z43)
  have NB := Lib.hid (bel_tr BW.out z43)
  clear BW z43 Fa Fb Fc Fd Fx Ff Fg Fh Fi
  have Fa := Na
  have Fb := Nb
  have Fc := Nc
  have Fd := Nd
  have Fx := Nx
  have Ff := Nf
  have Fg := Ng
  have Fh := Nh
  have Fi := Ni
  have BW := NB
  clear NB Na Nb Nc Nd Nx Nf Ng Nh Ni
  go_wp2_with fail
  refine (HOn0.out _).mono ?_
  rintro e v44 ⟨rfl, z44⟩
  have Na := Lib.hid (Fa.out.on z44)
  have Nb := Lib.hid (Fb.out.on z44)
  have Nc := Lib.hid (Fc.out.on z44)
  have Nd := Lib.hid (Fd.out.on z44)
  have Nx := Lib.hid (Fx.out.on z44)
  have Nf := Lib.hid (Ff.out.on z44)
  have Ng := Lib.hid (Fg.out.on z44)
  have Nh := Lib.hid (Fh.out.on z44)
  have Ni := Lib.hid (Fi.out.on z44)
  have NB := Lib.hid (bel_tr BW.out z44)
  clear BW z44 Fa Fb Fc Fd Fx Ff Fg Fh Fi
  have Fa := Na
  have Fb := Nb
  have Fc := Nc
  have Fd := Nd
  have Fx := Nx
  have Ff := Nf
  have Fg := Ng
  have Fh := Nh
  have Fi := Ni
  have BW := NB
  clear NB Na Nb Nc Nd Nx Nf Ng Nh Ni
  go_wp2_with fail
  refine (HOn9.out _).mono ?_
  rintro e v45 ⟨rfl, z45⟩
  have Na := Lib.hid (Fa.out.on z45)
  have Nb := Lib.hid (Fb.out.on z45)
  have Nc := Lib.hid (Fc.out.on z45)
  have Nd := Lib.hid (Fd.out.on z45)
  have Nx := Lib.hid (Fx.out.on z45)
  have Nf := Lib.hid (Ff.out.on z45)
  have Ng := Lib.hid (Fg.out.on z45)
  have Nh := Lib.hid (Fh.out.on z45)
  have Ni := Lib.hid (Fi.out.on z45)
  have NB := Lib.hid (bel_tr BW.out z45)
  clear BW z45 Fa Fb Fc Fd Fx Ff Fg Fh Fi
  have Fa := Na
  have Fb := Nb
  have Fc := Nc
  have Fd := Nd
  have Fx := Nx
  have Ff := Nf
  have Fg := Ng
  have Fh := Nh
  have Fi := Ni
  have BW := NB
  clear NB Na Nb Nc Nd Nx Nf Ng Nh Ni
  go_wp2_with fail
  refine (HE9.out _).mono ?_
  rintro e v46 ⟨rfl, z46⟩
  have Na := Lib.hid (Fa.out.on z46)
  have Nb := Lib.hid (Fb.out.on z46)
  have Nc := Lib.hid (Fc.out.on z46)
  have Nd := Lib.hid (Fd.out.on z46)
  have Nx := Lib.hid (Fx.out.on z46)
  have Nf := Lib.hid (Ff.out.on z46)
  have Ng := Lib.hid (Fg.out.on z46)
  have Nh := Lib.hid (Fh.out.on z46)
  have Ni := Lib.hid (Fi.out.on z46)
  have NB := Lib.hid (bel_tr BW.out z46)
  clear BW z46 Fa Fb Fc Fd Fx Ff Fg Fh Fi
  have Fa := Na
  have Fb := Nb
  have Fc := Nc
  have Fd := Nd
  have Fx := Nx
  have Ff := Nf
  have Fg := Ng
  have Fh := Nh
  have Fi := Ni
  have BW := NB
  clear NB Na Nb Nc Nd Nx Nf Ng Nh Ni
  have La := Fa.out.lt
  have ca0 : v46.cell? ⟨ga, 0, none⟩ = some (.int .u64 (wd n4 0 : Nat)) := Fa.out.cell 0
  have ca1 : v46.cell? ⟨ga, 1, none⟩ = some (.int .u64 (wd n4 1 : Nat)) := Fa.out.cell 1
  have ca2 : v46.cell? ⟨ga, 2, none⟩ = some (.int .u64 (wd n4 2 : Nat)) := Fa.out.cell 2
  have ca3 : v46.cell? ⟨ga, 3, none⟩ = some (.int .u64 (wd n4 3 : Nat)) := Fa.out.cell 3
  go_wp2_with fail
  clear La ca0 ca1 ca2 ca3
  clear Ff
  clear Fg
  clear Fh
  clear Fi
  have Ny : At (v46.alloc (.cells #[.int .u64 (wd n1 0 : Nat), .int .u64 (wd n1 1 : Nat), .int .u64 (wd n1 2 : Nat), .int .u64 (wd n1 3 : Nat)] 24)) (v46.heap.size) 24 #[.int .u64 (wd n1 0 : Nat), .int .u64 (wd n1 1 : Nat), .int .u64 (wd n1 2 : Nat), .int .u64 (wd n1 3 : Nat)] := At.at_ _ _ _ _ (by simp)
  have Na : At (v46.alloc (.cells #[.int .u64 (wd n1 0 : Nat), .int .u64 (wd n1 1 : Nat), .int .u64 (wd n1 2 : Nat), .int .u64 (wd n1 3 : Nat)] 24)) ga 24 #[.int .u64 (wd n4 0 : Nat), .int .u64 (wd n4 1 : Nat), .int .u64 (wd n4 2 : Nat), .int .u64 (wd n4 3 : Nat)] := Fa.out.alloc _
  have Nb : At (v46.alloc (.cells #[.int .u64 (wd n1 0 : Nat), .int .u64 (wd n1 1 : Nat), .int .u64 (wd n1 2 : Nat), .int .u64 (wd n1 3 : Nat)] 24)) gb 24 #[.int .u64 (wd n3 0 : Nat), .int .u64 (wd n3 1 : Nat), .int .u64 (wd n3 2 : Nat), .int .u64 (wd n3 3 : Nat)] := Fb.out.alloc _
  have Nc : At (v46.alloc (.cells #[.int .u64 (wd n1 0 : Nat), .int .u64 (wd n1 1 : Nat), .int .u64 (wd n1 2 : Nat), .int .u64 (wd n1 3 : Nat)] 24)) gc 24 #[.int .u64 (wd n2 0 : Nat), .int .u64 (wd n2 1 : Nat), .int .u64 (wd n2 2 : Nat), .int .u64 (wd n2 3 : Nat)] := Fc.out.alloc _
  have Nd : At (v46.alloc (.cells #[.int .u64 (wd n1 0 : Nat), .int .u64 (wd n1 1 : Nat), .int .u64 (wd n1 2 : Nat), .int .u64 (wd n1 3 : Nat)] 24)) gd 24 #[.int .u64 (wd n1 0 : Nat), .int .u64 (wd n1 1 : Nat), .int .u64 (wd n1 2 : Nat), .int .u64 (wd n1 3 : Nat)] := Fd.out.alloc _
  have Nx : At (v46.alloc (.cells #[.int .u64 (wd n1 0 : Nat), .int .u64 (wd n1 1 : Nat), .int .u64 (wd n1 2 : Nat), .int .u64 (wd n1 3 : Nat)] 24)) gx 24 #[.int .u64 (wd n5 0 : Nat), .int .u64 (wd n5 1 : Nat), .int .u64 (wd n5 2 : Nat), .int .u64 (wd n5 3 : Nat)] := Fx.out.alloc _
  have NB : Below w.heap.size w (v46.alloc (.cells #[.int .u64 (wd n1 0 : Nat), .int .u64 (wd n1 1 : Nat), .int .u64 (wd n1 2 : Nat), .int .u64 (wd n1 3 : Nat)] 24)) := gr_alloc BW.out _
  clear BW Fa Fb Fc Fd Fx
  generalize (v46.alloc (.cells #[.int .u64 (wd n1 0 : Nat), .int .u64 (wd n1 1 : Nat), .int .u64 (wd n1 2 : Nat), .int .u64 (wd n1 3 : Nat)] 24)) = W47 at *
  generalize v46.heap.size = gy at *
  have Fa := Lib.hid Na
  have Fb := Lib.hid Nb
  have Fc := Lib.hid Nc
  have Fd := Lib.hid Nd
  have Fx := Lib.hid Nx
  have Fy := Lib.hid Ny
  have BW := Lib.hid NB
  clear NB Na Nb Nc Nd Nx Ny
  refine (HI4.out _).mono ?_
  rintro e v48 ⟨rfl, z48⟩
  have Na := Lib.hid (Fa.out.on z48)
  have Nb := Lib.hid (Fb.out.on z48)
  have Nc := Lib.hid (Fc.out.on z48)
  have Nd := Lib.hid (Fd.out.on z48)
  have Nx := Lib.hid (Fx.out.on z48)
  have Ny := Lib.hid (Fy.out.on z48)
  have NB := Lib.hid (bel_tr BW.out z48)
  clear BW z48 Fa Fb Fc Fd Fx Fy
  have Fa := Na
  have Fb := Nb
  have Fc := Nc
  have Fd := Nd
  have Fx := Nx
  have Fy := Ny
  have BW := NB
  clear NB Na Nb Nc Nd Nx Ny
  have Lb := Fb.out.lt
  have cb0 : v48.cell? ⟨gb, 0, none⟩ = some (.int .u64 (wd n3 0 : Nat)) := Fb.out.cell 0
  have cb1 : v48.cell? ⟨gb, 1, none⟩ = some (.int .u64 (wd n3 1 : Nat)) := Fb.out.cell 1
  have cb2 : v48.cell? ⟨gb, 2, none⟩ = some (.int .u64 (wd n3 2 : Nat)) := Fb.out.cell 2
  have cb3 : v48.cell? ⟨gb, 3, none⟩ = some (.int .u64 (wd n3 3 : Nat)) := Fb.out.cell 3
  go_wp2_with fail
  clear Lb cb0 cb1 cb2 cb3
  refine (HI3.out _).mono ?_
  rintro e v49 ⟨rfl, z49⟩
  have Na := Lib.hid (Fa.out.on z49)
  have Nb := Lib.hid (Fb.out.on z49)
  have Nc := Lib.hid (Fc.out.on z49)
  have Nd := Lib.hid (Fd.out.on z49)
  have Nx := Lib.hid (Fx.out.on z49)
  have Ny := Lib.hid (Fy.out.on z49)
  have NB := Lib.hid (bel_tr BW.out z49)
  clear BW z49 Fa Fb Fc Fd Fx Fy
  have Fa := Na
  have Fb := Nb
  have Fc := Nc
  have Fd := Nd
  have Fx := Nx
  have Fy := Ny
  have BW := NB
  clear NB Na Nb Nc Nd Nx Ny
  have Lc := Fc.out.lt
  have cc0 : v49.cell? ⟨gc, 0, none⟩ = some (.int .u64 (wd n2 0 : Nat)) := Fc.out.cell 0
  have cc1 : v49.cell? ⟨gc, 1, none⟩ = some (.int .u64 (wd n2 1 : Nat)) := Fc.out.cell 1
  have cc2 : v49.cell? ⟨gc, 2, none⟩ = some (.int .u64 (wd n2 2 : Nat)) := Fc.out.cell 2
  have cc3 : v49.cell? ⟨gc, 3, none⟩ = some (.int .u64 (wd n2 3 : Nat)) := Fc.out.cell 3
  go_wp2_with fail
  clear Lc cc0 cc1 cc2 cc3
  refine (HI2.out _).mono ?_
  rintro e v50 ⟨rfl, z50⟩
  have Na := Lib.hid (Fa.out.on z50)
  have Nb := Lib.hid (Fb.out.on z50)
  have Nc := Lib.hid (Fc.out.on z50)
  have Nd := Lib.hid (Fd.out.on z50)
  have Nx := Lib.hid (Fx.out.on z50)
  have Ny := Lib.hid (Fy.out.on z50)
  have NB := Lib.hid (bel_tr BW.out z50)
  clear BW z50 Fa Fb Fc Fd Fx Fy
  have Fa := Na
  have Fb := Nb
  have Fc := Nc
  have Fd := Nd
  have Fx := Nx
  have Fy := Ny
  have BW := NB
  clear NB Na Nb Nc Nd Nx Ny
  have Ld := Fd.out.lt
  have cd0 : v50.cell? ⟨gd, 0, none⟩ = some (.int .u64 (wd n1 0 : Nat)) := Fd.out.cell 0
  have cd1 : v50.cell? ⟨gd, 1, none⟩ = some (.int .u64 (wd n1 1 : Nat)) := Fd.out.cell 1
  have cd2 : v50.cell? ⟨gd, 2, none⟩ = some (.int .u64 (wd n1 2 : Nat)) := Fd.out.cell 2
  have cd3 : v50.cell? ⟨gd, 3, none⟩ = some (.int .u64 (wd n1 3 : Nat)) := Fd.out.cell 3
  go_wp2_with fail
  clear Ld cd0 cd1 cd2 cd3
  refine (HI1.out _).mono ?_
  rintro e v51 ⟨rfl, z51⟩
  have Na := Lib.hid (Fa.out.on z51)
  have Nb := Lib.hid (Fb.out.on z51)
  have Nc := Lib.hid (Fc.out.on z51)
  have Nd := Lib.hid (Fd.out.on z51)
  have Nx := Lib.hid (Fx.out.on z51)
  have Ny := Lib.hid (Fy.out.on z51)
  have NB := Lib.hid (bel_tr BW.out z51)
  clear BW z51 Fa Fb Fc Fd Fx Fy
  have Fa := Na
  have Fb := Nb
  have Fc := Nc
  have Fd := Nd
  have Fx := Nx
  have Fy := Ny
  have BW := NB
  clear NB Na Nb Nc Nd Nx Ny
  have Lx := Fx.out.lt
  have cx0 : v51.cell? ⟨gx, 0, none⟩ = some (.int .u64 (wd n5 0 : Nat)) := Fx.out.cell 0
  have cx1 : v51.cell? ⟨gx, 1, none⟩ = some (.int .u64 (wd n5 1 : Nat)) := Fx.out.cell 1
  have cx2 : v51.cell? ⟨gx, 2, none⟩ = some (.int .u64 (wd n5 2 : Nat)) := Fx.out.cell 2
  have cx3 : v51.cell? ⟨gx, 3, none⟩ = some (.int .u64 (wd n5 3 : Nat)) := Fx.out.cell 3
  go_wp2_with fail
  clear Lx cx0 cx1 cx2 cx3
  refine (HI5.out _).mono ?_
  rintro e v52 ⟨rfl, z52⟩
  have Na := Lib.hid (Fa.out.on z52)
  have Nb := Lib.hid (Fb.out.on z52)
  have Nc := Lib.hid (Fc.out.on z52)
  have Nd := Lib.hid (Fd.out.on z52)
  have Nx := Lib.hid (Fx.out.on z52)
  have Ny := Lib.hid (Fy.out.on z52)
  have NB := Lib.hid (bel_tr BW.out z52)
  clear BW z52 Fa Fb Fc Fd Fx Fy
  have Fa := Na
  have Fb := Nb
  have Fc := Nc
  have Fd := Nd
  have Fx := Nx
  have Fy := Ny
  have BW := NB
  clear NB Na Nb Nc Nd Nx Ny
  have Ly := Fy.out.lt
  have cy0 : v52.cell? ⟨gy, 0, none⟩ = some (.int .u64 (wd n1 0 : Nat)) := Fy.out.cell 0
  have cy1 : v52.cell? ⟨gy, 1, none⟩ = some (.int .u64 (wd n1 1 : Nat)) := Fy.out.cell 1
  have cy2 : v52.cell? ⟨gy, 2, none⟩ = some (.int .u64 (wd n1 2 : Nat)) := Fy.out.cell 2
  have cy3 : v52.cell? ⟨gy, 3, none⟩ = some (.int .u64 (wd n1 3 : Nat)) := Fy.out.cell 3
  go_wp2_with fail
  clear Ly cy0 cy1 cy2 cy3
  refine (HI1.out _).mono ?_
  rintro e v53 ⟨rfl, z53⟩
  have Na := Lib.hid (Fa.out.on z53)
  have Nb := Lib.hid (Fb.out.on z53)
  have Nc := Lib.hid (Fc.out.on z53)
  have Nd := Lib.hid (Fd.out.on z53)
  have Nx := Lib.hid (Fx.out.on z53)
  have Ny := Lib.hid (Fy.out.on z53)
  have NB := Lib.hid (bel_tr BW.out z53)
  clear BW z53 Fa Fb Fc Fd Fx Fy
  have Fa := Na
  have Fb := Nb
  have Fc := Nc
  have Fd := Nd
  have Fx := Nx
  have Fy := Ny
  have BW := NB
  clear NB Na Nb Nc Nd Nx Ny
  go_wp2_with fail
  go_ret
  exact ⟨rfl, BW.out⟩

/-- balefirelaw04.alive -/
theorem alive4_any (w : World) : Calls Try.prog 29 #[] w fun e w' => e = .returned (.bool true) ∧ Below w.heap.size w w' :=
  alive4_walk 0 1 2 3 4 5 6 7 9
    (fun w => ofM_any 0 (by decide) w)
    (fun w => ofM_any 1 (by decide) w)
    (fun w => ofM_any 2 (by decide) w)
    (fun w => ofM_any 3 (by decide) w)
    (fun w => ofM_any 4 (by decide) w)
    (fun w => ofM_any 5 (by decide) w)
    (fun w => ofM_any 6 (by decide) w)
    (fun w => ofM_any 7 (by decide) w)
    (fun w => ofM_any 9 (by decide) w)
    (madd_yes 5 6 7 (by decide) (by decide) (by decide) (by decide))
    (msub_yes 2 6 7 (by decide) (by decide) (by decide) (by decide))
    (mmul_yes 5 6 7 (by decide) (by decide) (by decide) (by decide))
    (mexp_yes 3 6 7 (by decide) (by decide) (by decide) (by decide))
    (minv_yes 3 7 5 (by decide) (by decide) (by decide) (by decide) (by decide))
    (madd_no 7 0 7 (by decide) (by decide) (by decide) (by decide))
    (mmul_no 0 0 1 (by decide) (by decide) (by decide) (by decide))
    (minv_none 2 4 (by decide) (by decide) (by decide) (by decide))
    (minv_none 0 5 (by decide) (by decide) (by decide) (by decide))
    (mexp_yes 0 0 9 (by decide) (by decide) (by decide) (by decide))
    (fun w => isM 4 _ (fun w => ofM_any 4 (by decide) w) w)
    (fun w => isM 3 _ (fun w => ofM_any 3 (by decide) w) w)
    (fun w => isM 2 _ (fun w => ofM_any 2 (by decide) w) w)
    (fun w => isM 1 _ (fun w => ofM_any 1 (by decide) w) w)
    (fun w => isM 5 _ (fun w => ofM_any 5 (by decide) w) w) w
end Go.Proofs.Ytmhmdbjjmmmgkaa
