/-
 balefireref03.Common: by Euclid, over what the document's Div tells.
-/
import Derived.Test.YtodlpmepoakdlaaMCommon
import Derived.Test.YtodlpmepoakdlaaMMod11
import Derived.Test.YtodlpmepoakdlaaMRDiv
import Derived.Test.YtodlpmepoakdlaaMRWWord
import Derived.Test.YtodlpmepoakdlaaMRWord
import Derived.Test.YtodlpmepoakdlaaMRefE
import Derived.Test.YtodlpmepoakdlaaMShiftN
import Derived.Test.YtodlpmepoakdlaaMTree
namespace Go.Proofs.Ytodlpmepoakdlaa
set_option maxRecDepth 100000
open Go.RowKit
set_option linter.unusedSimpArgs false
set_option linter.unusedVariables false
attribute [local go_sem ↓] Go.wp_at_zero Go.wp_at_succ

set_option maxRecDepth 100000 in
set_option maxHeartbeats 8000000 in
theorem rcommon_any (DV : ∀ X Y : Nat, X < 2 ^ 256 → Y < 2 ^ 256 → Y ≠ 0 → ∃ Q r : Nat, r < Y ∧ X = Q * Y + r ∧ ∀ w, Calls Try.prog 45 #[num X, num Y] w fun e w' => e = .returned (.tuple #[num Q, num r, .int .i64 0]) ∧ Below w.heap.size w w')
  (A B : Nat) (hA : A < 2 ^ 256) (hB : B < 2 ^ 256) (w : World) : Calls Try.prog 62 #[num A, num B] w fun e w' => e = .returned (num (Nat.gcd A B)) ∧ Below w.heap.size w w' := by
 have HDV := Lib.hid DV
 clear DV
 go_enter Try.func62, Try.ntmps62
 go_wp2_with fail
 have BW := Lib.hid (Below.refl w.heap.size w)
 generalize hW1 : (((w.alloc (.cells #[.int .u64 (wd A 0 : Nat), .int .u64 (wd A 1 : Nat), .int .u64 (wd A 2 : Nat), .int .u64 (wd A 3 : Nat)] 24)).alloc (.cells #[.int .u64 (wd B 0 : Nat), .int .u64 (wd B 1 : Nat), .int .u64 (wd B 2 : Nat), .int .u64 (wd B 3 : Nat)] 24)).alloc (.cells #[.int .u64 0, .int .u64 0, .int .u64 0, .int .u64 0] 24)) = W1 at *
 have Na : At W1 (w.heap.size) _ _ := at_of hW1 (((At.at_ _ _ _ _ (by simp)).alloc _).alloc _)
 have Nb : At W1 (w.heap.size + 1) _ _ := at_of hW1 ((At.at_ _ _ _ _ (by simp)).alloc _)
 have Eb : w.heap.size ≤ w.heap.size + 1 := by have := BW.out.size; omega
 have Dab : w.heap.size ≠ w.heap.size + 1 := by omega
 have Nq : At W1 (w.heap.size + 1 + 1) _ _ := at_of hW1 (At.at_ _ _ _ _ (by simp))
 have Eq : w.heap.size ≤ w.heap.size + 1 + 1 := by have := BW.out.size; omega
 have Daq : w.heap.size ≠ w.heap.size + 1 + 1 := by omega
 have Dbq : w.heap.size + 1 ≠ w.heap.size + 1 + 1 := by omega
 have NB := gr_of hW1 (gr_alloc (gr_alloc (gr_alloc BW.out _) _) _)
 clear BW
 clear hW1
 generalize w.heap.size + 1 + 1 = gq at *
 generalize w.heap.size + 1 = gb at *
 obtain ⟨ga, hg0⟩ : ∃ g, g = w.heap.size := ⟨_, rfl⟩
 rw [← hg0] at Na ⊢
 rw [← hg0] at Dab Daq
 have Ea : w.heap.size ≤ ga := by omega
 clear hg0
 have Fa := Lib.hid Na
 have Fb := Lib.hid Nb
 have Fq := Lib.hid Nq
 have BW := Lib.hid NB
 clear NB Na Nb Nq
 go_loopw [] (fun wr => ∃ X Y : Nat, X < 2 ^ 256 ∧ Y < 2 ^ 256 ∧ Hid (At wr ga 24 #[.int .u64 (wd X 0 : Nat), .int .u64 (wd X 1 : Nat), .int .u64 (wd X 2 : Nat), .int .u64 (wd X 3 : Nat)] ∧ At wr gb 24 #[.int .u64 (wd Y 0 : Nat), .int .u64 (wd Y 1 : Nat), .int .u64 (wd Y 2 : Nat), .int .u64 (wd Y 3 : Nat)] ∧ At wr gq 24 #[.int .u64 0, .int .u64 0, .int .u64 0, .int .u64 0] ∧ Below w.heap.size w wr ∧ Nat.gcd X Y = Nat.gcd A B)) (fun wr => blockVal wr gb)
 case atStart => exact ⟨A, B, hA, hB, Fa.out, Fb.out, Fq.out, BW.out, rfl⟩
 case round =>
  obtain ⟨X, Y, hX, hY, hM⟩ := hrel
  clear Fa Fb Fq BW
  have HMS := Lib.hid (hM.out.2.1.val hY)
  have eqz := eqZ Y hY
  by_cases hy : Y = 0
  ·have Fa := Lib.hid hM.out.1; have Fb := Lib.hid hM.out.2.1; have Fq := Lib.hid hM.out.2.2.1; have BW := Lib.hid hM.out.2.2.2.1; have HG := Lib.hid hM.out.2.2.2.2
   clear hM
   rw [decide_eq_true hy] at eqz
   have HY0 := Lib.hid hy
   clear hy
   have Lb := Fb.out.lt
   have cb0 := Fb.out.c0
   have cb1 := Fb.out.c1
   have cb2 := Fb.out.c2
   have cb3 := Fb.out.c3
   have La := Fa.out.lt
   have ca0 := Fa.out.c0
   have ca1 := Fa.out.c1
   have ca2 := Fa.out.c2
   have ca3 := Fa.out.c3
   have Lq := Fq.out.lt
   have cq0 : wr.cell? ⟨gq, 0, none⟩ = some (.int .u64 0) := Fq.out.cell 0
   have cq1 : wr.cell? ⟨gq, 1, none⟩ = some (.int .u64 0) := Fq.out.cell 1
   have cq2 : wr.cell? ⟨gq, 2, none⟩ = some (.int .u64 0) := Fq.out.cell 2
   have cq3 : wr.cell? ⟨gq, 3, none⟩ = some (.int .u64 0) := Fq.out.cell 3
   have fq0 : wr.frozen? ⟨gq, 0, none⟩ = false := Fq.out.frozen 0
   have fq1 : wr.frozen? ⟨gq, 1, none⟩ = false := Fq.out.frozen 1
   have fq2 : wr.frozen? ⟨gq, 2, none⟩ = false := Fq.out.frozen 2
   have fq3 : wr.frozen? ⟨gq, 3, none⟩ = false := Fq.out.frozen 3
   go_wp2_with (simp only [eqz])
   generalize hW2 : ((((wr.setCell ⟨gq, 0, none⟩ (.int .u64 (wd X 0 : Nat))).setCell ⟨gq, 1, none⟩ (.int .u64 (wd X 1 : Nat))).setCell ⟨gq, 2, none⟩ (.int .u64 (wd X 2 : Nat))).setCell ⟨gq, 3, none⟩ (.int .u64 (wd X 3 : Nat))) = W2 at *
   clear Lb cb0 cb1 cb2 cb3 La ca0 ca1 ca2 ca3 Lq cq0 cq1 cq2 cq3 fq0 fq1 fq2 fq3
   have Na_0 := at_of hW2 ((Fa.out).far4 Daq _ _ _ _)
   have Nb_0 := at_of hW2 ((Fb.out).far4 Dbq _ _ _ _)
   have Nq_0 := at_of hW2 ((Fq.out).put4 _ _ _ _)
   have NB_0 := gr_of hW2 (((((BW.out).setCell Eq _).setCell Eq _).setCell Eq _).setCell Eq _)
   have Na := Na_0
   have Nb := Nb_0
   have Nq := Nq_0
   have NB := NB_0
   clear BW Fa Fb Fq Na_0 Nb_0 Nq_0 NB_0
   clear hW2
   have Fa := Lib.hid Na
   have Fb := Lib.hid Nb
   have Fq := Lib.hid Nq
   have BW := Lib.hid NB
   clear NB Na Nb Nq
   have Lq := Fq.out.lt
   have cq0 := Fq.out.c0
   have cq1 := Fq.out.c1
   have cq2 := Fq.out.c2
   have cq3 := Fq.out.c3
   refine bodyPost_ret (v := num X) (by simp [results, Try.results62, go_sem, *]) rfl ⟨by rw [← HG.out, HY0.out, Nat.gcd_zero_right], BW.out⟩
  ·obtain ⟨Q, r, hr, he, C⟩ := HDV.out X Y hX hY hy
   rw [decide_eq_false hy] at eqz
   have HC := Lib.hid C; have HE := Lib.hid he; have HR := Lib.hid hr; have HY := Lib.hid hY
   clear C he hr hY hy
   have Fa := Lib.hid hM.out.1; have Fb := Lib.hid hM.out.2.1; have Fq := Lib.hid hM.out.2.2.1; have BW := Lib.hid hM.out.2.2.2.1; have HG := Lib.hid hM.out.2.2.2.2
   clear hM
   have La := Fa.out.lt
   have ca0 := Fa.out.c0
   have ca1 := Fa.out.c1
   have ca2 := Fa.out.c2
   have ca3 := Fa.out.c3
   have Lb := Fb.out.lt
   have cb0 := Fb.out.c0
   have cb1 := Fb.out.c1
   have cb2 := Fb.out.c2
   have cb3 := Fb.out.c3
   go_wp2_with (simp only [eqz])
   clear La ca0 ca1 ca2 ca3 Lb cb0 cb1 cb2 cb3
   refine (HC.out _).mono ?_
   rintro e v3 ⟨rfl, z3⟩
   have Na := Lib.hid (Fa.out.on z3)
   have Nb := Lib.hid (Fb.out.on z3)
   have Nq := Lib.hid (Fq.out.on z3)
   have NB := Lib.hid (bel_tr BW.out z3)
   clear BW z3 Fa Fb Fq
   have Fa := Na
   have Fb := Nb
   have Fq := Nq
   have BW := NB
   clear NB Na Nb Nq
   have Lb := Fb.out.lt
   have cb0 := Fb.out.c0
   have cb1 := Fb.out.c1
   have cb2 := Fb.out.c2
   have cb3 := Fb.out.c3
   have La := Fa.out.lt
   have ca0 := Fa.out.c0
   have ca1 := Fa.out.c1
   have ca2 := Fa.out.c2
   have ca3 := Fa.out.c3
   have fa0 : v3.frozen? ⟨ga, 0, none⟩ = false := Fa.out.frozen 0
   have fa1 : v3.frozen? ⟨ga, 1, none⟩ = false := Fa.out.frozen 1
   have fa2 : v3.frozen? ⟨ga, 2, none⟩ = false := Fa.out.frozen 2
   have fa3 : v3.frozen? ⟨ga, 3, none⟩ = false := Fa.out.frozen 3
   have Lb := Fb.out.lt
   have cb0 := Fb.out.c0
   have cb1 := Fb.out.c1
   have cb2 := Fb.out.c2
   have cb3 := Fb.out.c3
   have Lb := Fb.out.lt
   have cb0 := Fb.out.c0
   have cb1 := Fb.out.c1
   have cb2 := Fb.out.c2
   have cb3 := Fb.out.c3
   have fb0 : v3.frozen? ⟨gb, 0, none⟩ = false := Fb.out.frozen 0
   have fb1 : v3.frozen? ⟨gb, 1, none⟩ = false := Fb.out.frozen 1
   have fb2 : v3.frozen? ⟨gb, 2, none⟩ = false := Fb.out.frozen 2
   have fb3 : v3.frozen? ⟨gb, 3, none⟩ = false := Fb.out.frozen 3
   go_wp2_with fail
   generalize hW4 : ((((((((v3.setCell ⟨ga, 0, none⟩ (.int .u64 (wd Y 0 : Nat))).setCell ⟨ga, 1, none⟩ (.int .u64 (wd Y 1 : Nat))).setCell ⟨ga, 2, none⟩ (.int .u64 (wd Y 2 : Nat))).setCell ⟨ga, 3, none⟩ (.int .u64 (wd Y 3 : Nat))).setCell ⟨gb, 0, none⟩ (.int .u64 (wd r 0 : Nat))).setCell ⟨gb, 1, none⟩ (.int .u64 (wd r 1 : Nat))).setCell ⟨gb, 2, none⟩ (.int .u64 (wd r 2 : Nat))).setCell ⟨gb, 3, none⟩ (.int .u64 (wd r 3 : Nat))) = W4 at *
   clear Lb cb0 cb1 cb2 cb3 La ca0 ca1 ca2 ca3 fa0 fa1 fa2 fa3 fb0 fb1 fb2 fb3
   have Na_1 := at_of hW4 ((((Fa.out).put4 _ _ _ _)).far4 Dab _ _ _ _)
   have Nb_1 := at_of hW4 ((((Fb.out).far4 Dab.symm _ _ _ _)).put4 _ _ _ _)
   have Nq_1 := at_of hW4 ((((Fq.out).far4 Daq.symm _ _ _ _)).far4 Dbq.symm _ _ _ _)
   have NB_1 := gr_of hW4 ((((((((((BW.out).setCell Ea _).setCell Ea _).setCell Ea _).setCell Ea _)).setCell Eb _).setCell Eb _).setCell Eb _).setCell Eb _)
   have Na := Na_1
   have Nb := Nb_1
   have Nq := Nq_1
   have NB := NB_1
   clear BW Fa Fb Fq Na_1 Nb_1 Nq_1 NB_1
   clear hW4
   have Fa := Lib.hid Na
   have Fb := Lib.hid Nb
   have Fq := Lib.hid Nq
   have BW := Lib.hid NB
   generalize hW5 : ((W4.alloc (.cells #[.int .u64 (wd Q 0 : Nat), .int .u64 (wd Q 1 : Nat), .int .u64 (wd Q 2 : Nat), .int .u64 (wd Q 3 : Nat)] 24)).alloc (.cells #[.int .u64 (wd r 0 : Nat), .int .u64 (wd r 1 : Nat), .int .u64 (wd r 2 : Nat), .int .u64 (wd r 3 : Nat)] 24)) = W5 at *
   clear NB Na Nb Nq
   have Nh : At W5 (W4.heap.size) _ _ := at_of hW5 ((At.at_ _ _ _ _ (by simp)).alloc _)
   have Dah : ga ≠ W4.heap.size := by have := Fa.out.lt; omega
   have Dbh : gb ≠ W4.heap.size := by have := Fb.out.lt; omega
   have Dqh : gq ≠ W4.heap.size := by have := Fq.out.lt; omega
   have Nl : At W5 (W4.heap.size + 1) _ _ := at_of hW5 (At.at_ _ _ _ _ (by simp))
   have Dal : ga ≠ W4.heap.size + 1 := by have := Fa.out.lt; omega
   have Dbl : gb ≠ W4.heap.size + 1 := by have := Fb.out.lt; omega
   have Dql : gq ≠ W4.heap.size + 1 := by have := Fq.out.lt; omega
   have Na := at_of hW5 ((Fa.out.alloc _).alloc _)
   have Nb := at_of hW5 ((Fb.out.alloc _).alloc _)
   have Nq := at_of hW5 ((Fq.out.alloc _).alloc _)
   have NB := gr_of hW5 (gr_alloc (gr_alloc BW.out _) _)
   clear BW Fa Fb Fq
   clear hW5
   generalize W4.heap.size + 1 = gl at *
   generalize W4.heap.size = gh at *
   have Fa := Lib.hid Na
   have Fb := Lib.hid Nb
   have Fq := Lib.hid Nq
   have Fh := Lib.hid Nh
   have Fl := Lib.hid Nl
   have BW := Lib.hid NB
   clear NB Na Nb Nq Nh Nl
   go_roundw
   case rel =>
    have hr := HR.out
    have hY := HY.out
    refine ⟨Y, r, hY, by omega, Fa.out, Fb.out, Fq.out, BW.out, ?_⟩
    rw [← HG.out, HE.out, Nat.gcd_comm (Q * Y + r), Nat.mul_comm Q Y]
    simp
   case measure =>
    have hr := HR.out
    have hY := HY.out
    rw [HMS.out, Fb.out.val (by omega)]; exact hr
end Go.Proofs.Ytodlpmepoakdlaa

/-
 The walk of DividesOf: it answers true, and nothing that was there is changed.
-/
namespace Go.Proofs.Ytodlpmepoakdlaa
set_option maxRecDepth 100000
open Go.RowKit
set_option linter.unusedSimpArgs false
set_option linter.unusedVariables false
attribute [local go_sem ↓] Go.wp_at_zero Go.wp_at_succ

theorem rcom_any (X Y : Nat) (hX : X < 2 ^ 256) (hY : Y < 2 ^ 256) (w : World) : Calls Try.prog 62 #[num X, num Y] w fun e w' => e = .returned (num (Nat.gcd X Y)) ∧ Below w.heap.size w w' := by
 refine rcommon_any (fun A B hA hB h0 => ?_) X Y hX hY w
 have hB0 : 0 < B := by omega
 exact ⟨A / B, A % B, Nat.mod_lt _ hB0, by rw [Nat.mul_comm]; exact (Nat.div_add_mod _ _).symm, fun w => rdiv_any A B hA hB h0 w⟩
end Go.Proofs.Ytodlpmepoakdlaa

/-
 The walk of ModsOf: it answers true, and nothing that was there is changed.
-/
namespace Go.Proofs.Ytodlpmepoakdlaa
set_option maxRecDepth 100000
open Go.RowKit
set_option linter.unusedSimpArgs false
set_option linter.unusedVariables false
attribute [local go_sem ↓] Go.wp_at_zero Go.wp_at_succ

theorem both_add (A B M : Nat) (hA : A < 2 ^ 256) (hB : B < 2 ^ 256) (hM : M < 2 ^ 256) : ∃ (x : Nat) (e1 : Int), (∀ w, Calls Try.prog 33 #[num A, num B, num M] w fun e w' => e = .returned (.tuple #[num x, .int .i64 e1]) ∧ Below w.heap.size w w') ∧ (∀ w, Calls Try.prog 37 #[num A, num B, num M] w fun e w' => e = .returned (.tuple #[num x, .int .i64 e1]) ∧ Below w.heap.size w w') := by
 by_cases h : 1 < M ∧ A < M ∧ B < M
 ·exact ⟨_, 0, madd_yes A B M hM h.1 h.2.1 h.2.2, ra_yes A B M hM h.1 h.2.1 h.2.2⟩
 ·exact ⟨0, 1, madd_no A B M hA hB hM h, ra_no A B M hA hB hM h⟩
theorem both_sub (A B M : Nat) (hA : A < 2 ^ 256) (hB : B < 2 ^ 256) (hM : M < 2 ^ 256) : ∃ (y : Nat) (e2 : Int), (∀ w, Calls Try.prog 34 #[num A, num B, num M] w fun e w' => e = .returned (.tuple #[num y, .int .i64 e2]) ∧ Below w.heap.size w w') ∧ (∀ w, Calls Try.prog 38 #[num A, num B, num M] w fun e w' => e = .returned (.tuple #[num y, .int .i64 e2]) ∧ Below w.heap.size w w') := by
 by_cases h : 1 < M ∧ A < M ∧ B < M
 ·exact ⟨_, 0, msub_yes A B M hM h.1 h.2.1 h.2.2, rs_yes A B M hM h.1 h.2.1 h.2.2⟩
 ·exact ⟨0, 1, msub_no A B M hA hB hM h, rs_no A B M hA hB hM h⟩
theorem both_mul (A B M : Nat) (hA : A < 2 ^ 256) (hB : B < 2 ^ 256) (hM : M < 2 ^ 256) : ∃ (z : Nat) (e3 : Int), (∀ w, Calls Try.prog 35 #[num A, num B, num M] w fun e w' => e = .returned (.tuple #[num z, .int .i64 e3]) ∧ Below w.heap.size w w') ∧ (∀ w, Calls Try.prog 39 #[num A, num B, num M] w fun e w' => e = .returned (.tuple #[num z, .int .i64 e3]) ∧ Below w.heap.size w w') := by
 by_cases h : 1 < M ∧ A < M ∧ B < M
 ·exact ⟨_, 0, mmul_yes A B M hM h.1 h.2.1 h.2.2, rm_yes A B M hM h.1 h.2.1 h.2.2⟩
 ·exact ⟨0, 1, mmul_no A B M hA hB hM h, rm_no A B M hA hB hM h⟩
theorem both_inv (A B M : Nat) (hA : A < 2 ^ 256) (hB : B < 2 ^ 256) (hM : M < 2 ^ 256) : ∃ (v : Nat) (e5 : Int), (∀ w, Calls Try.prog 36 #[num A, num M] w fun e w' => e = .returned (.tuple #[num v, .int .i64 e5]) ∧ Below w.heap.size w w') ∧ (∀ w, Calls Try.prog 40 #[num A, num M] w fun e w' => e = .returned (.tuple #[num v, .int .i64 e5]) ∧ Below w.heap.size w w') := by
 by_cases h : 1 < M ∧ A < M
 ·have hm : ∀ w, Calls Try.prog 58 #[num A, num A, num M] w fun e w' => e = .returned (.bool true) ∧ Below w.heap.size w w' := fun w => by
   have := may_any A A M hA hA hM w
   rw [show decide (1 < M ∧ A < M ∧ A < M) = true from decide_eq_true ⟨h.1, h.2, h.2⟩] at this
   exact this
  have CO := fun w => rof1_any 1 (by decide) w
  have CC := fun w => rcom_any A M hA hM w
  by_cases hg : Nat.gcd A M = 1
  ·obtain ⟨V, hV, hAV⟩ := inv_there A M h.1 hg
   rw [hg] at CC
   exact ⟨V, 0, minv_yes A M V hM h.1 h.2 hV hAV, fun w => ri_some A M V h.2 h.1 hM hg hV hAV hm CC CO w⟩
  ·have hgl : Nat.gcd A M < 2 ^ 256 := Nat.lt_of_le_of_lt (Nat.gcd_le_right _ (by omega)) hM
   refine ⟨0, 7, minv_none A M hM h.1 h.2 hg, fun w => ?_⟩
   have := ri_none A M _ hm CC CO (fun w => by rw [eqN _ 1 hgl (by decide)]; simp [hg]) w
   rwa [← num_zero] at this
 ·refine ⟨0, 1, minv_no A M hA hM h, fun w => ?_⟩
  have := ri_no A M (fun w => may_no A A M hA hA hM (fun h' => h ⟨h'.1, h'.2.1⟩) w) w
  rwa [← num_zero] at this
end Go.Proofs.Ytodlpmepoakdlaa
