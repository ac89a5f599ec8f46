/-
  mods: Add, Sub, Mul, Exp, Inv.
-/
import Derived.Test.YtodlpmepoakdlaaVMod10
import Derived.Test.YtodlpmepoakdlaaVMod9
import Derived.Test.YtodlpmepoakdlaaVSmall
namespace Go.Proofs.Ytodlpmepoakdlaa
set_option maxRecDepth 100000
open Go.RowKit
set_option linter.unusedSimpArgs false
set_option linter.unusedVariables false
attribute [local go_sem ↓] Go.wp_at_zero Go.wp_at_succ

set_option maxRecDepth 100000 in
set_option maxHeartbeats 8000000 in
theorem subw (A B M V : Nat) (er : Int)
    (c1 : ∀ w, Calls Try.prog 54 #[.agg #[.func (.func 55) #[] #[]], num A, num B, num M] w fun e w' => e = .returned (.tuple #[num V, .int .i64 er]) ∧ Below w.heap.size w w')
    (w : World) : Calls Try.prog 34 #[num A, num B, num M] w fun e w' => e = .returned (.tuple #[num V, .int .i64 er]) ∧ Below w.heap.size w w' := by
  have Hc1 := Lib.hid c1
  clear c1
  go_enter Try.func34, Try.ntmps34
  go_wp2_with fail
  have BW := Lib.hid (Below.refl w.heap.size w)
  generalize hW1 : ((((w.alloc (.cells #[.int .u64 (wd A 0 : Nat), .int .u64 (wd A 1 : Nat), .int .u64 (wd A 2 : Nat), .int .u64 (wd A 3 : Nat)] 24)).alloc (.cells #[.int .u64 (wd B 0 : Nat), .int .u64 (wd B 1 : Nat), .int .u64 (wd B 2 : Nat), .int .u64 (wd B 3 : Nat)] 24)).alloc (.cells #[.int .u64 (wd M 0 : Nat), .int .u64 (wd M 1 : Nat), .int .u64 (wd M 2 : Nat), .int .u64 (wd M 3 : Nat)] 24)).alloc (.cells #[.int .u64 0, .int .u64 0, .int .u64 0, .int .u64 0] 24)) = W1 at *
  have Na : At W1 (w.heap.size) _ _ := at_of hW1 ((((At.at_ _ _ _ _ (by simp)).alloc _).alloc _).alloc _)
  have Nb : At W1 (w.heap.size + 1) _ _ := at_of hW1 (((At.at_ _ _ _ _ (by simp)).alloc _).alloc _)
  have Nm : At W1 (w.heap.size + 1 + 1) _ _ := at_of hW1 ((At.at_ _ _ _ _ (by simp)).alloc _)
  have No : At W1 (w.heap.size + 1 + 1 + 1) _ _ := at_of hW1 (At.at_ _ _ _ _ (by simp))
  have Eo : w.heap.size ≤ w.heap.size + 1 + 1 + 1 := by have := BW.out.size; omega
  have Dao : w.heap.size ≠ w.heap.size + 1 + 1 + 1 := by omega
  have Dbo : w.heap.size + 1 ≠ w.heap.size + 1 + 1 + 1 := by omega
  have Dmo : w.heap.size + 1 + 1 ≠ w.heap.size + 1 + 1 + 1 := by omega
  have NB := gr_of hW1 (gr_alloc (gr_alloc (gr_alloc (gr_alloc BW.out _) _) _) _)
  clear BW
  clear hW1
  generalize w.heap.size + 1 + 1 + 1 = go at *
  generalize w.heap.size + 1 + 1 = gm at *
  generalize w.heap.size + 1 = gb at *
  obtain ⟨ga, hg0⟩ : ∃ g, g = w.heap.size := ⟨_, rfl⟩
  rw [← hg0] at Na ⊢
  rw [← hg0] at Dao
  clear hg0
  have Fa := Lib.hid Na
  have Fb := Lib.hid Nb
  have Fm := Lib.hid Nm
  have Fo := Lib.hid No
  have BW := Lib.hid NB
  clear NB Na Nb Nm No
  refine (Hc1.out _).mono ?_
  rintro e v2 ⟨rfl, z2⟩
  have Na := Lib.hid (Fa.out.on z2)
  have Nb := Lib.hid (Fb.out.on z2)
  have Nm := Lib.hid (Fm.out.on z2)
  have No := Lib.hid (Fo.out.on z2)
  have NB := Lib.hid (bel_tr BW.out z2)
  clear BW z2 Fa Fb Fm Fo
  have Fa := Na
  have Fb := Nb
  have Fm := Nm
  have Fo := No
  have BW := NB
  clear NB Na Nb Nm No
  have Lo := Fo.out.lt
  have co0 : v2.cell? ⟨go, 0, none⟩ = some (.int .u64 0) := Fo.out.cell 0
  have co1 : v2.cell? ⟨go, 1, none⟩ = some (.int .u64 0) := Fo.out.cell 1
  have co2 : v2.cell? ⟨go, 2, none⟩ = some (.int .u64 0) := Fo.out.cell 2
  have co3 : v2.cell? ⟨go, 3, none⟩ = some (.int .u64 0) := Fo.out.cell 3
  have fo0 : v2.frozen? ⟨go, 0, none⟩ = false := Fo.out.frozen 0
  have fo1 : v2.frozen? ⟨go, 1, none⟩ = false := Fo.out.frozen 1
  have fo2 : v2.frozen? ⟨go, 2, none⟩ = false := Fo.out.frozen 2
  have fo3 : v2.frozen? ⟨go, 3, none⟩ = false := Fo.out.frozen 3
  go_wp2_with fail
  generalize hW3 : ((((v2.setCell ⟨go, 0, none⟩ (.int .u64 (wd V 0 : Nat))).setCell ⟨go, 1, none⟩ (.int .u64 (wd V 1 : Nat))).setCell ⟨go, 2, none⟩ (.int .u64 (wd V 2 : Nat))).setCell ⟨go, 3, none⟩ (.int .u64 (wd V 3 : Nat))) = W3 at *
  clear Lo co0 co1 co2 co3 fo0 fo1 fo2 fo3
  have Na_0 := at_of hW3 ((Fa.out).far4 Dao _ _ _ _)
  have Nb_0 := at_of hW3 ((Fb.out).far4 Dbo _ _ _ _)
  have Nm_0 := at_of hW3 ((Fm.out).far4 Dmo _ _ _ _)
  have No_0 := at_of hW3 ((Fo.out).put4 _ _ _ _)
  have NB_0 := gr_of hW3 (((((BW.out).setCell Eo _).setCell Eo _).setCell Eo _).setCell Eo _)
  have Na := Na_0
  have Nb := Nb_0
  have Nm := Nm_0
  have No := No_0
  have NB := NB_0
  clear BW Fa Fb Fm Fo Na_0 Nb_0 Nm_0 No_0 NB_0
  clear hW3
  have Fa := Lib.hid Na
  have Fb := Lib.hid Nb
  have Fm := Lib.hid Nm
  have Fo := Lib.hid No
  have BW := Lib.hid NB
  clear NB Na Nb Nm No
  have Lo := Fo.out.lt
  have co0 := Fo.out.c0
  have co1 := Fo.out.c1
  have co2 := Fo.out.c2
  have co3 := Fo.out.c3
  refine bodyPost_ret (v := .tuple #[num V, .int .i64 er]) (by simp [results, Try.results34, go_sem, *]) rfl ⟨rfl, BW.out⟩

set_option maxRecDepth 100000 in
set_option maxHeartbeats 8000000 in
theorem expw (A N M V : Nat) (er : Int)
    (c1 : ∀ (gn : Nat) (w : World), At w gn 24 #[.int .u64 (wd N 0 : Nat), .int .u64 (wd N 1 : Nat), .int .u64 (wd N 2 : Nat), .int .u64 (wd N 3 : Nat)] → Calls Try.prog 54 #[.agg #[.func (.func 82) #[] #[.pointer (some ⟨gn, 0, none⟩)]], num A, num A, num M] w fun e w' => e = .returned (.tuple #[num V, .int .i64 er]) ∧ Below w.heap.size w w')
    (w : World) : Calls Try.prog 72 #[num A, num N, num M] w fun e w' => e = .returned (.tuple #[num V, .int .i64 er]) ∧ Below w.heap.size w w' := by
  have Hc1 := Lib.hid c1
  clear c1
  go_enter Try.func72, Try.ntmps72
  go_wp2_with fail
  have BW := Lib.hid (Below.refl w.heap.size w)
  generalize hW1 : ((((w.alloc (.cells #[.int .u64 (wd A 0 : Nat), .int .u64 (wd A 1 : Nat), .int .u64 (wd A 2 : Nat), .int .u64 (wd A 3 : Nat)] 24)).alloc (.cells #[.int .u64 (wd N 0 : Nat), .int .u64 (wd N 1 : Nat), .int .u64 (wd N 2 : Nat), .int .u64 (wd N 3 : Nat)] 24)).alloc (.cells #[.int .u64 (wd M 0 : Nat), .int .u64 (wd M 1 : Nat), .int .u64 (wd M 2 : Nat), .int .u64 (wd M 3 : Nat)] 24)).alloc (.cells #[.int .u64 0, .int .u64 0, .int .u64 0, .int .u64 0] 24)) = W1 at *
  have Na : At W1 (w.heap.size) _ _ := at_of hW1 ((((At.at_ _ _ _ _ (by simp)).alloc _).alloc _).alloc _)
  have Nn : At W1 (w.heap.size + 1) _ _ := at_of hW1 (((At.at_ _ _ _ _ (by simp)).alloc _).alloc _)
  have Nm : At W1 (w.heap.size + 1 + 1) _ _ := at_of hW1 ((At.at_ _ _ _ _ (by simp)).alloc _)
  have No : At W1 (w.heap.size + 1 + 1 + 1) _ _ := at_of hW1 (At.at_ _ _ _ _ (by simp))
  have Eo : w.heap.size ≤ w.heap.size + 1 + 1 + 1 := by have := BW.out.size; omega
  have Dao : w.heap.size ≠ w.heap.size + 1 + 1 + 1 := by omega
  have Dno : w.heap.size + 1 ≠ w.heap.size + 1 + 1 + 1 := by omega
  have Dmo : w.heap.size + 1 + 1 ≠ w.heap.size + 1 + 1 + 1 := by omega
  have NB := gr_of hW1 (gr_alloc (gr_alloc (gr_alloc (gr_alloc BW.out _) _) _) _)
  clear BW
  clear hW1
  generalize w.heap.size + 1 + 1 + 1 = go at *
  generalize w.heap.size + 1 + 1 = gm at *
  generalize w.heap.size + 1 = gn at *
  obtain ⟨ga, hg0⟩ : ∃ g, g = w.heap.size := ⟨_, rfl⟩
  rw [← hg0] at Na ⊢
  rw [← hg0] at Dao
  clear hg0
  have Fa := Lib.hid Na
  have Fn := Lib.hid Nn
  have Fm := Lib.hid Nm
  have Fo := Lib.hid No
  have BW := Lib.hid NB
  clear NB Na Nn Nm No
  refine (Hc1.out _ _ Fn.out).mono ?_
  rintro e v2 ⟨rfl, z2⟩
  have Na := Lib.hid (Fa.out.on z2)
  have Nn := Lib.hid (Fn.out.on z2)
  have Nm := Lib.hid (Fm.out.on z2)
  have No := Lib.hid (Fo.out.on z2)
  have NB := Lib.hid (bel_tr BW.out z2)
  clear BW z2 Fa Fn Fm Fo
  have Fa := Na
  have Fn := Nn
  have Fm := Nm
  have Fo := No
  have BW := NB
  clear NB Na Nn Nm No
  have Lo := Fo.out.lt
  have co0 : v2.cell? ⟨go, 0, none⟩ = some (.int .u64 0) := Fo.out.cell 0
  have co1 : v2.cell? ⟨go, 1, none⟩ = some (.int .u64 0) := Fo.out.cell 1
  have co2 : v2.cell? ⟨go, 2, none⟩ = some (.int .u64 0) := Fo.out.cell 2
  have co3 : v2.cell? ⟨go, 3, none⟩ = some (.int .u64 0) := Fo.out.cell 3
  have fo0 : v2.frozen? ⟨go, 0, none⟩ = false := Fo.out.frozen 0
  have fo1 : v2.frozen? ⟨go, 1, none⟩ = false := Fo.out.frozen 1
  have fo2 : v2.frozen? ⟨go, 2, none⟩ = false := Fo.out.frozen 2
  have fo3 : v2.frozen? ⟨go, 3, none⟩ = false := Fo.out.frozen 3
  go_wp2_with fail
  generalize hW3 : ((((v2.setCell ⟨go, 0, none⟩ (.int .u64 (wd V 0 : Nat))).setCell ⟨go, 1, none⟩ (.int .u64 (wd V 1 : Nat))).setCell ⟨go, 2, none⟩ (.int .u64 (wd V 2 : Nat))).setCell ⟨go, 3, none⟩ (.int .u64 (wd V 3 : Nat))) = W3 at *
  clear Lo co0 co1 co2 co3 fo0 fo1 fo2 fo3
  have Na_0 := at_of hW3 ((Fa.out).far4 Dao _ _ _ _)
  have Nn_0 := at_of hW3 ((Fn.out).far4 Dno _ _ _ _)
  have Nm_0 := at_of hW3 ((Fm.out).far4 Dmo _ _ _ _)
  have No_0 := at_of hW3 ((Fo.out).put4 _ _ _ _)
  have NB_0 := gr_of hW3 (((((BW.out).setCell Eo _).setCell Eo _).setCell Eo _).setCell Eo _)
  have Na := Na_0
  have Nn := Nn_0
  have Nm := Nm_0
  have No := No_0
  have NB := NB_0
  clear BW Fa Fn Fm Fo Na_0 Nn_0 Nm_0 No_0 NB_0
  clear hW3
  have Fa := Lib.hid Na
  have Fn := Lib.hid Nn
  have Fm := Lib.hid Nm
  have Fo := Lib.hid No
  have BW := Lib.hid NB
  clear NB Na Nn Nm No
  have Lo := Fo.out.lt
  have co0 := Fo.out.c0
  have co1 := Fo.out.c1
  have co2 := Fo.out.c2
  have co3 := Fo.out.c3
  refine bodyPost_ret (v := .tuple #[num V, .int .i64 er]) (by simp [results, Try.results72, go_sem, *]) rfl ⟨rfl, BW.out⟩

theorem cmpN_pos {X Y : Nat} (h : Y < X) : 0 < cmpN X Y := by rw [cmpN_gt h]; omega
theorem cmpN_neg {X Y : Nat} (h : X < Y) : cmpN X Y < 0 := by rw [cmpN_lt h]; omega

/-- mods.Sub, of numbers that may be -/
theorem msub_yes (A B M : Nat) (hM : M < 2 ^ 256) (h1 : 1 < M) (hA : A < M) (hB : B < M) : ∀ w, Calls Try.prog 34 #[num A, num B, num M] w fun e w' => e = .returned (.tuple #[num ((A + M - B) % M), .int .i64 0]) ∧ Below w.heap.size w w' := by
  obtain ⟨L, c, hL, hc, he, C⟩ := diff_ex A B M hA hB hM
  have e : (A + M - B) % M = L := by
    have h01 : c = 0 ∨ c = 1 := by omega
    rcases h01 with rfl | rfl
    · rw [show A + M - B = L + M by omega, Nat.add_mod_right, Nat.mod_eq_of_lt hL]
    · rw [show A + M - B = L by omega, Nat.mod_eq_of_lt hL]
  rw [e]
  exact fun w => subw A B M _ _ (fun w => with_difference A B M 1 _ _ _ _ _ (cmpN_pos h1) (cmpN_neg hA) (cmpN_neg hB) (fun w => of_any 1 (by decide) w) (fun w => cmp_any M 1 hM (by decide) w) (fun w => cmp_any A M (by omega) hM w) (fun w => cmp_any B M (by omega) hM w) C w) w
/-- mods.Exp, of a number that may be -/
theorem mexp_yes (A N M : Nat) (hM : M < 2 ^ 256) (hN : N < 2 ^ 256) (h1 : 1 < M) (hA : A < M) : ∀ w, Calls Try.prog 72 #[num A, num N, num M] w fun e w' => e = .returned (.tuple #[num (A ^ N % M), .int .i64 0]) ∧ Below w.heap.size w w' := fun w =>
  expw A N M _ _ (fun gn w at1 => with_power A A M 1 _ N gn _ _ _ _ (cmpN_pos h1) (cmpN_neg hA) (cmpN_neg hA) (fun w => of_any 1 (by decide) w) (fun w => cmp_any M 1 hM (by decide) w) (fun w => cmp_any A M (by omega) hM w) (fun w => cmp_any A M (by omega) hM w) (fun w at2 => expfn_walk gn A A M N _ (fun w => raise_any A N M hA h1 hM hN w) w at2) w at1) w
end Go.Proofs.Ytodlpmepoakdlaa
