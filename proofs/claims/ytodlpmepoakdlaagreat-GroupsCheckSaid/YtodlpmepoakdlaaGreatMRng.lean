import Derived.Deep.Cut
import Derived.RangeFuncNested
import Derived.RangeFuncLeaves
import Derived.Shelf.Abstract
import Derived.WalkKit
import Derived.OwnWalkIn
import Derived.TacticsInMore
import Derived.LoopNIn
import Derived.LoopIn
import Derived.Stop.RegionWithIn
import Derived.Test.YtodlpmepoakdlaaGreatMAdd
import Derived.Test.YtodlpmepoakdlaaGreatMMod9
import Derived.Test.YtodlpmepoakdlaaGreatMRCore2
import Derived.Test.YtodlpmepoakdlaaGreatMSmall
namespace Go.Proofs.YtodlpmepoakdlaaGreat
set_option maxRecDepth 100000
set_option maxHeartbeats 8000000
open Go.RowKit
set_option linter.unusedSimpArgs false
set_option linter.unusedVariables false
attribute [local go_sem ↓] Go.wp_at_zero Go.wp_at_succ

theorem subw (A B M V : Nat) (er : Int)
  (c1 : ∀ w, Calls Tryz.prog 40 #[.agg #[.func (.func 96) #[] #[]], num A, num B, num M] w fun e w' => e = .returned (.tuple #[num V, .int .i64 er]) ∧ Below w.heap.size w w')
  (w : World) : Calls Tryz.prog 89 #[num A, num B, num M] w fun e w' => e = .returned (.tuple #[num V, .int .i64 er]) ∧ Below w.heap.size w w' := by
 have Hc1 := Jfg c1
 clear c1
 go_enter Tryz.func89, Tryz.ntmps89
 go_wp2_with fail
 have BW := Jfg (Below.refl w.heap.size w)
 generalize hW1 : ((((w.alloc (.cells (ncs A) 24)).alloc (.cells (ncs B) 24)).alloc (.cells (ncs M) 24)).alloc (.cells #[.int .u64 0, .int .u64 0, .int .u64 0, .int .u64 0] 24)) = W1 at *
 have Na : At W1 (w.heap.size) _ _ := Jb hW1 ((((At.at_ _ _ _ _ (by simp)).alloc _).alloc _).alloc _)
 have Nb : At W1 (w.heap.size + 1) _ _ := Jb hW1 (((At.at_ _ _ _ _ (by simp)).alloc _).alloc _)
 have Nm : At W1 (w.heap.size + 1 + 1) _ _ := Jb hW1 ((At.at_ _ _ _ _ (by simp)).alloc _)
 have No : At W1 (w.heap.size + 1 + 1 + 1) _ _ := Jb hW1 (At.at_ _ _ _ _ (by simp))
 have Eo : w.heap.size ≤ w.heap.size + 1 + 1 + 1 := by have := BW.out.size; omega
 have Dao : w.heap.size ≠ w.heap.size + 1 + 1 + 1 := by omega
 have Dbo : w.heap.size + 1 ≠ w.heap.size + 1 + 1 + 1 := by omega
 have Dmo : w.heap.size + 1 + 1 ≠ w.heap.size + 1 + 1 + 1 := by omega
 have NB := gr_of hW1 (gr_alloc (gr_alloc (gr_alloc (gr_alloc BW.out _) _) _) _)
 clear BW
 clear hW1
 generalize w.heap.size + 1 + 1 + 1 = go at *
 generalize w.heap.size + 1 + 1 = gm at *
 generalize w.heap.size + 1 = gb at *
 obtain ⟨ga, hg0⟩ : ∃ g, g = w.heap.size := ⟨_, rfl⟩
 rw [← hg0] at Na ⊢
 rw [← hg0] at Dao
 clear hg0
 have Fa := Jfg Na
 have Fb := Jfg Nb
 have Fm := Jfg Nm
 have Fo := Jfg No
 have BW := Jfg NB
 clear NB Na Nb Nm No
 refine (Hc1.out _).mono ?_
 rintro e v2 ⟨rfl, z2⟩
 have Na := Jfg (Fa.out.on z2)
 have Nb := Jfg (Fb.out.on z2)
 have Nm := Jfg (Fm.out.on z2)
 have No := Jfg (Fo.out.on z2)
 have NB := Jfg (bel_tr BW.out z2)
 clear BW z2 Fa Fb Fm Fo
 have Fa := Na
 have Fb := Nb
 have Fm := Nm
 have Fo := No
 have BW := NB
 clear NB Na Nb Nm No
 have Lo := Fo.out.lt
 have co0 : v2.cell? ⟨go, 0, none⟩ = some (.int .u64 0) := Fo.out.cell 0
 have co1 : v2.cell? ⟨go, 1, none⟩ = some (.int .u64 0) := Fo.out.cell 1
 have co2 : v2.cell? ⟨go, 2, none⟩ = some (.int .u64 0) := Fo.out.cell 2
 have co3 : v2.cell? ⟨go, 3, none⟩ = some (.int .u64 0) := Fo.out.cell 3
 obtain ⟨fo0, fo1, fo2, fo3⟩ := Vb Fo.out
 go_wp2_with fail
 generalize hW3 : ((((v2.setCell ⟨go, 0, none⟩ (.int .u64 (wd V 0))).setCell ⟨go, 1, none⟩ (.int .u64 (wd V 1))).setCell ⟨go, 2, none⟩ (.int .u64 (wd V 2))).setCell ⟨go, 3, none⟩ (.int .u64 (wd V 3))) = W3 at *
 clear Lo co0 co1 co2 co3 fo0 fo1 fo2 fo3
 have Na_0 := Jb hW3 ((Fa.out).far4 Dao _ _ _ _)
 have Nb_0 := Jb hW3 ((Fb.out).far4 Dbo _ _ _ _)
 have Nm_0 := Jb hW3 ((Fm.out).far4 Dmo _ _ _ _)
 have No_0 := Jb hW3 ((Fo.out).put4 _ _ _ _)
 have NB_0 := gr_of hW3 (((((BW.out).setCell Eo _).setCell Eo _).setCell Eo _).setCell Eo _)
 have Na := Na_0
 have Nb := Nb_0
 have Nm := Nm_0
 have No := No_0
 have NB := NB_0
 clear BW Fa Fb Fm Fo Na_0 Nb_0 Nm_0 No_0 NB_0
 clear hW3
 have Fa := Jfg Na
 have Fb := Jfg Nb
 have Fm := Jfg Nm
 have Fo := Jfg No
 have BW := Jfg NB
 clear NB Na Nb Nm No
 have Lo := Fo.out.lt
 have co0 := Fo.out.c0; have co1 := Fo.out.c1; have co2 := Fo.out.c2; have co3 := Fo.out.c3
 refine bodyPost_ret (v := .tuple #[num V, .int .i64 er]) (by simp [results, Tryz.results89, go_sem, *]) rfl ⟨rfl, BW.out⟩

theorem mulw (A B M V : Nat) (er : Int)
  (c1 : ∀ w, Calls Tryz.prog 40 #[.agg #[.func (.func 39) #[] #[]], num A, num B, num M] w fun e w' => e = .returned (.tuple #[num V, .int .i64 er]) ∧ Below w.heap.size w w')
  (w : World) : Calls Tryz.prog 16 #[num A, num B, num M] w fun e w' => e = .returned (.tuple #[num V, .int .i64 er]) ∧ Below w.heap.size w w' := by
 have Hc1 := Jfg c1
 clear c1
 go_enter Tryz.func16, Tryz.ntmps16
 go_wp2_with fail
 have BW := Jfg (Below.refl w.heap.size w)
 generalize hW1 : ((((w.alloc (.cells (ncs A) 24)).alloc (.cells (ncs B) 24)).alloc (.cells (ncs M) 24)).alloc (.cells #[.int .u64 0, .int .u64 0, .int .u64 0, .int .u64 0] 24)) = W1 at *
 have Na : At W1 (w.heap.size) _ _ := Jb hW1 ((((At.at_ _ _ _ _ (by simp)).alloc _).alloc _).alloc _)
 have Nb : At W1 (w.heap.size + 1) _ _ := Jb hW1 (((At.at_ _ _ _ _ (by simp)).alloc _).alloc _)
 have Nm : At W1 (w.heap.size + 1 + 1) _ _ := Jb hW1 ((At.at_ _ _ _ _ (by simp)).alloc _)
 have No : At W1 (w.heap.size + 1 + 1 + 1) _ _ := Jb hW1 (At.at_ _ _ _ _ (by simp))
 have Eo : w.heap.size ≤ w.heap.size + 1 + 1 + 1 := by have := BW.out.size; omega
 have Dao : w.heap.size ≠ w.heap.size + 1 + 1 + 1 := by omega
 have Dbo : w.heap.size + 1 ≠ w.heap.size + 1 + 1 + 1 := by omega
 have Dmo : w.heap.size + 1 + 1 ≠ w.heap.size + 1 + 1 + 1 := by omega
 have NB := gr_of hW1 (gr_alloc (gr_alloc (gr_alloc (gr_alloc BW.out _) _) _) _)
 clear BW
 clear hW1
 generalize w.heap.size + 1 + 1 + 1 = go at *
 generalize w.heap.size + 1 + 1 = gm at *
 generalize w.heap.size + 1 = gb at *
 obtain ⟨ga, hg0⟩ : ∃ g, g = w.heap.size := ⟨_, rfl⟩
 rw [← hg0] at Na ⊢
 rw [← hg0] at Dao
 clear hg0
 have Fa := Jfg Na
 have Fb := Jfg Nb
 have Fm := Jfg Nm
 have Fo := Jfg No
 have BW := Jfg NB
 clear NB Na Nb Nm No
 refine (Hc1.out _).mono ?_
 rintro e v2 ⟨rfl, z2⟩
 have Na := Jfg (Fa.out.on z2)
 have Nb := Jfg (Fb.out.on z2)
 have Nm := Jfg (Fm.out.on z2)
 have No := Jfg (Fo.out.on z2)
 have NB := Jfg (bel_tr BW.out z2)
 clear BW z2 Fa Fb Fm Fo
 have Fa := Na
 have Fb := Nb
 have Fm := Nm
 have Fo := No
 have BW := NB
 clear NB Na Nb Nm No
 have Lo := Fo.out.lt
 have co0 : v2.cell? ⟨go, 0, none⟩ = some (.int .u64 0) := Fo.out.cell 0
 have co1 : v2.cell? ⟨go, 1, none⟩ = some (.int .u64 0) := Fo.out.cell 1
 have co2 : v2.cell? ⟨go, 2, none⟩ = some (.int .u64 0) := Fo.out.cell 2
 have co3 : v2.cell? ⟨go, 3, none⟩ = some (.int .u64 0) := Fo.out.cell 3
 obtain ⟨fo0, fo1, fo2, fo3⟩ := Vb Fo.out
 go_wp2_with fail
 generalize hW3 : ((((v2.setCell ⟨go, 0, none⟩ (.int .u64 (wd V 0))).setCell ⟨go, 1, none⟩ (.int .u64 (wd V 1))).setCell ⟨go, 2, none⟩ (.int .u64 (wd V 2))).setCell ⟨go, 3, none⟩ (.int .u64 (wd V 3))) = W3 at *
 clear Lo co0 co1 co2 co3 fo0 fo1 fo2 fo3
 have Na_0 := Jb hW3 ((Fa.out).far4 Dao _ _ _ _)
 have Nb_0 := Jb hW3 ((Fb.out).far4 Dbo _ _ _ _)
 have Nm_0 := Jb hW3 ((Fm.out).far4 Dmo _ _ _ _)
 have No_0 := Jb hW3 ((Fo.out).put4 _ _ _ _)
 have NB_0 := gr_of hW3 (((((BW.out).setCell Eo _).setCell Eo _).setCell Eo _).setCell Eo _)
 have Na := Na_0
 have Nb := Nb_0
 have Nm := Nm_0
 have No := No_0
 have NB := NB_0
 clear BW Fa Fb Fm Fo Na_0 Nb_0 Nm_0 No_0 NB_0
 clear hW3
 have Fa := Jfg Na
 have Fb := Jfg Nb
 have Fm := Jfg Nm
 have Fo := Jfg No
 have BW := Jfg NB
 clear NB Na Nb Nm No
 have Lo := Fo.out.lt
 have co0 := Fo.out.c0; have co1 := Fo.out.c1; have co2 := Fo.out.c2; have co3 := Fo.out.c3
 refine bodyPost_ret (v := .tuple #[num V, .int .i64 er]) (by simp [results, Tryz.results16, go_sem, *]) rfl ⟨rfl, BW.out⟩

theorem expw (A N M V : Nat) (er : Int)
  (c1 : ∀ (gn : Nat) (w : World), At w gn 24 (ncs N) → Calls Tryz.prog 40 #[.agg #[.func (.func 58) #[] #[.pointer (some ⟨gn, 0, none⟩)]], num A, num A, num M] w fun e w' => e = .returned (.tuple #[num V, .int .i64 er]) ∧ Below w.heap.size w w')
  (w : World) : Calls Tryz.prog 38 #[num A, num N, num M] w fun e w' => e = .returned (.tuple #[num V, .int .i64 er]) ∧ Below w.heap.size w w' := by
 have Hc1 := Jfg c1
 clear c1
 go_enter Tryz.func38, Tryz.ntmps38
 go_wp2_with fail
 have BW := Jfg (Below.refl w.heap.size w)
 generalize hW1 : ((((w.alloc (.cells (ncs A) 24)).alloc (.cells (ncs N) 24)).alloc (.cells (ncs M) 24)).alloc (.cells #[.int .u64 0, .int .u64 0, .int .u64 0, .int .u64 0] 24)) = W1 at *
 have Na : At W1 (w.heap.size) _ _ := Jb hW1 ((((At.at_ _ _ _ _ (by simp)).alloc _).alloc _).alloc _)
 have Nn : At W1 (w.heap.size + 1) _ _ := Jb hW1 (((At.at_ _ _ _ _ (by simp)).alloc _).alloc _)
 have Nm : At W1 (w.heap.size + 1 + 1) _ _ := Jb hW1 ((At.at_ _ _ _ _ (by simp)).alloc _)
 have No : At W1 (w.heap.size + 1 + 1 + 1) _ _ := Jb hW1 (At.at_ _ _ _ _ (by simp))
 have Eo : w.heap.size ≤ w.heap.size + 1 + 1 + 1 := by have := BW.out.size; omega
 have Dao : w.heap.size ≠ w.heap.size + 1 + 1 + 1 := by omega
 have Dno : w.heap.size + 1 ≠ w.heap.size + 1 + 1 + 1 := by omega
 have Dmo : w.heap.size + 1 + 1 ≠ w.heap.size + 1 + 1 + 1 := by omega
 have NB := gr_of hW1 (gr_alloc (gr_alloc (gr_alloc (gr_alloc BW.out _) _) _) _)
 clear BW
 clear hW1
 generalize w.heap.size + 1 + 1 + 1 = go at *
 generalize w.heap.size + 1 + 1 = gm at *
 generalize w.heap.size + 1 = gn at *
 obtain ⟨ga, hg0⟩ : ∃ g, g = w.heap.size := ⟨_, rfl⟩
 rw [← hg0] at Na ⊢
 rw [← hg0] at Dao
 clear hg0
 have Fa := Jfg Na
 have Fn := Jfg Nn
 have Fm := Jfg Nm
 have Fo := Jfg No
 have BW := Jfg NB
 clear NB Na Nn Nm No
 refine (Hc1.out _ _ Fn.out).mono ?_
 rintro e v2 ⟨rfl, z2⟩
 have Na := Jfg (Fa.out.on z2)
 have Nn := Jfg (Fn.out.on z2)
 have Nm := Jfg (Fm.out.on z2)
 have No := Jfg (Fo.out.on z2)
 have NB := Jfg (bel_tr BW.out z2)
 clear BW z2 Fa Fn Fm Fo
 have Fa := Na
 have Fn := Nn
 have Fm := Nm
 have Fo := No
 have BW := NB
 clear NB Na Nn Nm No
 have Lo := Fo.out.lt
 have co0 : v2.cell? ⟨go, 0, none⟩ = some (.int .u64 0) := Fo.out.cell 0
 have co1 : v2.cell? ⟨go, 1, none⟩ = some (.int .u64 0) := Fo.out.cell 1
 have co2 : v2.cell? ⟨go, 2, none⟩ = some (.int .u64 0) := Fo.out.cell 2
 have co3 : v2.cell? ⟨go, 3, none⟩ = some (.int .u64 0) := Fo.out.cell 3
 obtain ⟨fo0, fo1, fo2, fo3⟩ := Vb Fo.out
 go_wp2_with fail
 generalize hW3 : ((((v2.setCell ⟨go, 0, none⟩ (.int .u64 (wd V 0))).setCell ⟨go, 1, none⟩ (.int .u64 (wd V 1))).setCell ⟨go, 2, none⟩ (.int .u64 (wd V 2))).setCell ⟨go, 3, none⟩ (.int .u64 (wd V 3))) = W3 at *
 clear Lo co0 co1 co2 co3 fo0 fo1 fo2 fo3
 have Na_0 := Jb hW3 ((Fa.out).far4 Dao _ _ _ _)
 have Nn_0 := Jb hW3 ((Fn.out).far4 Dno _ _ _ _)
 have Nm_0 := Jb hW3 ((Fm.out).far4 Dmo _ _ _ _)
 have No_0 := Jb hW3 ((Fo.out).put4 _ _ _ _)
 have NB_0 := gr_of hW3 (((((BW.out).setCell Eo _).setCell Eo _).setCell Eo _).setCell Eo _)
 have Na := Na_0
 have Nn := Nn_0
 have Nm := Nm_0
 have No := No_0
 have NB := NB_0
 clear BW Fa Fn Fm Fo Na_0 Nn_0 Nm_0 No_0 NB_0
 clear hW3
 have Fa := Jfg Na
 have Fn := Jfg Nn
 have Fm := Jfg Nm
 have Fo := Jfg No
 have BW := Jfg NB
 clear NB Na Nn Nm No
 have Lo := Fo.out.lt
 have co0 := Fo.out.c0; have co1 := Fo.out.c1; have co2 := Fo.out.c2; have co3 := Fo.out.c3
 refine bodyPost_ret (v := .tuple #[num V, .int .i64 er]) (by simp [results, Tryz.results38, go_sem, *]) rfl ⟨rfl, BW.out⟩

theorem Jcz {X Y : Nat} (h : X ≤ Y) : Uu X Y ≤ 0 := by unfold Uu; split <;> (try split) <;> omega
theorem Jdt {X Y : Nat} (h : Y ≤ X) : 0 ≤ Uu X Y := by unfold Uu; rw [if_neg (by omega)]; split <;> omega
theorem Uy {X Y : Nat} (h : Y < X) : 0 < Uu X Y := by rw [Jda h]; omega
theorem Vq {X Y : Nat} (h : X < Y) : Uu X Y < 0 := by rw [Xo h]; omega

theorem mmul_yes (A B M : Nat) (hM : M < 2 ^ 256) (h1 : 1 < M) (hA : A < M) (hB : B < M) : ∀ w, Calls Tryz.prog 16 #[num A, num B, num M] w fun e w' => e = .returned (.tuple #[num (A * B % M), .int .i64 0]) ∧ Below w.heap.size w w' := by
 exact fun w => mulw A B M _ _ (fun w => with_product A B M 1 _ _ _ _ _ (Uy h1) (Vq hA) (Vq hB) (fun w => Vc 1 (by decide) w) (fun w => Uo M 1 hM (by decide) w) (fun w => Uo A M (by omega) hM w) (fun w => Uo B M (by omega) hM w) (prod_any A B M (by omega) (by omega) hM (by omega)) w) w
theorem msub_yes (A B M : Nat) (hM : M < 2 ^ 256) (h1 : 1 < M) (hA : A < M) (hB : B < M) : ∀ w, Calls Tryz.prog 89 #[num A, num B, num M] w fun e w' => e = .returned (.tuple #[num ((A + M - B) % M), .int .i64 0]) ∧ Below w.heap.size w w' := by
 obtain ⟨L, c, hL, hc, he, C⟩ := diff_ex A B M hA hB hM
 have e : (A + M - B) % M = L := by
  have h01 : c = 0 ∨ c = 1 := by omega
  rcases h01 with rfl | rfl
  ·rw [show A + M - B = L + M by omega, Nat.add_mod_right, Nat.mod_eq_of_lt hL]
  ·rw [show A + M - B = L by omega, Nat.mod_eq_of_lt hL]
 rw [e]
 exact fun w => subw A B M _ _ (fun w => with_difference A B M 1 _ _ _ _ _ (Uy h1) (Vq hA) (Vq hB) (fun w => Vc 1 (by decide) w) (fun w => Uo M 1 hM (by decide) w) (fun w => Uo A M (by omega) hM w) (fun w => Uo B M (by omega) hM w) C w) w
theorem mexp_yes (A N M : Nat) (hM : M < 2 ^ 256) (hN : N < 2 ^ 256) (h1 : 1 < M) (hA : A < M) : ∀ w, Calls Tryz.prog 38 #[num A, num N, num M] w fun e w' => e = .returned (.tuple #[num (A ^ N % M), .int .i64 0]) ∧ Below w.heap.size w w' := fun w =>
 expw A N M _ _ (fun gn w at1 => with_power A A M 1 _ N gn _ _ _ _ (Uy h1) (Vq hA) (Vq hA) (fun w => Vc 1 (by decide) w) (fun w => Uo M 1 hM (by decide) w) (fun w => Uo A M (by omega) hM w) (fun w => Uo A M (by omega) hM w) (fun w at2 => expfn_walk gn A A M N _ (fun w => raise_any A N M hA h1 hM hN w) w at2) w at1) w
abbrev grp (P Q G H : Nat) : Value := .agg #[.int .u64 (wd P 0), .int .u64 (wd P 1), .int .u64 (wd P 2), .int .u64 (wd P 3), .int .u64 (wd Q 0), .int .u64 (wd Q 1), .int .u64 (wd Q 2), .int .u64 (wd Q 3), .int .u64 (wd G 0), .int .u64 (wd G 1), .int .u64 (wd G 2), .int .u64 (wd G 3), .int .u64 (wd H 0), .int .u64 (wd H 1), .int .u64 (wd H 2), .int .u64 (wd H 3)]
section
variable (x : Operand) (dst : Option Tmp) (ty : TypeId) (pos : String) (after : Array Edge) (guard : Option (Nat × Bool)) (ρ : Operand → Value) (w : World) (g : Nat) (u0 u1 u2 u3 u4 u5 u6 u7 u8 u9 u10 u11 u12 u13 u14 u15 : Value)
theorem Jaf (hx : ρ x = .pointer (some ⟨g, 0, none⟩)) : (execOp ρ ⟨dst, .fieldAddr 26 x 0, ty, pos, after, guard⟩).run Tryz.prog w = .ok (.value (.pointer (some ⟨g, 0, none⟩))) w := by
 simp [execOp, hx, go_sem]
theorem fieldG1 (hx : ρ x = .pointer (some ⟨g, 0, none⟩)) : (execOp ρ ⟨dst, .fieldAddr 26 x 1, ty, pos, after, guard⟩).run Tryz.prog w = .ok (.value (.pointer (some ⟨g, 4, none⟩))) w := by
 simp [execOp, hx, go_sem]
theorem fieldG2 (hx : ρ x = .pointer (some ⟨g, 0, none⟩)) : (execOp ρ ⟨dst, .fieldAddr 26 x 2, ty, pos, after, guard⟩).run Tryz.prog w = .ok (.value (.pointer (some ⟨g, 8, none⟩))) w := by
 simp [execOp, hx, go_sem]
theorem fieldG3 (hx : ρ x = .pointer (some ⟨g, 0, none⟩)) : (execOp ρ ⟨dst, .fieldAddr 26 x 3, ty, pos, after, guard⟩).run Tryz.prog w = .ok (.value (.pointer (some ⟨g, 12, none⟩))) w := by
 simp [execOp, hx, go_sem]
theorem Jcb (hx : ρ x = .pointer (some ⟨g, 0, none⟩)) (h : At w g 26 #[u0, u1, u2, u3, u4, u5, u6, u7, u8, u9, u10, u11, u12, u13, u14, u15]) :
  (execOp ρ ⟨dst, .load 24 x, ty, pos, after, guard⟩).run Tryz.prog w = .ok (.value (.agg #[u0, u1, u2, u3])) w := by
 have c0 : w.cell? ⟨g, 0, none⟩ = some u0 := h.cell 0
 have c1 : w.cell? ⟨g, 1, none⟩ = some u1 := h.cell 1
 have c2 : w.cell? ⟨g, 2, none⟩ = some u2 := h.cell 2
 have c3 : w.cell? ⟨g, 3, none⟩ = some u3 := h.cell 3
 simp [execOp, hx, go_sem, c0, c1, c2, c3]
theorem loadG1 (hx : ρ x = .pointer (some ⟨g, 4, none⟩)) (h : At w g 26 #[u0, u1, u2, u3, u4, u5, u6, u7, u8, u9, u10, u11, u12, u13, u14, u15]) :
  (execOp ρ ⟨dst, .load 24 x, ty, pos, after, guard⟩).run Tryz.prog w = .ok (.value (.agg #[u4, u5, u6, u7])) w := by
 have c0 : w.cell? ⟨g, 4, none⟩ = some u4 := h.cell 4
 have c1 : w.cell? ⟨g, 5, none⟩ = some u5 := h.cell 5
 have c2 : w.cell? ⟨g, 6, none⟩ = some u6 := h.cell 6
 have c3 : w.cell? ⟨g, 7, none⟩ = some u7 := h.cell 7
 simp [execOp, hx, go_sem, c0, c1, c2, c3]
theorem loadG2 (hx : ρ x = .pointer (some ⟨g, 8, none⟩)) (h : At w g 26 #[u0, u1, u2, u3, u4, u5, u6, u7, u8, u9, u10, u11, u12, u13, u14, u15]) :
  (execOp ρ ⟨dst, .load 24 x, ty, pos, after, guard⟩).run Tryz.prog w = .ok (.value (.agg #[u8, u9, u10, u11])) w := by
 have c0 : w.cell? ⟨g, 8, none⟩ = some u8 := h.cell 8
 have c1 : w.cell? ⟨g, 9, none⟩ = some u9 := h.cell 9
 have c2 : w.cell? ⟨g, 10, none⟩ = some u10 := h.cell 10
 have c3 : w.cell? ⟨g, 11, none⟩ = some u11 := h.cell 11
 simp [execOp, hx, go_sem, c0, c1, c2, c3]
theorem loadG3 (hx : ρ x = .pointer (some ⟨g, 12, none⟩)) (h : At w g 26 #[u0, u1, u2, u3, u4, u5, u6, u7, u8, u9, u10, u11, u12, u13, u14, u15]) :
  (execOp ρ ⟨dst, .load 24 x, ty, pos, after, guard⟩).run Tryz.prog w = .ok (.value (.agg #[u12, u13, u14, u15])) w := by
 have c0 : w.cell? ⟨g, 12, none⟩ = some u12 := h.cell 12
 have c1 : w.cell? ⟨g, 13, none⟩ = some u13 := h.cell 13
 have c2 : w.cell? ⟨g, 14, none⟩ = some u14 := h.cell 14
 have c3 : w.cell? ⟨g, 15, none⟩ = some u15 := h.cell 15
 simp [execOp, hx, go_sem, c0, c1, c2, c3]
theorem loadG (hx : ρ x = .pointer (some ⟨g, 0, none⟩)) (h : At w g 26 #[u0, u1, u2, u3, u4, u5, u6, u7, u8, u9, u10, u11, u12, u13, u14, u15]) :
  (execOp ρ ⟨dst, .load 26 x, ty, pos, after, guard⟩).run Tryz.prog w = .ok (.value (.agg #[u0, u1, u2, u3, u4, u5, u6, u7, u8, u9, u10, u11, u12, u13, u14, u15])) w := by
 have c0 : w.cell? ⟨g, 0, none⟩ = some u0 := h.cell 0
 have c1 : w.cell? ⟨g, 1, none⟩ = some u1 := h.cell 1
 have c2 : w.cell? ⟨g, 2, none⟩ = some u2 := h.cell 2
 have c3 : w.cell? ⟨g, 3, none⟩ = some u3 := h.cell 3
 have c4 : w.cell? ⟨g, 4, none⟩ = some u4 := h.cell 4
 have c5 : w.cell? ⟨g, 5, none⟩ = some u5 := h.cell 5
 have c6 : w.cell? ⟨g, 6, none⟩ = some u6 := h.cell 6
 have c7 : w.cell? ⟨g, 7, none⟩ = some u7 := h.cell 7
 have c8 : w.cell? ⟨g, 8, none⟩ = some u8 := h.cell 8
 have c9 : w.cell? ⟨g, 9, none⟩ = some u9 := h.cell 9
 have c10 : w.cell? ⟨g, 10, none⟩ = some u10 := h.cell 10
 have c11 : w.cell? ⟨g, 11, none⟩ = some u11 := h.cell 11
 have c12 : w.cell? ⟨g, 12, none⟩ = some u12 := h.cell 12
 have c13 : w.cell? ⟨g, 13, none⟩ = some u13 := h.cell 13
 have c14 : w.cell? ⟨g, 14, none⟩ = some u14 := h.cell 14
 have c15 : w.cell? ⟨g, 15, none⟩ = some u15 := h.cell 15
 simp [execOp, hx, go_sem, c0, c1, c2, c3, c4, c5, c6, c7, c8, c9, c10, c11, c12, c13, c14, c15]
end
open Go.RowKit Go.WideShapes Go.ChangeShapes Go.ChangeAt
theorem Tryz.cellsG : Tryz.prog.cellsOf 26 = 16 := by kernel_rfl
section
variable {H : Type} {enc : TypeId × Value → H} {w : World} {held : Bool}
theorem open_group {base : Nat} {v : Value} {d : DataW H} {p : List MemPlace} (hv : Value.okWide Tryz.prog w .any base 26 v) (h : DataW.Trod enc Tryz.prog w 0 (fun _ => true) held 26 v d p) :
  ∃ P Q G H' : Nat, v = grp P Q G H' ∧ P < 2 ^ 256 ∧ Q < 2 ^ 256 ∧ G < 2 ^ 256 ∧ H' < 2 ^ 256 := by
 obtain ⟨cs, rfl, hsz⟩ : ∃ cs, v = .agg cs ∧ cs.size = Tryz.prog.cellsOf 26 := by
  simp only [Value.okWide, Tryz.underlying26] at hv
  obtain ⟨cs, h1, h2, _⟩ := hv
  exact ⟨cs, h1, h2⟩
 obtain ⟨fuel, hf⟩ := h
 obtain ⟨xs, m, hm, _, hl, hlen, hf⟩ := DataW.trod_struct Tryz.underlying26 hf
 rw [Tryz.cellsG] at hsz
 obtain ⟨cs⟩ := cs
 match cs, hsz with
 | [c0, c1, c2, c3, c4, c5, c6, c7, c8, c9, c10, c11, c12, c13, c14, c15], _ =>
  match xs, hlen with
  | [y0, y1, y2, y3], _ =>
   simp only [Value.cells] at hf
   have h0 : DataW.trod enc Tryz.prog w 0 (fun _ => true) held m 24 [c0, c1, c2, c3] = some y0 := by simpa [Tryz.cells24] using hf 0 _ rfl
   have h1 : DataW.trod enc Tryz.prog w 0 (fun _ => true) held m 24 [c4, c5, c6, c7] = some y1 := by simpa [Tryz.cells24] using hf 1 _ rfl
   have h2 : DataW.trod enc Tryz.prog w 0 (fun _ => true) held m 24 [c8, c9, c10, c11] = some y2 := by simpa [Tryz.cells24] using hf 2 _ rfl
   have h3 : DataW.trod enc Tryz.prog w 0 (fun _ => true) held m 24 [c12, c13, c14, c15] = some y3 := by simpa [Tryz.cells24] using hf 3 _ rfl
   obtain ⟨P, hP, rfl, rfl, rfl, rfl⟩ := Vy h0
   obtain ⟨Q, hQ, rfl, rfl, rfl, rfl⟩ := Vy h1
   obtain ⟨G, hG, rfl, rfl, rfl, rfl⟩ := Vy h2
   obtain ⟨K, hK, rfl, rfl, rfl, rfl⟩ := Vy h3
   exact ⟨P, Q, G, K, rfl, hP, hQ, hG, hK⟩
end
open Go.RowKit Go.Shelf
attribute [local go_sem] Oper.semAt_some
attribute [local go_sem ↓] Go.wp_at_zero Go.wp_at_succ

abbrev NP := { p : Nat × Nat // p.1 < 2 ^ 256 ∧ p.2 < 2 ^ 256 }
def NSl (n₀ : Nat) (w : World) (a : Option Addr) (cap : Nat) (xs : List Nat) : Prop :=
 xs.length ≤ cap ∧ cap ≤ 9223372036854775807 ∧ (∀ x ∈ xs, x < 2 ^ 256) ∧
 (xs = [] ∨ ∃ g o, a = some ⟨g, o, none⟩ ∧ g < n₀ ∧ ∀ i (h : i < xs.length) k, k < 4 → w.cell? ⟨g, o + i * 4 + k, none⟩ = some (.int .u64 (wd xs[i] k)))
theorem NSl.below {n₀ : Nat} {A B : World} (h : Below n₀ A B) {a : Option Addr} {cap : Nat} {xs : List Nat} : NSl n₀ A a cap xs → NSl n₀ B a cap xs
 | ⟨h1, h2, h3, h4⟩ => ⟨h1, h2, h3, h4.imp id fun ⟨g, o, ha, hg, hc⟩ => ⟨g, o, ha, hg, fun i hi k hk => (h.cell (p := ⟨g, o + i * 4 + k, none⟩) hg).trans (hc i hi k hk)⟩⟩
theorem NSl.get {n₀ : Nat} {w : World} {a : Option Addr} {cap : Nat} {xs : List Nat} (h : NSl n₀ w a cap xs) {i x : Nat} (hi : i < xs.length) (hx : xs[i] = x) : ∃ g o, a = some ⟨g, o, none⟩ ∧ g < n₀ ∧
  w.cell? ⟨g, o + i * 4, none⟩ = some (.int .u64 (wd x 0)) ∧ w.cell? ⟨g, o + i * 4 + 1, none⟩ = some (.int .u64 (wd x 1)) ∧ w.cell? ⟨g, o + i * 4 + 2, none⟩ = some (.int .u64 (wd x 2)) ∧ w.cell? ⟨g, o + i * 4 + 3, none⟩ = some (.int .u64 (wd x 3)) := by
 rcases h.2.2.2 with rfl | ⟨g, o, ha, hg, hc⟩
 ·exact absurd hi (Nat.not_lt_zero _)
 ·subst hx
  exact ⟨g, o, ha, hg, hc i hi 0 (by omega), hc i hi 1 (by omega), hc i hi 2 (by omega), hc i hi 3 (by omega)⟩

structure KP (n₀ b : Nat) (W W' : World) : Prop where
 bel : Below n₀ W W'
 box : b < W.heap.size → W'.heap[b]? = W.heap[b]?
theorem KP.refl (n₀ b : Nat) (W : World) : KP n₀ b W W := ⟨Below.refl _ _, fun _ => rfl⟩
theorem KP.trans {n₀ b : Nat} {A B C : World} (h : KP n₀ b A B) (k : KP n₀ b B C) : KP n₀ b A C := ⟨h.bel.trans k.bel, fun hb => (k.box (Nat.lt_of_lt_of_le hb h.bel.size)).trans (h.box hb)⟩
theorem KP.of {n₀ b : Nat} {A B : World} (h : Below A.heap.size A B) (hn : n₀ ≤ A.heap.size) : KP n₀ b A B := ⟨h.mono hn, fun hb => h.block b hb⟩

theorem tog1_in (n : Nat) (hn : 1 ≤ n) (l gA gN n₀ : Nat) (a b : Option Addr) (ca cb : Nat) (zs : List NP) (J Jx : List NP → World → Prop)
  (hY : ∀ pre x W, J pre W → pre.length < zs.length → YieldAt Fence.wide (n - 1) Tryz.prog l #[num x.1.1, num x.1.2] W fun e W' =>
   (e = .returned (.bool true) ∧ J (pre ++ [x]) W' ∧ KP n₀ gN W W') ∨ (e = .returned (.bool false) ∧ Jx (pre ++ [x]) W'))
  (W : World) (hW : n₀ ≤ W.heap.size) (hJ : AbidesFrom W.heap.size J) (hJx : AbidesFrom W.heap.size Jx)
  (hA : At W gA 31 #[.slice a zs.length ca]) (hN : At W gN 31 #[.slice b zs.length cb])
  (sA : NSl n₀ W a ca (zs.map (·.1.1))) (sN : NSl n₀ W b cb (zs.map (·.1.2))) (h0 : J [] W) :
  CallsIn Fence.wide n Tryz.prog 36 #[.func (.yield l) #[] #[], .pointer (some ⟨gA, 0, none⟩), .pointer (some ⟨gN, 0, none⟩)] W fun e W' => (∃ v, e = .returned v) ∧
   ((∃ ys, ys = zs ∧ J ys W') ∨ (∃ pre, pre <+: zs ∧ Jx pre W')) := by
 have cA := hA.cell 0
 have hl1 : zs.length ≤ 9223372036854775807 := by have h1 := sA.1; have h2 := sA.2.1; simp at h1; omega
 refine callsIn_of_wp Tryz.func36 rfl trivial ?_ rfl
 simp only [Tryz.ntmps36, List.size_toArray, List.length_cons, List.length_nil, Nat.reduceAdd, Nat.reduceSub, Array.replicate_succ, Array.replicate_zero, List.push_toArray, List.append_toArray, List.nil_append, List.cons_append]
 gi_wp2
 gi_loopw [8] (fun i wr => ∃ k : Nat, k ≤ zs.length ∧ i = .int .i64 k ∧ J (zs.take k) wr ∧ KP n₀ gN W wr)
  (fun i _ => zs.length - (intOf i).toNat)
 case atStart => exact ⟨0, Nat.zero_le _, rfl, h0, KP.refl _ _ _⟩
 case round =>
  obtain ⟨k, hk, rfl, hJs, hnx⟩ := hrel
  by_cases hlt : k < zs.length
  ·have hlt2 : (k : Int) < (zs.length : Int) := by omega
   obtain ⟨g, o, rfl, hg, e0, e1, e2, e3⟩ := (sA.below hnx.bel).get (i := k) (x := (zs[k]).1.1) (by simpa using hlt) (by simp)
   gi_wp2
   obtain ⟨x, hx⟩ : ∃ x, x = zs[k] := ⟨_, rfl⟩
   obtain ⟨g2, o2, rfl, hg2, d0, d1, d2, d3⟩ := (sN.below hnx.bel).get (i := k) (x := x.1.2) (by simpa using hlt) (by simp [hx])
   rw [← hx]
   have hwr : n₀ ≤ wr.heap.size := Nat.le_trans hW hnx.bel.size
   have hsz : W.heap.size ≤ wr.heap.size := hnx.bel.size
   obtain ⟨w2, hw2⟩ : ∃ w2, w2 = wr.alloc (.cells (ncs x.1.1) 24) := ⟨_, rfl⟩
   have hbx : KP n₀ gN wr w2 := by rw [hw2]; exact KP.of ((Below.refl _ _).alloc (Nat.le_refl _) _) hwr
   have hb := hbx.bel
   have hAt : At w2 wr.heap.size 24 (ncs x.1.1) := by rw [hw2]; exact At.new _ _ _
   have hJ2 : J (zs.take k) w2.drew := by
    have h1 : J (zs.take k) w2 := by rw [hw2]; exact hJ _ _ _ none hJs (World.grownBy_alloc wr _ none) (fun _ e => by cases e)
    exact hJ _ _ _ none h1 ⟨rfl, rfl, rfl, Nat.le_refl _, fun _ _ _ => rfl⟩ (fun _ e => by cases e)
   rw [← hw2]
   clear hw2
   have hw2n : n₀ ≤ w2.heap.size := Nat.le_trans hwr hb.size
   have q0 : w2.cell? ⟨wr.heap.size, 0, none⟩ = some (.int .u64 (wd x.1.1 0)) := hAt.cell 0
   have q1 : w2.cell? ⟨wr.heap.size, 1, none⟩ = some (.int .u64 (wd x.1.1 1)) := hAt.cell 1
   have q2 : w2.cell? ⟨wr.heap.size, 2, none⟩ = some (.int .u64 (wd x.1.1 2)) := hAt.cell 2
   have q3 : w2.cell? ⟨wr.heap.size, 3, none⟩ = some (.int .u64 (wd x.1.1 3)) := hAt.cell 3
   have hN2 : At w2 gN 31 #[.slice (some ⟨g2, o2, none⟩) zs.length cb] := ((hbx.box (Nat.lt_of_lt_of_le hN.lt hsz)).trans (hnx.box hN.lt)).trans hN
   have n0 : w2.cell? ⟨gN, 0, none⟩ = some (.slice (some ⟨g2, o2, none⟩) zs.length cb) := hN2.cell 0
   have d0' := (hb.cell (p := ⟨g2, o2 + k * 4, none⟩) hg2).trans d0
   have d1' := (hb.cell (p := ⟨g2, o2 + k * 4 + 1, none⟩) hg2).trans d1
   have d2' := (hb.cell (p := ⟨g2, o2 + k * 4 + 2, none⟩) hg2).trans d2
   have d3' := (hb.cell (p := ⟨g2, o2 + k * 4 + 3, none⟩) hg2).trans d3
   clear d0 d1 d2 d3 e0 e1 e2 e3
   have hx' := Jfg hx
   clear hx
   obtain ⟨fn, tmps, assign, body, hy, hR⟩ := hY (zs.take k) x w2.drew hJ2 (by simp; omega)
   generalize wr.heap.size = gB at *
   have hR' := Jfg (hR.mono (R' := fun e W' => ∃ bb : Bool, e = .returned (.bool bb) ∧ ((bb = true ∧ J (zs.take k ++ [x]) W' ∧ KP n₀ gN w2.drew W') ∨ (bb = false ∧ Jx (zs.take k ++ [x]) W'))) (fun e W' h => by
    rcases h with ⟨h1, h2, h3⟩ | ⟨h1, h2⟩
    ·exact ⟨true, h1, Or.inl ⟨rfl, h2, h3⟩⟩
    ·exact ⟨false, h1, Or.inr ⟨rfl, h2⟩⟩))
   clear hR
   gi_region_with (first | (refine ⟨by simp, ?_⟩; refine RoundIn.mono hR'.out ?_; rintro e W3 ⟨bb, rfl, hW3⟩) | (refine RoundIn.mono hR'.out ?_; rintro e W3 ⟨bb, rfl, hW3⟩))
   all_goals
    obtain ⟨rfl, hJ3, hk3⟩ | ⟨rfl, hx3⟩ := hW3
    ·gi_wp2
     go_roundw
     case rel => exact ⟨k + 1, by omega, by simp, by rw [List.take_succ_eq_append_getElem hlt, ← hx'.out]; exact hJ3, hnx.trans (hbx.trans ((KP.of (Below.refl _ w2).drew hw2n).trans hk3))⟩
     case measure => simp [intOf]; omega
    ·gi_wp2
     refine bodyPost_ret (results_none rfl _ _ _) rfl ?_
     exact ⟨⟨_, rfl⟩, .inr ⟨_, by rw [hx'.out, ← List.take_succ_eq_append_getElem hlt]; exact List.take_prefix _ _, hx3⟩⟩
  ·obtain rfl : k = zs.length := by omega
   gi_wp2
   go_end0
   exact ⟨⟨_, rfl⟩, .inl ⟨_, rfl, by simpa using hJs⟩⟩

theorem tog_any (a b : Option Addr) (la lb ca cb : Nat) (w : World) : Calls Tryz.prog 14 #[.slice a la ca, .slice b lb cb] w fun e w' =>
  e = .returned (.func (.func 36) #[] #[.pointer (some ⟨w.heap.size, 0, none⟩), .pointer (some ⟨w.heap.size + 1, 0, none⟩)]) ∧ w' = (w.alloc (.cells #[.slice a la ca] 31)).alloc (.cells #[.slice b lb cb] 31) := by
 go_enter Tryz.func14, Tryz.ntmps14
 go_wp2
 go_ret
 exact ⟨rfl, rfl⟩

theorem tog_stops (n : Nat) (hn : 1 ≤ n) (gA gN n₀ : Nat) (a b : Option Addr) (ca cb : Nat) (zs : List NP) (w : World) (hn₀ : n₀ ≤ w.heap.size)
  (hA : At w gA 31 #[.slice a zs.length ca]) (hN : At w gN 31 #[.slice b zs.length cb]) (sA : NSl n₀ w a ca (zs.map (·.1.1))) (sN : NSl n₀ w b cb (zs.map (·.1.2))) :
  SeqStopsK Fence.wide n Tryz.prog 36 #[.pointer (some ⟨gA, 0, none⟩), .pointer (some ⟨gN, 0, none⟩)] (fun x : NP => #[num x.1.1, num x.1.2]) (KP n₀ gN) (fun ys => ys = zs) (fun pre => pre <+: zs) zs.length w :=
 fun l J Jx W hW hJ hJx hY h0 =>
  tog1_in n hn l gA gN n₀ a b ca cb zs J Jx hY W (Nat.le_trans hn₀ hW.size) hJ hJx (hA.on hW) (hN.on hW) (sA.below (hW.mono hn₀)) (sN.below (hW.mono hn₀)) h0
theorem cmpN_lt0b {X Y : Nat} (h : X < Y) : Uu X Y < 0 := by rw [Xo h]; decide
theorem cmpN_nlt0 {X Y : Nat} (h : ¬ X < Y) : ¬ Uu X Y < 0 := by unfold Uu; rw [if_neg h]; split <;> decide
def Jbb (P A : Nat) : Bool := decide (A ≠ 0) && decide (A < P)
theorem mayB_iff {P A : Nat} : Jbb P A = true ↔ A ≠ 0 ∧ A < P := by simp [Jbb]
theorem gmay_any (P Q G H A : Nat) (hP : P < 2 ^ 256) (hA : A < 2 ^ 256) (w : World) : Calls Tryz.prog 37 #[grp P Q G H, num A] w fun e w' => e = .returned (.bool (Jbb P A)) ∧ Below w.heap.size w w' := by
 have eqz := eqZ A hA
 by_cases h0 : A = 0
 ·rw [decide_eq_true h0] at eqz
  rw [show Jbb P A = false from by simp [Jbb, h0]]
  clear h0 hP hA
  go_enter Tryz.func37, Tryz.ntmps37
  have BW := Jfg (Below.refl w.heap.size w)
  go_upto_region 1 with fail
  generalize hW1 : ((w.alloc (.cells #[.int .u64 (wd P 0), .int .u64 (wd P 1), .int .u64 (wd P 2), .int .u64 (wd P 3), .int .u64 (wd Q 0), .int .u64 (wd Q 1), .int .u64 (wd Q 2), .int .u64 (wd Q 3), .int .u64 (wd G 0), .int .u64 (wd G 1), .int .u64 (wd G 2), .int .u64 (wd G 3), .int .u64 (wd H 0), .int .u64 (wd H 1), .int .u64 (wd H 2), .int .u64 (wd H 3)] 26)).alloc (.cells (ncs A) 24)) = W1 at *
  have Nr : At W1 (w.heap.size) _ _ := Jb hW1 ((At.at_ _ _ _ _ (by simp)).alloc _)
  have Na : At W1 (w.heap.size + 1) _ _ := Jb hW1 (At.at_ _ _ _ _ (by simp))
  have NB := gr_of hW1 (gr_alloc (gr_alloc BW.out _) _)
  clear hW1 BW 
  generalize w.heap.size + 1 = ga at *
  obtain ⟨gr, hg0⟩ : ∃ g, g = w.heap.size := ⟨_, rfl⟩
  rw [← hg0] at Nr ⊢
  clear hg0
  have Fr := Jfg Nr
  have Fa := Jfg Na
  have BW := Jfg NB
  clear NB Nr Na
  have Lr := Fr.out.lt
  have cr0 : W1.cell? ⟨gr, 0, none⟩ = some (.int .u64 (wd P 0 : Nat)) := Fr.out.cell 0
  have cr1 : W1.cell? ⟨gr, 1, none⟩ = some (.int .u64 (wd P 1 : Nat)) := Fr.out.cell 1
  have cr2 : W1.cell? ⟨gr, 2, none⟩ = some (.int .u64 (wd P 2 : Nat)) := Fr.out.cell 2
  have cr3 : W1.cell? ⟨gr, 3, none⟩ = some (.int .u64 (wd P 3 : Nat)) := Fr.out.cell 3
  have cr4 : W1.cell? ⟨gr, 4, none⟩ = some (.int .u64 (wd Q 0 : Nat)) := Fr.out.cell 4
  have cr5 : W1.cell? ⟨gr, 5, none⟩ = some (.int .u64 (wd Q 1 : Nat)) := Fr.out.cell 5
  have cr6 : W1.cell? ⟨gr, 6, none⟩ = some (.int .u64 (wd Q 2 : Nat)) := Fr.out.cell 6
  have cr7 : W1.cell? ⟨gr, 7, none⟩ = some (.int .u64 (wd Q 3 : Nat)) := Fr.out.cell 7
  have cr8 : W1.cell? ⟨gr, 8, none⟩ = some (.int .u64 (wd G 0 : Nat)) := Fr.out.cell 8
  have cr9 : W1.cell? ⟨gr, 9, none⟩ = some (.int .u64 (wd G 1)) := Fr.out.cell 9
  have cr10 : W1.cell? ⟨gr, 10, none⟩ = some (.int .u64 (wd G 2)) := Fr.out.cell 10
  have cr11 : W1.cell? ⟨gr, 11, none⟩ = some (.int .u64 (wd G 3)) := Fr.out.cell 11
  have cr12 : W1.cell? ⟨gr, 12, none⟩ = some (.int .u64 (wd H 0)) := Fr.out.cell 12
  have cr13 : W1.cell? ⟨gr, 13, none⟩ = some (.int .u64 (wd H 1)) := Fr.out.cell 13
  have cr14 : W1.cell? ⟨gr, 14, none⟩ = some (.int .u64 (wd H 2)) := Fr.out.cell 14
  have cr15 : W1.cell? ⟨gr, 15, none⟩ = some (.int .u64 (wd H 3)) := Fr.out.cell 15
  have La := Fa.out.lt
  have ca0 := Fa.out.c0; have ca1 := Fa.out.c1; have ca2 := Fa.out.c2; have ca3 := Fa.out.c3
  go_wp2
  go_ret
  exact ⟨rfl, BW.out⟩
 ·rw [decide_eq_false h0] at eqz
  have HC := Jfg (fun w => Uo A P hA hP w)
  have HK : Jbb P A = decide (Uu A P < 0) := by
   by_cases h : A < P
   ·simp [Jbb, h0, h, cmpN_lt0b h]
   ·simp only [Jbb, h, cmpN_nlt0 h, decide_false, Bool.and_false]
  rw [HK]
  clear h0 hP hA HK
  generalize Uu A P = k at *
  obtain ⟨V, hV⟩ : ∃ V, V = decide (k < 0) := ⟨_, rfl⟩
  rw [← hV]
  have HV := Jfg hV
  clear hV
  go_enter Tryz.func37, Tryz.ntmps37
  have BW := Jfg (Below.refl w.heap.size w)
  go_upto_region 1 with fail
  generalize hW1 : ((w.alloc (.cells #[.int .u64 (wd P 0), .int .u64 (wd P 1), .int .u64 (wd P 2), .int .u64 (wd P 3), .int .u64 (wd Q 0), .int .u64 (wd Q 1), .int .u64 (wd Q 2), .int .u64 (wd Q 3), .int .u64 (wd G 0), .int .u64 (wd G 1), .int .u64 (wd G 2), .int .u64 (wd G 3), .int .u64 (wd H 0), .int .u64 (wd H 1), .int .u64 (wd H 2), .int .u64 (wd H 3)] 26)).alloc (.cells (ncs A) 24)) = W1 at *
  have Nr : At W1 (w.heap.size) _ _ := Jb hW1 ((At.at_ _ _ _ _ (by simp)).alloc _)
  have Na : At W1 (w.heap.size + 1) _ _ := Jb hW1 (At.at_ _ _ _ _ (by simp))
  have NB := gr_of hW1 (gr_alloc (gr_alloc BW.out _) _)
  clear hW1 BW 
  generalize w.heap.size + 1 = ga at *
  obtain ⟨gr, hg0⟩ : ∃ g, g = w.heap.size := ⟨_, rfl⟩
  rw [← hg0] at Nr ⊢
  clear hg0
  have Fr := Jfg Nr
  have Fa := Jfg Na
  have BW := Jfg NB
  clear NB Nr Na
  have Lr := Fr.out.lt
  have cr0 : W1.cell? ⟨gr, 0, none⟩ = some (.int .u64 (wd P 0 : Nat)) := Fr.out.cell 0
  have cr1 : W1.cell? ⟨gr, 1, none⟩ = some (.int .u64 (wd P 1 : Nat)) := Fr.out.cell 1
  have cr2 : W1.cell? ⟨gr, 2, none⟩ = some (.int .u64 (wd P 2 : Nat)) := Fr.out.cell 2
  have cr3 : W1.cell? ⟨gr, 3, none⟩ = some (.int .u64 (wd P 3 : Nat)) := Fr.out.cell 3
  have cr4 : W1.cell? ⟨gr, 4, none⟩ = some (.int .u64 (wd Q 0 : Nat)) := Fr.out.cell 4
  have cr5 : W1.cell? ⟨gr, 5, none⟩ = some (.int .u64 (wd Q 1 : Nat)) := Fr.out.cell 5
  have cr6 : W1.cell? ⟨gr, 6, none⟩ = some (.int .u64 (wd Q 2 : Nat)) := Fr.out.cell 6
  have cr7 : W1.cell? ⟨gr, 7, none⟩ = some (.int .u64 (wd Q 3 : Nat)) := Fr.out.cell 7
  have cr8 : W1.cell? ⟨gr, 8, none⟩ = some (.int .u64 (wd G 0 : Nat)) := Fr.out.cell 8
  have cr9 : W1.cell? ⟨gr, 9, none⟩ = some (.int .u64 (wd G 1)) := Fr.out.cell 9
  have cr10 : W1.cell? ⟨gr, 10, none⟩ = some (.int .u64 (wd G 2)) := Fr.out.cell 10
  have cr11 : W1.cell? ⟨gr, 11, none⟩ = some (.int .u64 (wd G 3)) := Fr.out.cell 11
  have cr12 : W1.cell? ⟨gr, 12, none⟩ = some (.int .u64 (wd H 0)) := Fr.out.cell 12
  have cr13 : W1.cell? ⟨gr, 13, none⟩ = some (.int .u64 (wd H 1)) := Fr.out.cell 13
  have cr14 : W1.cell? ⟨gr, 14, none⟩ = some (.int .u64 (wd H 2)) := Fr.out.cell 14
  have cr15 : W1.cell? ⟨gr, 15, none⟩ = some (.int .u64 (wd H 3)) := Fr.out.cell 15
  have La := Fa.out.lt
  have ca0 := Fa.out.c0; have ca1 := Fa.out.c1; have ca2 := Fa.out.c2; have ca3 := Fa.out.c3
  go_wp2_with fail
  clear Lr cr0 cr1 cr2 cr3 cr4 cr5 cr6 cr7 cr8 cr9 cr10 cr11 cr12 cr13 cr14 cr15 La ca0 ca1 ca2 ca3
  clear eqz
  refine (HC.out _).mono ?_
  rintro e v2 ⟨rfl, z2⟩
  have Nr := Jfg (Fr.out.on z2)
  have Na := Jfg (Fa.out.on z2)
  have NB := Jfg (bel_tr BW.out z2)
  clear BW z2 Fr Fa
  have Fr := Nr
  have Fa := Na
  have BW := NB
  clear NB Nr Na
  by_cases hk : k < 0
  ·go_wp2
   go_ret
   exact ⟨by rw [HV.out, decide_eq_true hk]; rfl, BW.out⟩
  ·go_wp2
   go_ret
   exact ⟨by rw [HV.out, decide_eq_false (by omega)]; rfl, BW.out⟩

end Go.Proofs.YtodlpmepoakdlaaGreat
