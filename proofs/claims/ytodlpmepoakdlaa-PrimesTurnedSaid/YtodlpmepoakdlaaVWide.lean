/-
  divides.Wide.
-/
import Derived.Test.YtodlpmepoakdlaaVDiv
import Derived.Test.YtodlpmepoakdlaaVSmall
namespace Go.Proofs.Ytodlpmepoakdlaa
set_option maxRecDepth 100000
open Go.RowKit
set_option linter.unusedSimpArgs false
set_option linter.unusedVariables false
attribute [local go_sem ↓] Go.wp_at_zero Go.wp_at_succ

set_option maxHeartbeats 1000000 in
theorem wide_some (A R M Q y Q2 r : Nat)
    (C : ∀ w, Calls Try.prog 73 #[num R, num M] w fun e w' => e = .returned (.tuple #[num Q, num y, .int .i64 0]) ∧ Below w.heap.size w w')
    (D : ∀ w, Calls Try.prog 84 #[num y, num A, num M] w fun e w' => e = .returned (.tuple #[num Q2, num r]) ∧ Below w.heap.size w w') (w : World) :
    Calls Try.prog 76 #[num A, num R, num M] w fun e w' => e = .returned (.tuple #[num r, .int .i64 0]) ∧ Below w.heap.size w w' := by
  have HC := Lib.hid C
  have HD := Lib.hid D
  clear C D
  go_enter Try.func76, Try.ntmps76
  go_wp2_with fail
  have BW := Lib.hid (Below.refl w.heap.size w)
  generalize hW1 : ((((w.alloc (.cells #[.int .u64 (wd A 0 : Nat), .int .u64 (wd A 1 : Nat), .int .u64 (wd A 2 : Nat), .int .u64 (wd A 3 : Nat)] 24)).alloc (.cells #[.int .u64 (wd R 0 : Nat), .int .u64 (wd R 1 : Nat), .int .u64 (wd R 2 : Nat), .int .u64 (wd R 3 : Nat)] 24)).alloc (.cells #[.int .u64 (wd M 0 : Nat), .int .u64 (wd M 1 : Nat), .int .u64 (wd M 2 : Nat), .int .u64 (wd M 3 : Nat)] 24)).alloc (.cells #[.int .u64 0, .int .u64 0, .int .u64 0, .int .u64 0] 24)) = W1 at *
  have Na : At W1 (w.heap.size) _ _ := at_of hW1 ((((At.at_ _ _ _ _ (by simp)).alloc _).alloc _).alloc _)
  have Nh : At W1 (w.heap.size + 1) _ _ := at_of hW1 (((At.at_ _ _ _ _ (by simp)).alloc _).alloc _)
  have Nm : At W1 (w.heap.size + 1 + 1) _ _ := at_of hW1 ((At.at_ _ _ _ _ (by simp)).alloc _)
  have Nx : At W1 (w.heap.size + 1 + 1 + 1) _ _ := at_of hW1 (At.at_ _ _ _ _ (by simp))
  have Ex : w.heap.size ≤ w.heap.size + 1 + 1 + 1 := by have := BW.out.size; omega
  have Dax : w.heap.size ≠ w.heap.size + 1 + 1 + 1 := by omega
  have Dhx : w.heap.size + 1 ≠ w.heap.size + 1 + 1 + 1 := by omega
  have Dmx : w.heap.size + 1 + 1 ≠ w.heap.size + 1 + 1 + 1 := by omega
  have NB := gr_of hW1 (gr_alloc (gr_alloc (gr_alloc (gr_alloc BW.out _) _) _) _)
  clear BW
  clear hW1
  generalize w.heap.size + 1 + 1 + 1 = gx at *
  generalize w.heap.size + 1 + 1 = gm at *
  generalize w.heap.size + 1 = gh at *
  obtain ⟨ga, hg0⟩ : ∃ g, g = w.heap.size := ⟨_, rfl⟩
  rw [← hg0] at Na ⊢
  rw [← hg0] at Dax
  clear hg0
  have Fa := Lib.hid Na
  have Fh := Lib.hid Nh
  have Fm := Lib.hid Nm
  have Fx := Lib.hid Nx
  have BW := Lib.hid NB
  clear NB Na Nh Nm Nx
  refine (HC.out _).mono ?_
  rintro e v2 ⟨rfl, z2⟩
  have Na := Lib.hid (Fa.out.on z2)
  have Nh := Lib.hid (Fh.out.on z2)
  have Nm := Lib.hid (Fm.out.on z2)
  have Nx := Lib.hid (Fx.out.on z2)
  have NB := Lib.hid (bel_tr BW.out z2)
  clear BW z2 Fa Fh Fm Fx
  have Fa := Na
  have Fh := Nh
  have Fm := Nm
  have Fx := Nx
  have BW := NB
  clear NB Na Nh Nm Nx
  have La := Fa.out.lt
  have ca0 := Fa.out.c0
  have ca1 := Fa.out.c1
  have ca2 := Fa.out.c2
  have ca3 := Fa.out.c3
  have Lm := Fm.out.lt
  have cm0 := Fm.out.c0
  have cm1 := Fm.out.c1
  have cm2 := Fm.out.c2
  have cm3 := Fm.out.c3
  go_wp2_with fail
  generalize hW3 : ((v2.alloc (.cells #[.int .u64 (wd Q 0 : Nat), .int .u64 (wd Q 1 : Nat), .int .u64 (wd Q 2 : Nat), .int .u64 (wd Q 3 : Nat)] 24)).alloc (.cells #[.int .u64 (wd y 0 : Nat), .int .u64 (wd y 1 : Nat), .int .u64 (wd y 2 : Nat), .int .u64 (wd y 3 : Nat)] 24)) = W3 at *
  clear La ca0 ca1 ca2 ca3 Lm cm0 cm1 cm2 cm3
  have Nq : At W3 (v2.heap.size) _ _ := at_of hW3 ((At.at_ _ _ _ _ (by simp)).alloc _)
  have Dxq : gx ≠ v2.heap.size := by have := Fx.out.lt; omega
  have Ny : At W3 (v2.heap.size + 1) _ _ := at_of hW3 (At.at_ _ _ _ _ (by simp))
  have Ey : w.heap.size ≤ v2.heap.size + 1 := by have := BW.out.size; omega
  have Day : ga ≠ v2.heap.size + 1 := by have := Fa.out.lt; omega
  have Dhy : gh ≠ v2.heap.size + 1 := by have := Fh.out.lt; omega
  have Dmy : gm ≠ v2.heap.size + 1 := by have := Fm.out.lt; omega
  have Dxy : gx ≠ v2.heap.size + 1 := by have := Fx.out.lt; omega
  have Dqy : v2.heap.size ≠ v2.heap.size + 1 := by omega
  have Na := at_of hW3 ((Fa.out.alloc _).alloc _)
  have Nh := at_of hW3 ((Fh.out.alloc _).alloc _)
  have Nm := at_of hW3 ((Fm.out.alloc _).alloc _)
  have Nx := at_of hW3 ((Fx.out.alloc _).alloc _)
  have NB := gr_of hW3 (gr_alloc (gr_alloc BW.out _) _)
  clear BW Fa Fh Fm Fx
  clear hW3
  generalize v2.heap.size + 1 = gy at *
  generalize v2.heap.size = gq at *
  have Fa := Lib.hid Na
  have Fh := Lib.hid Nh
  have Fm := Lib.hid Nm
  have Fx := Lib.hid Nx
  have Fq := Lib.hid Nq
  have Fy := Lib.hid Ny
  have BW := Lib.hid NB
  clear NB Na Nh Nm Nx Nq Ny
  clear Fh
  clear Fq
  refine (HD.out _).mono ?_
  rintro e v4 ⟨rfl, z4⟩
  have Na := Lib.hid (Fa.out.on z4)
  have Nm := Lib.hid (Fm.out.on z4)
  have Nx := Lib.hid (Fx.out.on z4)
  have Ny := Lib.hid (Fy.out.on z4)
  have NB := Lib.hid (bel_tr BW.out z4)
  clear BW z4 Fa Fm Fx Fy
  have Fa := Na
  have Fm := Nm
  have Fx := Nx
  have Fy := Ny
  have BW := NB
  clear NB Na Nm Nx Ny
  clear Fa
  clear Fm
  have Ly := Fy.out.lt
  have cy0 := Fy.out.c0
  have cy1 := Fy.out.c1
  have cy2 := Fy.out.c2
  have cy3 := Fy.out.c3
  have fy0 : v4.frozen? ⟨gy, 0, none⟩ = false := Fy.out.frozen 0
  have fy1 : v4.frozen? ⟨gy, 1, none⟩ = false := Fy.out.frozen 1
  have fy2 : v4.frozen? ⟨gy, 2, none⟩ = false := Fy.out.frozen 2
  have fy3 : v4.frozen? ⟨gy, 3, none⟩ = false := Fy.out.frozen 3
  have Lx := Fx.out.lt
  have cx0 : v4.cell? ⟨gx, 0, none⟩ = some (.int .u64 0) := Fx.out.cell 0
  have cx1 : v4.cell? ⟨gx, 1, none⟩ = some (.int .u64 0) := Fx.out.cell 1
  have cx2 : v4.cell? ⟨gx, 2, none⟩ = some (.int .u64 0) := Fx.out.cell 2
  have cx3 : v4.cell? ⟨gx, 3, none⟩ = some (.int .u64 0) := Fx.out.cell 3
  have fx0 : v4.frozen? ⟨gx, 0, none⟩ = false := Fx.out.frozen 0
  have fx1 : v4.frozen? ⟨gx, 1, none⟩ = false := Fx.out.frozen 1
  have fx2 : v4.frozen? ⟨gx, 2, none⟩ = false := Fx.out.frozen 2
  have fx3 : v4.frozen? ⟨gx, 3, none⟩ = false := Fx.out.frozen 3
  go_wp2_with fail
  generalize hW5 : ((((((((v4.setCell ⟨gy, 0, none⟩ (.int .u64 (wd r 0 : Nat))).setCell ⟨gy, 1, none⟩ (.int .u64 (wd r 1 : Nat))).setCell ⟨gy, 2, none⟩ (.int .u64 (wd r 2 : Nat))).setCell ⟨gy, 3, none⟩ (.int .u64 (wd r 3 : Nat))).setCell ⟨gx, 0, none⟩ (.int .u64 (wd r 0 : Nat))).setCell ⟨gx, 1, none⟩ (.int .u64 (wd r 1 : Nat))).setCell ⟨gx, 2, none⟩ (.int .u64 (wd r 2 : Nat))).setCell ⟨gx, 3, none⟩ (.int .u64 (wd r 3 : Nat))) = W5 at *
  clear Ly cy0 cy1 cy2 cy3 fy0 fy1 fy2 fy3 Lx cx0 cx1 cx2 cx3 fx0 fx1 fx2 fx3
  have Nx_1 := at_of hW5 ((((Fx.out).far4 Dxy _ _ _ _)).put4 _ _ _ _)
  have Ny_1 := at_of hW5 ((((Fy.out).put4 _ _ _ _)).far4 Dxy.symm _ _ _ _)
  have NB_1 := gr_of hW5 ((((((((((BW.out).setCell Ey _).setCell Ey _).setCell Ey _).setCell Ey _)).setCell Ex _).setCell Ex _).setCell Ex _).setCell Ex _)
  have Nx := Nx_1
  have Ny := Ny_1
  have NB := NB_1
  clear BW Fx Fy Nx_1 Ny_1 NB_1
  clear hW5
  have Fx := Lib.hid Nx
  have Fy := Lib.hid Ny
  have BW := Lib.hid NB
  clear NB Nx Ny
  have Lx := Fx.out.lt
  have cx0 := Fx.out.c0
  have cx1 := Fx.out.c1
  have cx2 := Fx.out.c2
  have cx3 := Fx.out.c3
  refine bodyPost_ret (v := .tuple #[num r, .int .i64 0]) (by simp [results, Try.results76, go_sem, *]) rfl ⟨rfl, BW.out⟩

/-- divides.Wide -/
theorem wide_ex (A R M : Nat) (hA : A < 2 ^ 256) (hR : R < 2 ^ 256) (hM : M < 2 ^ 256) (hM0 : M ≠ 0) : ∃ r : Nat, r < M ∧ r = wide R A % M ∧
    ∀ w, Calls Try.prog 76 #[num A, num R, num M] w fun e w' => e = .returned (.tuple #[num r, .int .i64 0]) ∧ Below w.heap.size w w' := by
  obtain ⟨Q, y, hQ, hy, he, C⟩ := div_ex R M hR hM hM0
  obtain ⟨Q2, r, hQ2, hr, he2, D⟩ := behind_ex y A M hy hA hM
  refine ⟨r, hr, ?_, fun w => wide_some A R M Q y Q2 r C D w⟩
  have : wide R A = (Q * 2 ^ 256 + Q2) * M + r := by
    unfold wide at he2 ⊢
    rw [he]
    generalize 2 ^ 256 = b at he2 ⊢
    rw [Nat.add_mul, Nat.add_mul, Nat.add_assoc, he2, ← Nat.add_assoc, Nat.mul_assoc Q M, Nat.mul_comm M b, ← Nat.mul_assoc]
  rw [this, Nat.mul_comm, Nat.mul_add_mod, Nat.mod_eq_of_lt hr]
end Go.Proofs.Ytodlpmepoakdlaa
