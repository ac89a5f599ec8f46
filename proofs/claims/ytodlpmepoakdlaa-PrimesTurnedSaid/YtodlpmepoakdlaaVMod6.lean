/-
  mods: a power is gathered.
-/
import Derived.Test.YtodlpmepoakdlaaVMod5
import Derived.Test.YtodlpmepoakdlaaVSmall
namespace Go.Proofs.Ytodlpmepoakdlaa
set_option maxRecDepth 100000
open Go.RowKit
set_option linter.unusedSimpArgs false
set_option linter.unusedVariables false
attribute [local go_sem ↓] Go.wp_at_zero Go.wp_at_succ

set_option maxRecDepth 100000 in
set_option maxHeartbeats 8000000 in
theorem gather0_odd (gy gp gf gk gt gr X f Y : Nat) (w : World) (hyp : gy ≠ gp) (hfp : gf ≠ gp)
    (c1 : ∀ v, Kept gp w v → Calls Try.prog 101 #[num X, num X, .pointer (some ⟨gr, 0, none⟩)] v fun e w' => e = .returned (num Y) ∧ Below v.heap.size v w')
    (Py : At w gy 95 #[.func (.func 99) #[] #[.pointer (some ⟨gk, 0, none⟩)], .func (.func 100) #[] #[.pointer (some ⟨gr, 0, none⟩)], .func (.func 101) #[] #[.pointer (some ⟨gr, 0, none⟩)]]) (Pp : At w gp 24 #[.int .u64 (wd X 0 : Nat), .int .u64 (wd X 1 : Nat), .int .u64 (wd X 2 : Nat), .int .u64 (wd X 3 : Nat)]) (Pf : At w gf 24 #[.int .u64 (wd f 0 : Nat), .int .u64 (wd f 1 : Nat), .int .u64 (wd f 2 : Nat), .int .u64 (wd f 3 : Nat)]) :
    Calls Try.prog 89 #[.int .u64 0, .pointer (some ⟨gy, 0, none⟩), .pointer (some ⟨gp, 0, none⟩), .pointer (some ⟨gf, 0, none⟩)] w fun e w' => e = .returned (.tuple #[]) ∧ At w' gp 24 #[.int .u64 (wd Y 0 : Nat), .int .u64 (wd Y 1 : Nat), .int .u64 (wd Y 2 : Nat), .int .u64 (wd Y 3 : Nat)] ∧ Kept gp w w' := by
  have Hc1 := Lib.hid c1; have Fy := Lib.hid Py; have Fp := Lib.hid Pp; have Ff := Lib.hid Pf
  clear c1 Py Pp Pf
  have Ly := Fy.out.lt
  have cy0 : w.cell? ⟨gy, 0, none⟩ = some (.func (.func 99) #[] #[.pointer (some ⟨gk, 0, none⟩)]) := Fy.out.cell 0
  have cy1 : w.cell? ⟨gy, 1, none⟩ = some (.func (.func 100) #[] #[.pointer (some ⟨gr, 0, none⟩)]) := Fy.out.cell 1
  have cy2 : w.cell? ⟨gy, 2, none⟩ = some (.func (.func 101) #[] #[.pointer (some ⟨gr, 0, none⟩)]) := Fy.out.cell 2
  have Lp := Fp.out.lt
  have cp0 := Fp.out.c0
  have cp1 := Fp.out.c1
  have cp2 := Fp.out.c2
  have cp3 := Fp.out.c3
  go_enter Try.func89, Try.ntmps89
  go_wp2_with fail
  clear Ly cy0 cy1 cy2 Lp cp0 cp1 cp2 cp3
  refine (Hc1.out _ (Kept.ofBelow (Below.refl _ _))).mono ?_
  rintro e v ⟨rfl, z⟩
  have Ny := Lib.hid (Fy.out.on z); have Np := Lib.hid (Fp.out.on z); have Nf := Lib.hid (Ff.out.on z)
  clear Fy Fp Ff
  have Fy := Ny; have Fp := Np; have Ff := Nf
  clear Ny Np Nf
  have Lp := Fp.out.lt
  have cp0 := Fp.out.c0
  have cp1 := Fp.out.c1
  have cp2 := Fp.out.c2
  have cp3 := Fp.out.c3
  have fp0 : v.frozen? ⟨gp, 0, none⟩ = false := Fp.out.frozen 0
  have fp1 : v.frozen? ⟨gp, 1, none⟩ = false := Fp.out.frozen 1
  have fp2 : v.frozen? ⟨gp, 2, none⟩ = false := Fp.out.frozen 2
  have fp3 : v.frozen? ⟨gp, 3, none⟩ = false := Fp.out.frozen 3
  go_wp2_with fail
  go_end0
  exact ⟨rfl, put4_at Fp.out (.int .u64 (wd Y 0 : Nat)) (.int .u64 (wd Y 1 : Nat)) (.int .u64 (wd Y 2 : Nat)) (.int .u64 (wd Y 3 : Nat)), (Kept.ofBelow z).trans (Kept.put4 v gp (.int .u64 (wd Y 0 : Nat)) (.int .u64 (wd Y 1 : Nat)) (.int .u64 (wd Y 2 : Nat)) (.int .u64 (wd Y 3 : Nat)))⟩

set_option maxRecDepth 100000 in
set_option maxHeartbeats 8000000 in
theorem gather1_odd (gy gp gf gk gt gr X f Y Z : Nat) (w : World) (hyp : gy ≠ gp) (hfp : gf ≠ gp)
    (c1 : ∀ v, Kept gp w v → Calls Try.prog 101 #[num X, num X, .pointer (some ⟨gr, 0, none⟩)] v fun e w' => e = .returned (num Y) ∧ Below v.heap.size v w')
    (c2 : ∀ v, Kept gp w v → Calls Try.prog 101 #[num Y, num f, .pointer (some ⟨gr, 0, none⟩)] v fun e w' => e = .returned (num Z) ∧ Below v.heap.size v w')
    (Py : At w gy 95 #[.func (.func 99) #[] #[.pointer (some ⟨gk, 0, none⟩)], .func (.func 100) #[] #[.pointer (some ⟨gr, 0, none⟩)], .func (.func 101) #[] #[.pointer (some ⟨gr, 0, none⟩)]]) (Pp : At w gp 24 #[.int .u64 (wd X 0 : Nat), .int .u64 (wd X 1 : Nat), .int .u64 (wd X 2 : Nat), .int .u64 (wd X 3 : Nat)]) (Pf : At w gf 24 #[.int .u64 (wd f 0 : Nat), .int .u64 (wd f 1 : Nat), .int .u64 (wd f 2 : Nat), .int .u64 (wd f 3 : Nat)]) :
    Calls Try.prog 89 #[.int .u64 1, .pointer (some ⟨gy, 0, none⟩), .pointer (some ⟨gp, 0, none⟩), .pointer (some ⟨gf, 0, none⟩)] w fun e w' => e = .returned (.tuple #[]) ∧ At w' gp 24 #[.int .u64 (wd Z 0 : Nat), .int .u64 (wd Z 1 : Nat), .int .u64 (wd Z 2 : Nat), .int .u64 (wd Z 3 : Nat)] ∧ Kept gp w w' := by
  have Hc1 := Lib.hid c1; have Fy := Lib.hid Py; have Fp := Lib.hid Pp; have Ff := Lib.hid Pf
  clear c1 Py Pp Pf
  have Hc2 := Lib.hid c2
  clear c2
  have Ly := Fy.out.lt
  have cy0 : w.cell? ⟨gy, 0, none⟩ = some (.func (.func 99) #[] #[.pointer (some ⟨gk, 0, none⟩)]) := Fy.out.cell 0
  have cy1 : w.cell? ⟨gy, 1, none⟩ = some (.func (.func 100) #[] #[.pointer (some ⟨gr, 0, none⟩)]) := Fy.out.cell 1
  have cy2 : w.cell? ⟨gy, 2, none⟩ = some (.func (.func 101) #[] #[.pointer (some ⟨gr, 0, none⟩)]) := Fy.out.cell 2
  have Lp := Fp.out.lt
  have cp0 := Fp.out.c0
  have cp1 := Fp.out.c1
  have cp2 := Fp.out.c2
  have cp3 := Fp.out.c3
  go_enter Try.func89, Try.ntmps89
  go_wp2_with fail
  clear Ly cy0 cy1 cy2 Lp cp0 cp1 cp2 cp3
  refine (Hc1.out _ (Kept.ofBelow (Below.refl _ _))).mono ?_
  rintro e v ⟨rfl, z⟩
  have Ny := Lib.hid (Fy.out.on z); have Np := Lib.hid (Fp.out.on z); have Nf := Lib.hid (Ff.out.on z)
  clear Fy Fp Ff
  have Fy := Ny; have Fp := Np; have Ff := Nf
  clear Ny Np Nf
  have Lp := Fp.out.lt
  have cp0 := Fp.out.c0
  have cp1 := Fp.out.c1
  have cp2 := Fp.out.c2
  have cp3 := Fp.out.c3
  have fp0 : v.frozen? ⟨gp, 0, none⟩ = false := Fp.out.frozen 0
  have fp1 : v.frozen? ⟨gp, 1, none⟩ = false := Fp.out.frozen 1
  have fp2 : v.frozen? ⟨gp, 2, none⟩ = false := Fp.out.frozen 2
  have fp3 : v.frozen? ⟨gp, 3, none⟩ = false := Fp.out.frozen 3
  have Ly := Fy.out.lt
  have cy0 : v.cell? ⟨gy, 0, none⟩ = some (.func (.func 99) #[] #[.pointer (some ⟨gk, 0, none⟩)]) := Fy.out.cell 0
  have cy1 : v.cell? ⟨gy, 1, none⟩ = some (.func (.func 100) #[] #[.pointer (some ⟨gr, 0, none⟩)]) := Fy.out.cell 1
  have cy2 : v.cell? ⟨gy, 2, none⟩ = some (.func (.func 101) #[] #[.pointer (some ⟨gr, 0, none⟩)]) := Fy.out.cell 2
  have Lf := Ff.out.lt
  have cf0 := Ff.out.c0
  have cf1 := Ff.out.c1
  have cf2 := Ff.out.c2
  have cf3 := Ff.out.c3
  go_wp2_with fail
  clear Ly cy0 cy1 cy2 Lp cp0 cp1 cp2 cp3 fp0 fp1 fp2 fp3 Lf cf0 cf1 cf2 cf3
  have NK : Kept gp w (put4 v gp (.int .u64 (wd Y 0 : Nat)) (.int .u64 (wd Y 1 : Nat)) (.int .u64 (wd Y 2 : Nat)) (.int .u64 (wd Y 3 : Nat))) := (Kept.ofBelow z).trans (Kept.put4 v gp (.int .u64 (wd Y 0 : Nat)) (.int .u64 (wd Y 1 : Nat)) (.int .u64 (wd Y 2 : Nat)) (.int .u64 (wd Y 3 : Nat)))
  have Np := put4_at Fp.out (.int .u64 (wd Y 0 : Nat)) (.int .u64 (wd Y 1 : Nat)) (.int .u64 (wd Y 2 : Nat)) (.int .u64 (wd Y 3 : Nat))
  have Ny := put4_far Fy.out hyp (.int .u64 (wd Y 0 : Nat)) (.int .u64 (wd Y 1 : Nat)) (.int .u64 (wd Y 2 : Nat)) (.int .u64 (wd Y 3 : Nat))
  have Nf := put4_far Ff.out hfp (.int .u64 (wd Y 0 : Nat)) (.int .u64 (wd Y 1 : Nat)) (.int .u64 (wd Y 2 : Nat)) (.int .u64 (wd Y 3 : Nat))
  clear Fy Fp Ff z
  refine (Hc2.out _ NK).mono ?_
  rintro e u ⟨rfl, z⟩
  have Fp := Lib.hid (Np.on z)
  have NU := NK.trans (Kept.ofBelow z)
  clear Np Ny Nf NK z
  have Lp := Fp.out.lt
  have cp0 := Fp.out.c0
  have cp1 := Fp.out.c1
  have cp2 := Fp.out.c2
  have cp3 := Fp.out.c3
  have fp0 : u.frozen? ⟨gp, 0, none⟩ = false := Fp.out.frozen 0
  have fp1 : u.frozen? ⟨gp, 1, none⟩ = false := Fp.out.frozen 1
  have fp2 : u.frozen? ⟨gp, 2, none⟩ = false := Fp.out.frozen 2
  have fp3 : u.frozen? ⟨gp, 3, none⟩ = false := Fp.out.frozen 3
  go_wp2_with fail
  go_end0
  exact ⟨rfl, put4_at Fp.out (.int .u64 (wd Z 0 : Nat)) (.int .u64 (wd Z 1 : Nat)) (.int .u64 (wd Z 2 : Nat)) (.int .u64 (wd Z 3 : Nat)), NU.trans (Kept.put4 u gp (.int .u64 (wd Z 0 : Nat)) (.int .u64 (wd Z 1 : Nat)) (.int .u64 (wd Z 2 : Nat)) (.int .u64 (wd Z 3 : Nat)))⟩

set_option maxRecDepth 100000 in
set_option maxHeartbeats 8000000 in
theorem gather0_plain (gy gp gf gk X f Y : Nat) (w : World) (hyp : gy ≠ gp) (hfp : gf ≠ gp)
    (c1 : ∀ v, Kept gp w v → Calls Try.prog 103 #[num X, num X, .pointer (some ⟨gk, 0, none⟩)] v fun e w' => e = .returned (num Y) ∧ Below v.heap.size v w')
    (Py : At w gy 95 #[.func (.func 102) #[] #[], .func (.func 102) #[] #[], .func (.func 103) #[] #[.pointer (some ⟨gk, 0, none⟩)]]) (Pp : At w gp 24 #[.int .u64 (wd X 0 : Nat), .int .u64 (wd X 1 : Nat), .int .u64 (wd X 2 : Nat), .int .u64 (wd X 3 : Nat)]) (Pf : At w gf 24 #[.int .u64 (wd f 0 : Nat), .int .u64 (wd f 1 : Nat), .int .u64 (wd f 2 : Nat), .int .u64 (wd f 3 : Nat)]) :
    Calls Try.prog 89 #[.int .u64 0, .pointer (some ⟨gy, 0, none⟩), .pointer (some ⟨gp, 0, none⟩), .pointer (some ⟨gf, 0, none⟩)] w fun e w' => e = .returned (.tuple #[]) ∧ At w' gp 24 #[.int .u64 (wd Y 0 : Nat), .int .u64 (wd Y 1 : Nat), .int .u64 (wd Y 2 : Nat), .int .u64 (wd Y 3 : Nat)] ∧ Kept gp w w' := by
  have Hc1 := Lib.hid c1; have Fy := Lib.hid Py; have Fp := Lib.hid Pp; have Ff := Lib.hid Pf
  clear c1 Py Pp Pf
  have Ly := Fy.out.lt
  have cy0 : w.cell? ⟨gy, 0, none⟩ = some (.func (.func 102) #[] #[]) := Fy.out.cell 0
  have cy1 : w.cell? ⟨gy, 1, none⟩ = some (.func (.func 102) #[] #[]) := Fy.out.cell 1
  have cy2 : w.cell? ⟨gy, 2, none⟩ = some (.func (.func 103) #[] #[.pointer (some ⟨gk, 0, none⟩)]) := Fy.out.cell 2
  have Lp := Fp.out.lt
  have cp0 := Fp.out.c0
  have cp1 := Fp.out.c1
  have cp2 := Fp.out.c2
  have cp3 := Fp.out.c3
  go_enter Try.func89, Try.ntmps89
  go_wp2_with fail
  clear Ly cy0 cy1 cy2 Lp cp0 cp1 cp2 cp3
  refine (Hc1.out _ (Kept.ofBelow (Below.refl _ _))).mono ?_
  rintro e v ⟨rfl, z⟩
  have Ny := Lib.hid (Fy.out.on z); have Np := Lib.hid (Fp.out.on z); have Nf := Lib.hid (Ff.out.on z)
  clear Fy Fp Ff
  have Fy := Ny; have Fp := Np; have Ff := Nf
  clear Ny Np Nf
  have Lp := Fp.out.lt
  have cp0 := Fp.out.c0
  have cp1 := Fp.out.c1
  have cp2 := Fp.out.c2
  have cp3 := Fp.out.c3
  have fp0 : v.frozen? ⟨gp, 0, none⟩ = false := Fp.out.frozen 0
  have fp1 : v.frozen? ⟨gp, 1, none⟩ = false := Fp.out.frozen 1
  have fp2 : v.frozen? ⟨gp, 2, none⟩ = false := Fp.out.frozen 2
  have fp3 : v.frozen? ⟨gp, 3, none⟩ = false := Fp.out.frozen 3
  go_wp2_with fail
  go_end0
  exact ⟨rfl, put4_at Fp.out (.int .u64 (wd Y 0 : Nat)) (.int .u64 (wd Y 1 : Nat)) (.int .u64 (wd Y 2 : Nat)) (.int .u64 (wd Y 3 : Nat)), (Kept.ofBelow z).trans (Kept.put4 v gp (.int .u64 (wd Y 0 : Nat)) (.int .u64 (wd Y 1 : Nat)) (.int .u64 (wd Y 2 : Nat)) (.int .u64 (wd Y 3 : Nat)))⟩

set_option maxRecDepth 100000 in
set_option maxHeartbeats 8000000 in
theorem gather1_plain (gy gp gf gk X f Y Z : Nat) (w : World) (hyp : gy ≠ gp) (hfp : gf ≠ gp)
    (c1 : ∀ v, Kept gp w v → Calls Try.prog 103 #[num X, num X, .pointer (some ⟨gk, 0, none⟩)] v fun e w' => e = .returned (num Y) ∧ Below v.heap.size v w')
    (c2 : ∀ v, Kept gp w v → Calls Try.prog 103 #[num Y, num f, .pointer (some ⟨gk, 0, none⟩)] v fun e w' => e = .returned (num Z) ∧ Below v.heap.size v w')
    (Py : At w gy 95 #[.func (.func 102) #[] #[], .func (.func 102) #[] #[], .func (.func 103) #[] #[.pointer (some ⟨gk, 0, none⟩)]]) (Pp : At w gp 24 #[.int .u64 (wd X 0 : Nat), .int .u64 (wd X 1 : Nat), .int .u64 (wd X 2 : Nat), .int .u64 (wd X 3 : Nat)]) (Pf : At w gf 24 #[.int .u64 (wd f 0 : Nat), .int .u64 (wd f 1 : Nat), .int .u64 (wd f 2 : Nat), .int .u64 (wd f 3 : Nat)]) :
    Calls Try.prog 89 #[.int .u64 1, .pointer (some ⟨gy, 0, none⟩), .pointer (some ⟨gp, 0, none⟩), .pointer (some ⟨gf, 0, none⟩)] w fun e w' => e = .returned (.tuple #[]) ∧ At w' gp 24 #[.int .u64 (wd Z 0 : Nat), .int .u64 (wd Z 1 : Nat), .int .u64 (wd Z 2 : Nat), .int .u64 (wd Z 3 : Nat)] ∧ Kept gp w w' := by
  have Hc1 := Lib.hid c1; have Fy := Lib.hid Py; have Fp := Lib.hid Pp; have Ff := Lib.hid Pf
  clear c1 Py Pp Pf
  have Hc2 := Lib.hid c2
  clear c2
  have Ly := Fy.out.lt
  have cy0 : w.cell? ⟨gy, 0, none⟩ = some (.func (.func 102) #[] #[]) := Fy.out.cell 0
  have cy1 : w.cell? ⟨gy, 1, none⟩ = some (.func (.func 102) #[] #[]) := Fy.out.cell 1
  have cy2 : w.cell? ⟨gy, 2, none⟩ = some (.func (.func 103) #[] #[.pointer (some ⟨gk, 0, none⟩)]) := Fy.out.cell 2
  have Lp := Fp.out.lt
  have cp0 := Fp.out.c0
  have cp1 := Fp.out.c1
  have cp2 := Fp.out.c2
  have cp3 := Fp.out.c3
  go_enter Try.func89, Try.ntmps89
  go_wp2_with fail
  clear Ly cy0 cy1 cy2 Lp cp0 cp1 cp2 cp3
  refine (Hc1.out _ (Kept.ofBelow (Below.refl _ _))).mono ?_
  rintro e v ⟨rfl, z⟩
  have Ny := Lib.hid (Fy.out.on z); have Np := Lib.hid (Fp.out.on z); have Nf := Lib.hid (Ff.out.on z)
  clear Fy Fp Ff
  have Fy := Ny; have Fp := Np; have Ff := Nf
  clear Ny Np Nf
  have Lp := Fp.out.lt
  have cp0 := Fp.out.c0
  have cp1 := Fp.out.c1
  have cp2 := Fp.out.c2
  have cp3 := Fp.out.c3
  have fp0 : v.frozen? ⟨gp, 0, none⟩ = false := Fp.out.frozen 0
  have fp1 : v.frozen? ⟨gp, 1, none⟩ = false := Fp.out.frozen 1
  have fp2 : v.frozen? ⟨gp, 2, none⟩ = false := Fp.out.frozen 2
  have fp3 : v.frozen? ⟨gp, 3, none⟩ = false := Fp.out.frozen 3
  have Ly := Fy.out.lt
  have cy0 : v.cell? ⟨gy, 0, none⟩ = some (.func (.func 102) #[] #[]) := Fy.out.cell 0
  have cy1 : v.cell? ⟨gy, 1, none⟩ = some (.func (.func 102) #[] #[]) := Fy.out.cell 1
  have cy2 : v.cell? ⟨gy, 2, none⟩ = some (.func (.func 103) #[] #[.pointer (some ⟨gk, 0, none⟩)]) := Fy.out.cell 2
  have Lf := Ff.out.lt
  have cf0 := Ff.out.c0
  have cf1 := Ff.out.c1
  have cf2 := Ff.out.c2
  have cf3 := Ff.out.c3
  go_wp2_with fail
  clear Ly cy0 cy1 cy2 Lp cp0 cp1 cp2 cp3 fp0 fp1 fp2 fp3 Lf cf0 cf1 cf2 cf3
  have NK : Kept gp w (put4 v gp (.int .u64 (wd Y 0 : Nat)) (.int .u64 (wd Y 1 : Nat)) (.int .u64 (wd Y 2 : Nat)) (.int .u64 (wd Y 3 : Nat))) := (Kept.ofBelow z).trans (Kept.put4 v gp (.int .u64 (wd Y 0 : Nat)) (.int .u64 (wd Y 1 : Nat)) (.int .u64 (wd Y 2 : Nat)) (.int .u64 (wd Y 3 : Nat)))
  have Np := put4_at Fp.out (.int .u64 (wd Y 0 : Nat)) (.int .u64 (wd Y 1 : Nat)) (.int .u64 (wd Y 2 : Nat)) (.int .u64 (wd Y 3 : Nat))
  have Ny := put4_far Fy.out hyp (.int .u64 (wd Y 0 : Nat)) (.int .u64 (wd Y 1 : Nat)) (.int .u64 (wd Y 2 : Nat)) (.int .u64 (wd Y 3 : Nat))
  have Nf := put4_far Ff.out hfp (.int .u64 (wd Y 0 : Nat)) (.int .u64 (wd Y 1 : Nat)) (.int .u64 (wd Y 2 : Nat)) (.int .u64 (wd Y 3 : Nat))
  clear Fy Fp Ff z
  refine (Hc2.out _ NK).mono ?_
  rintro e u ⟨rfl, z⟩
  have Fp := Lib.hid (Np.on z)
  have NU := NK.trans (Kept.ofBelow z)
  clear Np Ny Nf NK z
  have Lp := Fp.out.lt
  have cp0 := Fp.out.c0
  have cp1 := Fp.out.c1
  have cp2 := Fp.out.c2
  have cp3 := Fp.out.c3
  have fp0 : u.frozen? ⟨gp, 0, none⟩ = false := Fp.out.frozen 0
  have fp1 : u.frozen? ⟨gp, 1, none⟩ = false := Fp.out.frozen 1
  have fp2 : u.frozen? ⟨gp, 2, none⟩ = false := Fp.out.frozen 2
  have fp3 : u.frozen? ⟨gp, 3, none⟩ = false := Fp.out.frozen 3
  go_wp2_with fail
  go_end0
  exact ⟨rfl, put4_at Fp.out (.int .u64 (wd Z 0 : Nat)) (.int .u64 (wd Z 1 : Nat)) (.int .u64 (wd Z 2 : Nat)) (.int .u64 (wd Z 3 : Nat)), NU.trans (Kept.put4 u gp (.int .u64 (wd Z 0 : Nat)) (.int .u64 (wd Z 1 : Nat)) (.int .u64 (wd Z 2 : Nat)) (.int .u64 (wd Z 3 : Nat)))⟩

end Go.Proofs.Ytodlpmepoakdlaa
