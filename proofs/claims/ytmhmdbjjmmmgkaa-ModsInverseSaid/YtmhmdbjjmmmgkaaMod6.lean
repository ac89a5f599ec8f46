/-
  mods: a power is gathered.
-/
import Derived.Test.YtmhmdbjjmmmgkaaMod5
namespace Go.Proofs.Ytmhmdbjjmmmgkaa
open Go.RowKit
set_option linter.unusedSimpArgs false
set_option linter.unusedVariables false
attribute [local go_sem ↓] Go.wp_at_zero Go.wp_at_succ

set_option maxRecDepth 100000 in
set_option maxHeartbeats 8000000 in
theorem gather0_odd (gy gp gf gk gt gr X f Y : Nat) (w : World) (hyp : gy ≠ gp) (hfp : gf ≠ gp)
    (c1 : ∀ v, Kept gp w v → Calls Try.prog 81 #[num X, num X, .pointer (some ⟨gr, 0, none⟩)] v fun e w' => e = .returned (num Y) ∧ Below v.heap.size v w')
    (Py : At w gy 82 #[.func (.func 79) #[] #[.pointer (some ⟨gk, 0, none⟩)], .func (.func 80) #[] #[.pointer (some ⟨gr, 0, none⟩)], .func (.func 81) #[] #[.pointer (some ⟨gr, 0, none⟩)]]) (Pp : At w gp 24 #[.int .u64 (wd X 0 : Nat), .int .u64 (wd X 1 : Nat), .int .u64 (wd X 2 : Nat), .int .u64 (wd X 3 : Nat)]) (Pf : At w gf 24 #[.int .u64 (wd f 0 : Nat), .int .u64 (wd f 1 : Nat), .int .u64 (wd f 2 : Nat), .int .u64 (wd f 3 : Nat)]) :
    Calls Try.prog 68 #[.int .u64 0, .pointer (some ⟨gy, 0, none⟩), .pointer (some ⟨gp, 0, none⟩), .pointer (some ⟨gf, 0, none⟩)] w fun e w' => e = .returned (.tuple #[]) ∧ At w' gp 24 #[.int .u64 (wd Y 0 : Nat), .int .u64 (wd Y 1 : Nat), .int .u64 (wd Y 2 : Nat), .int .u64 (wd Y 3 : Nat)] ∧ Kept gp w w' := by
  have Hc1 := Lib.hid c1; have Fy := Lib.hid Py; have Fp := Lib.hid Pp; have Ff := Lib.hid Pf
  clear c1 Py Pp Pf
  have Ly := Fy.out.lt
  have cy0 : w.cell? ⟨gy, 0, none⟩ = some (.func (.func 79) #[] #[.pointer (some ⟨gk, 0, none⟩)]) := Fy.out.cell 0
  have cy1 : w.cell? ⟨gy, 1, none⟩ = some (.func (.func 80) #[] #[.pointer (some ⟨gr, 0, none⟩)]) := Fy.out.cell 1
  have cy2 : w.cell? ⟨gy, 2, none⟩ = some (.func (.func 81) #[] #[.pointer (some ⟨gr, 0, none⟩)]) := Fy.out.cell 2
  have Lp := Fp.out.lt
  have cp0 : w.cell? ⟨gp, 0, none⟩ = some (.int .u64 (wd X 0 : Nat)) := Fp.out.cell 0
  have cp1 : w.cell? ⟨gp, 1, none⟩ = some (.int .u64 (wd X 1 : Nat)) := Fp.out.cell 1
  have cp2 : w.cell? ⟨gp, 2, none⟩ = some (.int .u64 (wd X 2 : Nat)) := Fp.out.cell 2
  have cp3 : w.cell? ⟨gp, 3, none⟩ = some (.int .u64 (wd X 3 : Nat)) := Fp.out.cell 3
  go_enter Try.func68, Try.ntmps68
  go_wp2_with fail
  clear Ly cy0 cy1 cy2 Lp cp0 cp1 cp2 cp3
  refine (Hc1.out _ (Kept.ofBelow (Below.refl _ _))).mono ?_
  rintro e v ⟨rfl, z⟩
  have Ny := Lib.hid (Fy.out.on z); have Np := Lib.hid (Fp.out.on z); have Nf := Lib.hid (Ff.out.on z)
  clear Fy Fp Ff
  have Fy := Ny; have Fp := Np; have Ff := Nf
  clear Ny Np Nf
  have Lp := Fp.out.lt
  have cp0 : v.cell? ⟨gp, 0, none⟩ = some (.int .u64 (wd X 0 : Nat)) := Fp.out.cell 0
  have cp1 : v.cell? ⟨gp, 1, none⟩ = some (.int .u64 (wd X 1 : Nat)) := Fp.out.cell 1
  have cp2 : v.cell? ⟨gp, 2, none⟩ = some (.int .u64 (wd X 2 : Nat)) := Fp.out.cell 2
  have cp3 : v.cell? ⟨gp, 3, none⟩ = some (.int .u64 (wd X 3 : Nat)) := Fp.out.cell 3
  have fp0 : v.frozen? ⟨gp, 0, none⟩ = false := Fp.out.frozen 0
  have fp1 : v.frozen? ⟨gp, 1, none⟩ = false := Fp.out.frozen 1
  have fp2 : v.frozen? ⟨gp, 2, none⟩ = false := Fp.out.frozen 2
  have fp3 : v.frozen? ⟨gp, 3, none⟩ = false := Fp.out.frozen 3
  go_wp2_with fail
  go_end0
  exact ⟨rfl, put4_at Fp.out (.int .u64 (wd Y 0 : Nat)) (.int .u64 (wd Y 1 : Nat)) (.int .u64 (wd Y 2 : Nat)) (.int .u64 (wd Y 3 : Nat)), (Kept.ofBelow z).trans (Kept.put4 v gp (.int .u64 (wd Y 0 : Nat)) (.int .u64 (wd Y 1 : Nat)) (.int .u64 (wd Y 2 : Nat)) (.int .u64 (wd Y 3 : Nat)))⟩

set_option maxRecDepth 100000 in
set_option maxHeartbeats 8000000 in
theorem gather1_odd (gy gp gf gk gt gr X f Y Z : Nat) (w : World) (hyp : gy ≠ gp) (hfp : gf ≠ gp)
    (c1 : ∀ v, Kept gp w v → Calls Try.prog 81 #[num X, num X, .pointer (some ⟨gr, 0, none⟩)] v fun e w' => e = .returned (num Y) ∧ Below v.heap.size v w')
    (c2 : ∀ v, Kept gp w v → Calls Try.prog 81 #[num Y, num f, .pointer (some ⟨gr, 0, none⟩)] v fun e w' => e = .returned (num Z) ∧ Below v.heap.size v w')
    (Py : At w gy 82 #[.func (.func 79) #[] #[.pointer (some ⟨gk, 0, none⟩)], .func (.func 80) #[] #[.pointer (some ⟨gr, 0, none⟩)], .func (.func 81) #[] #[.pointer (some ⟨gr, 0, none⟩)]]) (Pp : At w gp 24 #[.int .u64 (wd X 0 : Nat), .int .u64 (wd X 1 : Nat), .int .u64 (wd X 2 : Nat), .int .u64 (wd X 3 : Nat)]) (Pf : At w gf 24 #[.int .u64 (wd f 0 : Nat), .int .u64 (wd f 1 : Nat), .int .u64 (wd f 2 : Nat), .int .u64 (wd f 3 : Nat)]) :
    Calls Try.prog 68 #[.int .u64 1, .pointer (some ⟨gy, 0, none⟩), .pointer (some ⟨gp, 0, none⟩), .pointer (some ⟨gf, 0, none⟩)] w fun e w' => e = .returned (.tuple #[]) ∧ At w' gp 24 #[.int .u64 (wd Z 0 : Nat), .int .u64 (wd Z 1 : Nat), .int .u64 (wd Z 2 : Nat), .int .u64 (wd Z 3 : Nat)] ∧ Kept gp w w' := by
  have Hc1 := Lib.hid c1; have Fy := Lib.hid Py; have Fp := Lib.hid Pp; have Ff := Lib.hid Pf
  clear c1 Py Pp Pf
  have Hc2 := Lib.hid c2
  clear c2
  have Ly := Fy.out.lt
  have cy0 : w.cell? ⟨gy, 0, none⟩ = some (.func (.func 79) #[] #[.pointer (some ⟨gk, 0, none⟩)]) := Fy.out.cell 0
  have cy1 : w.cell? ⟨gy, 1, none⟩ = some (.func (.func 80) #[] #[.pointer (some ⟨gr, 0, none⟩)]) := Fy.out.cell 1
  have cy2 : w.cell? ⟨gy, 2, none⟩ = some (.func (.func 81) #[] #[.pointer (some ⟨gr, 0, none⟩)]) := Fy.out.cell 2
  have Lp := Fp.out.lt
  have cp0 : w.cell? ⟨gp, 0, none⟩ = some (.int .u64 (wd X 0 : Nat)) := Fp.out.cell 0
  have cp1 : w.cell? ⟨gp, 1, none⟩ = some (.int .u64 (wd X 1 : Nat)) := Fp.out.cell 1
  have cp2 : w.cell? ⟨gp, 2, none⟩ = some (.int .u64 (wd X 2 : Nat)) := Fp.out.cell 2
  have cp3 : w.cell? ⟨gp, 3, none⟩ = some (.int .u64 (wd X 3 : Nat)) := Fp.out.cell 3
  go_enter Try.func68, Try.ntmps68
  go_wp2_with fail
  clear Ly cy0 cy1 cy2 Lp cp0 cp1 cp2 cp3
  refine (Hc1.out _ (Kept.ofBelow (Below.refl _ _))).mono ?_
  rintro e v ⟨rfl, z⟩
  have Ny := Lib.hid (Fy.out.on z); have Np := Lib.hid (Fp.out.on z); have Nf := Lib.hid (Ff.out.on z)
  clear Fy Fp Ff
  have Fy := Ny; have Fp := Np; have Ff := Nf
  clear Ny Np Nf
  have Lp := Fp.out.lt
  have cp0 : v.cell? ⟨gp, 0, none⟩ = some (.int .u64 (wd X 0 : Nat)) := Fp.out.cell 0
  have cp1 : v.cell? ⟨gp, 1, none⟩ = some (.int .u64 (wd X 1 : Nat)) := Fp.out.cell 1
  have cp2 : v.cell? ⟨gp, 2, none⟩ = some (.int .u64 (wd X 2 : Nat)) := Fp.out.cell 2
  have cp3 : v.cell? ⟨gp, 3, none⟩ = some (.int .u64 (wd X 3 : Nat)) := Fp.out.cell 3
  have fp0 : v.frozen? ⟨gp, 0, none⟩ = false := Fp.out.frozen 0
  have fp1 : v.frozen? ⟨gp, 1, none⟩ = false := Fp.out.frozen 1
  have fp2 : v.frozen? ⟨gp, 2, none⟩ = false := Fp.out.frozen 2
  have fp3 : v.frozen? ⟨gp, 3, none⟩ = false := Fp.out.frozen 3
  have Ly := Fy.out.lt
  have cy0 : v.cell? ⟨gy, 0, none⟩ = some (.func (.func 79) #[] #[.pointer (some ⟨gk, 0, none⟩)]) := Fy.out.cell 0
  have cy1 : v.cell? ⟨gy, 1, none⟩ = some (.func (.func 80) #[] #[.pointer (some ⟨gr, 0, none⟩)]) := Fy.out.cell 1
  have cy2 : v.cell? ⟨gy, 2, none⟩ = some (.func (.func 81) #[] #[.pointer (some ⟨gr, 0, none⟩)]) := Fy.out.cell 2
  have Lf := Ff.out.lt
  have cf0 : v.cell? ⟨gf, 0, none⟩ = some (.int .u64 (wd f 0 : Nat)) := Ff.out.cell 0
  have cf1 : v.cell? ⟨gf, 1, none⟩ = some (.int .u64 (wd f 1 : Nat)) := Ff.out.cell 1
  have cf2 : v.cell? ⟨gf, 2, none⟩ = some (.int .u64 (wd f 2 : Nat)) := Ff.out.cell 2
  have cf3 : v.cell? ⟨gf, 3, none⟩ = some (.int .u64 (wd f 3 : Nat)) := Ff.out.cell 3
  go_wp2_with fail
  clear Ly cy0 cy1 cy2 Lp cp0 cp1 cp2 cp3 fp0 fp1 fp2 fp3 Lf cf0 cf1 cf2 cf3
  have NK : Kept gp w (put4 v gp (.int .u64 (wd Y 0 : Nat)) (.int .u64 (wd Y 1 : Nat)) (.int .u64 (wd Y 2 : Nat)) (.int .u64 (wd Y 3 : Nat))) := (Kept.ofBelow z).trans (Kept.put4 v gp (.int .u64 (wd Y 0 : Nat)) (.int .u64 (wd Y 1 : Nat)) (.int .u64 (wd Y 2 : Nat)) (.int .u64 (wd Y 3 : Nat)))
  have Np := put4_at Fp.out (.int .u64 (wd Y 0 : Nat)) (.int .u64 (wd Y 1 : Nat)) (.int .u64 (wd Y 2 : Nat)) (.int .u64 (wd Y 3 : Nat))
  have Ny := put4_far Fy.out hyp (.int .u64 (wd Y 0 : Nat)) (.int .u64 (wd Y 1 : Nat)) (.int .u64 (wd Y 2 : Nat)) (.int .u64 (wd Y 3 : Nat))
  have Nf := put4_far Ff.out hfp (.int .u64 (wd Y 0 : Nat)) (.int .u64 (wd Y 1 : Nat)) (.int .u64 (wd Y 2 : Nat)) (.int .u64 (wd Y 3 : Nat))
  clear Fy Fp Ff z
  refine (Hc2.out _ NK).mono ?_
  rintro e u ⟨rfl, z⟩
  have Fp := Lib.hid (Np.on z)
  have NU := NK.trans (Kept.ofBelow z)
  clear Np Ny Nf NK z
  have Lp := Fp.out.lt
  have cp0 : u.cell? ⟨gp, 0, none⟩ = some (.int .u64 (wd Y 0 : Nat)) := Fp.out.cell 0
  have cp1 : u.cell? ⟨gp, 1, none⟩ = some (.int .u64 (wd Y 1 : Nat)) := Fp.out.cell 1
  have cp2 : u.cell? ⟨gp, 2, none⟩ = some (.int .u64 (wd Y 2 : Nat)) := Fp.out.cell 2
  have cp3 : u.cell? ⟨gp, 3, none⟩ = some (.int .u64 (wd Y 3 : Nat)) := Fp.out.cell 3
  have fp0 : u.frozen? ⟨gp, 0, none⟩ = false := Fp.out.frozen 0
  have fp1 : u.frozen? ⟨gp, 1, none⟩ = false := Fp.out.frozen 1
  have fp2 : u.frozen? ⟨gp, 2, none⟩ = false := Fp.out.frozen 2
  have fp3 : u.frozen? ⟨gp, 3, none⟩ = false := Fp.out.frozen 3
  go_wp2_with fail
  go_end0
  exact ⟨rfl, put4_at Fp.out (.int .u64 (wd Z 0 : Nat)) (.int .u64 (wd Z 1 : Nat)) (.int .u64 (wd Z 2 : Nat)) (.int .u64 (wd Z 3 : Nat)), NU.trans (Kept.put4 u gp (.int .u64 (wd Z 0 : Nat)) (.int .u64 (wd Z 1 : Nat)) (.int .u64 (wd Z 2 : Nat)) (.int .u64 (wd Z 3 : Nat)))⟩

set_option maxRecDepth 100000 in
set_option maxHeartbeats 8000000 in
theorem gather0_plain (gy gp gf gk X f Y : Nat) (w : World) (hyp : gy ≠ gp) (hfp : gf ≠ gp)
    (c1 : ∀ v, Kept gp w v → Calls Try.prog 83 #[num X, num X, .pointer (some ⟨gk, 0, none⟩)] v fun e w' => e = .returned (num Y) ∧ Below v.heap.size v w')
    (Py : At w gy 82 #[.func (.func 82) #[] #[], .func (.func 82) #[] #[], .func (.func 83) #[] #[.pointer (some ⟨gk, 0, none⟩)]]) (Pp : At w gp 24 #[.int .u64 (wd X 0 : Nat), .int .u64 (wd X 1 : Nat), .int .u64 (wd X 2 : Nat), .int .u64 (wd X 3 : Nat)]) (Pf : At w gf 24 #[.int .u64 (wd f 0 : Nat), .int .u64 (wd f 1 : Nat), .int .u64 (wd f 2 : Nat), .int .u64 (wd f 3 : Nat)]) :
    Calls Try.prog 68 #[.int .u64 0, .pointer (some ⟨gy, 0, none⟩), .pointer (some ⟨gp, 0, none⟩), .pointer (some ⟨gf, 0, none⟩)] w fun e w' => e = .returned (.tuple #[]) ∧ At w' gp 24 #[.int .u64 (wd Y 0 : Nat), .int .u64 (wd Y 1 : Nat), .int .u64 (wd Y 2 : Nat), .int .u64 (wd Y 3 : Nat)] ∧ Kept gp w w' := by
  have Hc1 := Lib.hid c1; have Fy := Lib.hid Py; have Fp := Lib.hid Pp; have Ff := Lib.hid Pf
  clear c1 Py Pp Pf
  have Ly := Fy.out.lt
  have cy0 : w.cell? ⟨gy, 0, none⟩ = some (.func (.func 82) #[] #[]) := Fy.out.cell 0
  have cy1 : w.cell? ⟨gy, 1, none⟩ = some (.func (.func 82) #[] #[]) := Fy.out.cell 1
  have cy2 : w.cell? ⟨gy, 2, none⟩ = some (.func (.func 83) #[] #[.pointer (some ⟨gk, 0, none⟩)]) := Fy.out.cell 2
  have Lp := Fp.out.lt
  have cp0 : w.cell? ⟨gp, 0, none⟩ = some (.int .u64 (wd X 0 : Nat)) := Fp.out.cell 0
  have cp1 : w.cell? ⟨gp, 1, none⟩ = some (.int .u64 (wd X 1 : Nat)) := Fp.out.cell 1
  have cp2 : w.cell? ⟨gp, 2, none⟩ = some (.int .u64 (wd X 2 : Nat)) := Fp.out.cell 2
  have cp3 : w.cell? ⟨gp, 3, none⟩ = some (.int .u64 (wd X 3 : Nat)) := Fp.out.cell 3
  go_enter Try.func68, Try.ntmps68
  go_wp2_with fail
  clear Ly cy0 cy1 cy2 Lp cp0 cp1 cp2 cp3
  refine (Hc1.out _ (Kept.ofBelow (Below.refl _ _))).mono ?_
  rintro e v ⟨rfl, z⟩
  have Ny := Lib.hid (Fy.out.on z); have Np := Lib.hid (Fp.out.on z); have Nf := Lib.hid (Ff.out.on z)
  clear Fy Fp Ff
  have Fy := Ny; have Fp := Np; have Ff := Nf
  clear Ny Np Nf
  have Lp := Fp.out.lt
  have cp0 : v.cell? ⟨gp, 0, none⟩ = some (.int .u64 (wd X 0 : Nat)) := Fp.out.cell 0
  have cp1 : v.cell? ⟨gp, 1, none⟩ = some (.int .u64 (wd X 1 : Nat)) := Fp.out.cell 1
  have cp2 : v.cell? ⟨gp, 2, none⟩ = some (.int .u64 (wd X 2 : Nat)) := Fp.out.cell 2
  have cp3 : v.cell? ⟨gp, 3, none⟩ = some (.int .u64 (wd X 3 : Nat)) := Fp.out.cell 3
  have fp0 : v.frozen? ⟨gp, 0, none⟩ = false := Fp.out.frozen 0
  have fp1 : v.frozen? ⟨gp, 1, none⟩ = false := Fp.out.frozen 1
  have fp2 : v.frozen? ⟨gp, 2, none⟩ = false := Fp.out.frozen 2
  have fp3 : v.frozen? ⟨gp, 3, none⟩ = false := Fp.out.frozen 3
  go_wp2_with fail
  go_end0
  exact ⟨rfl, put4_at Fp.out (.int .u64 (wd Y 0 : Nat)) (.int .u64 (wd Y 1 : Nat)) (.int .u64 (wd Y 2 : Nat)) (.int .u64 (wd Y 3 : Nat)), (Kept.ofBelow z).trans (Kept.put4 v gp (.int .u64 (wd Y 0 : Nat)) (.int .u64 (wd Y 1 : Nat)) (.int .u64 (wd Y 2 : Nat)) (.int .u64 (wd Y 3 : Nat)))⟩

set_option maxRecDepth 100000 in
set_option maxHeartbeats 8000000 in
theorem gather1_plain (gy gp gf gk X f Y Z : Nat) (w : World) (hyp : gy ≠ gp) (hfp : gf ≠ gp)
    (c1 : ∀ v, Kept gp w v → Calls Try.prog 83 #[num X, num X, .pointer (some ⟨gk, 0, none⟩)] v fun e w' => e = .returned (num Y) ∧ Below v.heap.size v w')
    (c2 : ∀ v, Kept gp w v → Calls Try.prog 83 #[num Y, num f, .pointer (some ⟨gk, 0, none⟩)] v fun e w' => e = .returned (num Z) ∧ Below v.heap.size v w')
    (Py : At w gy 82 #[.func (.func 82) #[] #[], .func (.func 82) #[] #[], .func (.func 83) #[] #[.pointer (some ⟨gk, 0, none⟩)]]) (Pp : At w gp 24 #[.int .u64 (wd X 0 : Nat), .int .u64 (wd X 1 : Nat), .int .u64 (wd X 2 : Nat), .int .u64 (wd X 3 : Nat)]) (Pf : At w gf 24 #[.int .u64 (wd f 0 : Nat), .int .u64 (wd f 1 : Nat), .int .u64 (wd f 2 : Nat), .int .u64 (wd f 3 : Nat)]) :
    Calls Try.prog 68 #[.int .u64 1, .pointer (some ⟨gy, 0, none⟩), .pointer (some ⟨gp, 0, none⟩), .pointer (some ⟨gf, 0, none⟩)] w fun e w' => e = .returned (.tuple #[]) ∧ At w' gp 24 #[.int .u64 (wd Z 0 : Nat), .int .u64 (wd Z 1 : Nat), .int .u64 (wd Z 2 : Nat), .int .u64 (wd Z 3 : Nat)] ∧ Kept gp w w' := by
  have Hc1 := Lib.hid c1; have Fy := Lib.hid Py; have Fp := Lib.hid Pp; have Ff := Lib.hid Pf
  clear c1 Py Pp Pf
  have Hc2 := Lib.hid c2
  clear c2
  have Ly := Fy.out.lt
  have cy0 : w.cell? ⟨gy, 0, none⟩ = some (.func (.func 82) #[] #[]) := Fy.out.cell 0
  have cy1 : w.cell? ⟨gy, 1, none⟩ = some (.func (.func 82) #[] #[]) := Fy.out.cell 1
  have cy2 : w.cell? ⟨gy, 2, none⟩ = some (.func (.func 83) #[] #[.pointer (some ⟨gk, 0, none⟩)]) := Fy.out.cell 2
  have Lp := Fp.out.lt
  have cp0 : w.cell? ⟨gp, 0, none⟩ = some (.int .u64 (wd X 0 : Nat)) := Fp.out.cell 0
  have cp1 : w.cell? ⟨gp, 1, none⟩ = some (.int .u64 (wd X 1 : Nat)) := Fp.out.cell 1
  have cp2 : w.cell? ⟨gp, 2, none⟩ = some (.int .u64 (wd X 2 : Nat)) := Fp.out.cell 2
  have cp3 : w.cell? ⟨gp, 3, none⟩ = some (.int .u64 (wd X 3 : Nat)) := Fp.out.cell 3
  go_enter Try.func68, Try.ntmps68
  go_wp2_with fail
  clear Ly cy0 cy1 cy2 Lp cp0 cp1 cp2 cp3
  refine (Hc1.out _ (Kept.ofBelow (Below.refl _ _))).mono ?_
  rintro e v ⟨rfl, z⟩
  have Ny := Lib.hid (Fy.out.on z); have Np := Lib.hid (Fp.out.on z); have Nf := Lib.hid (Ff.out.on z)
  clear Fy Fp Ff
  have Fy := Ny; have Fp := Np; have Ff := Nf
  clear Ny Np Nf
  have Lp := Fp.out.lt
  have cp0 : v.cell? ⟨gp, 0, none⟩ = some (.int .u64 (wd X 0 : Nat)) := Fp.out.cell 0
  have cp1 : v.cell? ⟨gp, 1, none⟩ = some (.int .u64 (wd X 1 : Nat)) := Fp.out.cell 1
  have cp2 : v.cell? ⟨gp, 2, none⟩ = some (.int .u64 (wd X 2 : Nat)) := Fp.out.cell 2
  have cp3 : v.cell? ⟨gp, 3, none⟩ = some (.int .u64 (wd X 3 : Nat)) := Fp.out.cell 3
  have fp0 : v.frozen? ⟨gp, 0, none⟩ = false := Fp.out.frozen 0
  have fp1 : v.frozen? ⟨gp, 1, none⟩ = false := Fp.out.frozen 1
  have fp2 : v.frozen? ⟨gp, 2, none⟩ = false := Fp.out.frozen 2
  have fp3 : v.frozen? ⟨gp, 3, none⟩ = false := Fp.out.frozen 3
  have Ly := Fy.out.lt
  have cy0 : v.cell? ⟨gy, 0, none⟩ = some (.func (.func 82) #[] #[]) := Fy.out.cell 0
  have cy1 : v.cell? ⟨gy, 1, none⟩ = some (.func (.func 82) #[] #[]) := Fy.out.cell 1
  have cy2 : v.cell? ⟨gy, 2, none⟩ = some (.func (.func 83) #[] #[.pointer (some ⟨gk, 0, none⟩)]) := Fy.out.cell 2
  have Lf := Ff.out.lt
  have cf0 : v.cell? ⟨gf, 0, none⟩ = some (.int .u64 (wd f 0 : Nat)) := Ff.out.cell 0
  have cf1 : v.cell? ⟨gf, 1, none⟩ = some (.int .u64 (wd f 1 : Nat)) := Ff.out.cell 1
  have cf2 : v.cell? ⟨gf, 2, none⟩ = some (.int .u64 (wd f 2 : Nat)) := Ff.out.cell 2
  have cf3 : v.cell? ⟨gf, 3, none⟩ = some (.int .u64 (wd f 3 : Nat)) := Ff.out.cell 3
  go_wp2_with fail
  clear Ly cy0 cy1 cy2 Lp cp0 cp1 cp2 cp3 fp0 fp1 fp2 fp3 Lf cf0 cf1 cf2 cf3
  have NK : Kept gp w (put4 v gp (.int .u64 (wd Y 0 : Nat)) (.int .u64 (wd Y 1 : Nat)) (.int .u64 (wd Y 2 : Nat)) (.int .u64 (wd Y 3 : Nat))) := (Kept.ofBelow z).trans (Kept.put4 v gp (.int .u64 (wd Y 0 : Nat)) (.int .u64 (wd Y 1 : Nat)) (.int .u64 (wd Y 2 : Nat)) (.int .u64 (wd Y 3 : Nat)))
  have Np := put4_at Fp.out (.int .u64 (wd Y 0 : Nat)) (.int .u64 (wd Y 1 : Nat)) (.int .u64 (wd Y 2 : Nat)) (.int .u64 (wd Y 3 : Nat))
  have Ny := put4_far Fy.out hyp (.int .u64 (wd Y 0 : Nat)) (.int .u64 (wd Y 1 : Nat)) (.int .u64 (wd Y 2 : Nat)) (.int .u64 (wd Y 3 : Nat))
  have Nf := put4_far Ff.out hfp (.int .u64 (wd Y 0 : Nat)) (.int .u64 (wd Y 1 : Nat)) (.int .u64 (wd Y 2 : Nat)) (.int .u64 (wd Y 3 : Nat))
  clear Fy Fp Ff z
  refine (Hc2.out _ NK).mono ?_
  rintro e u ⟨rfl, z⟩
  have Fp := Lib.hid (Np.on z)
  have NU := NK.trans (Kept.ofBelow z)
  clear Np Ny Nf NK z
  have Lp := Fp.out.lt
  have cp0 : u.cell? ⟨gp, 0, none⟩ = some (.int .u64 (wd Y 0 : Nat)) := Fp.out.cell 0
  have cp1 : u.cell? ⟨gp, 1, none⟩ = some (.int .u64 (wd Y 1 : Nat)) := Fp.out.cell 1
  have cp2 : u.cell? ⟨gp, 2, none⟩ = some (.int .u64 (wd Y 2 : Nat)) := Fp.out.cell 2
  have cp3 : u.cell? ⟨gp, 3, none⟩ = some (.int .u64 (wd Y 3 : Nat)) := Fp.out.cell 3
  have fp0 : u.frozen? ⟨gp, 0, none⟩ = false := Fp.out.frozen 0
  have fp1 : u.frozen? ⟨gp, 1, none⟩ = false := Fp.out.frozen 1
  have fp2 : u.frozen? ⟨gp, 2, none⟩ = false := Fp.out.frozen 2
  have fp3 : u.frozen? ⟨gp, 3, none⟩ = false := Fp.out.frozen 3
  go_wp2_with fail
  go_end0
  exact ⟨rfl, put4_at Fp.out (.int .u64 (wd Z 0 : Nat)) (.int .u64 (wd Z 1 : Nat)) (.int .u64 (wd Z 2 : Nat)) (.int .u64 (wd Z 3 : Nat)), NU.trans (Kept.put4 u gp (.int .u64 (wd Z 0 : Nat)) (.int .u64 (wd Z 1 : Nat)) (.int .u64 (wd Z 2 : Nat)) (.int .u64 (wd Z 3 : Nat)))⟩

end Go.Proofs.Ytmhmdbjjmmmgkaa
