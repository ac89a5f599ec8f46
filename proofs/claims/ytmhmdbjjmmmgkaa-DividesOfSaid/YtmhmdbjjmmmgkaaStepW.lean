/-
  divides.step: one bit more of a division.
-/
import Derived.Test.YtmhmdbjjmmmgkaaCmp
import Derived.Test.YtmhmdbjjmmmgkaaLv
import Derived.Deep.DeepCutAuto
namespace Go.Proofs.Ytmhmdbjjmmmgkaa
open Go.RowKit
set_option linter.unusedSimpArgs false
set_option linter.unusedVariables false
attribute [local go_sem ↓] Go.wp_at_zero Go.wp_at_succ

set_option maxHeartbeats 2000000 in
theorem step_words (a0 a1 a2 a3 b0 b1 b2 b3 bit : Nat) (w : World) (s0 s1 s2 s3 c0 c1 c2 c3 d0 d1 d2 d3 e0 e1 e2 e3 : Nat)
    (h0 : ∀ w, (callFunc 57 #[.int .u64 a0, .int .u64 a0, .int .u64 bit]).run Try.prog w = .ok (.value (.tuple #[.int .u64 s0, .int .u64 c0])) w)
    (h1 : ∀ w, (callFunc 57 #[.int .u64 a1, .int .u64 a1, .int .u64 c0]).run Try.prog w = .ok (.value (.tuple #[.int .u64 s1, .int .u64 c1])) w)
    (h2 : ∀ w, (callFunc 57 #[.int .u64 a2, .int .u64 a2, .int .u64 c1]).run Try.prog w = .ok (.value (.tuple #[.int .u64 s2, .int .u64 c2])) w)
    (h3 : ∀ w, (callFunc 57 #[.int .u64 a3, .int .u64 a3, .int .u64 c2]).run Try.prog w = .ok (.value (.tuple #[.int .u64 s3, .int .u64 c3])) w)
    (k0 : ∀ w, (callFunc 72 #[.int .u64 s0, .int .u64 b0, .int .u64 0]).run Try.prog w = .ok (.value (.tuple #[.int .u64 d0, .int .u64 e0])) w)
    (k1 : ∀ w, (callFunc 72 #[.int .u64 s1, .int .u64 b1, .int .u64 e0]).run Try.prog w = .ok (.value (.tuple #[.int .u64 d1, .int .u64 e1])) w)
    (k2 : ∀ w, (callFunc 72 #[.int .u64 s2, .int .u64 b2, .int .u64 e1]).run Try.prog w = .ok (.value (.tuple #[.int .u64 d2, .int .u64 e2])) w)
    (k3 : ∀ w, (callFunc 72 #[.int .u64 s3, .int .u64 b3, .int .u64 e2]).run Try.prog w = .ok (.value (.tuple #[.int .u64 d3, .int .u64 e3])) w) :
    Calls Try.prog 61 #[.agg #[.int .u64 a0, .int .u64 a1, .int .u64 a2, .int .u64 a3], .agg #[.int .u64 b0, .int .u64 b1, .int .u64 b2, .int .u64 b3], .int .u64 bit] w fun e w' =>
      e = .returned (if c3 < e3 then .tuple #[.agg #[.int .u64 s0, .int .u64 s1, .int .u64 s2, .int .u64 s3], .int .u64 0] else .tuple #[.agg #[.int .u64 d0, .int .u64 d1, .int .u64 d2, .int .u64 d3], .int .u64 1]) ∧ Below w.heap.size w w' := by
  by_cases hc : c3 < e3
  · have hc' : (c3 : Int) < (e3 : Int) := by omega
    rw [if_pos hc]
    clear hc
    go_enter Try.func61, Try.ntmps61
    go_upto_region 3 with fail
    have Nr : At ((((w.alloc (.cells #[.int .u64 a0, .int .u64 a1, .int .u64 a2, .int .u64 a3] 69)).alloc (.cells #[.int .u64 b0, .int .u64 b1, .int .u64 b2, .int .u64 b3] 69)).alloc (.cells #[.int .u64 0, .int .u64 0, .int .u64 0, .int .u64 0] 69)).alloc (.cells #[.int .u64 0, .int .u64 0, .int .u64 0, .int .u64 0] 69)) (w.heap.size) 69 #[.int .u64 a0, .int .u64 a1, .int .u64 a2, .int .u64 a3] := (((At.at_ _ _ _ _ (by simp)).alloc _).alloc _).alloc _
    have Nb : At ((((w.alloc (.cells #[.int .u64 a0, .int .u64 a1, .int .u64 a2, .int .u64 a3] 69)).alloc (.cells #[.int .u64 b0, .int .u64 b1, .int .u64 b2, .int .u64 b3] 69)).alloc (.cells #[.int .u64 0, .int .u64 0, .int .u64 0, .int .u64 0] 69)).alloc (.cells #[.int .u64 0, .int .u64 0, .int .u64 0, .int .u64 0] 69)) (w.heap.size + 1) 69 #[.int .u64 b0, .int .u64 b1, .int .u64 b2, .int .u64 b3] := ((At.at_ _ _ _ _ (by simp)).alloc _).alloc _
    have Nl : At ((((w.alloc (.cells #[.int .u64 a0, .int .u64 a1, .int .u64 a2, .int .u64 a3] 69)).alloc (.cells #[.int .u64 b0, .int .u64 b1, .int .u64 b2, .int .u64 b3] 69)).alloc (.cells #[.int .u64 0, .int .u64 0, .int .u64 0, .int .u64 0] 69)).alloc (.cells #[.int .u64 0, .int .u64 0, .int .u64 0, .int .u64 0] 69)) (w.heap.size + 1 + 1) 69 #[.int .u64 0, .int .u64 0, .int .u64 0, .int .u64 0] := (At.at_ _ _ _ _ (by simp)).alloc _
    have Nt : At ((((w.alloc (.cells #[.int .u64 a0, .int .u64 a1, .int .u64 a2, .int .u64 a3] 69)).alloc (.cells #[.int .u64 b0, .int .u64 b1, .int .u64 b2, .int .u64 b3] 69)).alloc (.cells #[.int .u64 0, .int .u64 0, .int .u64 0, .int .u64 0] 69)).alloc (.cells #[.int .u64 0, .int .u64 0, .int .u64 0, .int .u64 0] 69)) (w.heap.size + 1 + 1 + 1) 69 #[.int .u64 0, .int .u64 0, .int .u64 0, .int .u64 0] := At.at_ _ _ _ _ (by simp)
    have NB : Below w.heap.size w ((((w.alloc (.cells #[.int .u64 a0, .int .u64 a1, .int .u64 a2, .int .u64 a3] 69)).alloc (.cells #[.int .u64 b0, .int .u64 b1, .int .u64 b2, .int .u64 b3] 69)).alloc (.cells #[.int .u64 0, .int .u64 0, .int .u64 0, .int .u64 0] 69)).alloc (.cells #[.int .u64 0, .int .u64 0, .int .u64 0, .int .u64 0] 69)) := gr_alloc (gr_alloc (gr_alloc (gr_alloc (Below.refl _ _) _) _) _) _
    have Dlt : w.heap.size + 1 + 1 ≠ w.heap.size + 1 + 1 + 1 := by omega
    have Drt : w.heap.size ≠ w.heap.size + 1 + 1 + 1 := by omega
    have Dbt : w.heap.size + 1 ≠ w.heap.size + 1 + 1 + 1 := by omega
    have Drl : w.heap.size ≠ w.heap.size + 1 + 1 := by omega
    have Dbl : w.heap.size + 1 ≠ w.heap.size + 1 + 1 := by omega
    have El : w.heap.size ≤ w.heap.size + 1 + 1 := by omega
    have Et : w.heap.size ≤ w.heap.size + 1 + 1 + 1 := by omega
    generalize ((((w.alloc (.cells #[.int .u64 a0, .int .u64 a1, .int .u64 a2, .int .u64 a3] 69)).alloc (.cells #[.int .u64 b0, .int .u64 b1, .int .u64 b2, .int .u64 b3] 69)).alloc (.cells #[.int .u64 0, .int .u64 0, .int .u64 0, .int .u64 0] 69)).alloc (.cells #[.int .u64 0, .int .u64 0, .int .u64 0, .int .u64 0] 69)) = W0 at *
    generalize w.heap.size + 1 + 1 + 1 = gt at *
    generalize w.heap.size + 1 + 1 = gl at *
    generalize w.heap.size + 1 = gb at *
    obtain ⟨gr, hgr⟩ : ∃ gr, gr = w.heap.size := ⟨_, rfl⟩
    rw [← hgr] at Nr Drt Drl ⊢
    have HG := Lib.hid hgr
    clear hgr
    have HDlt := Lib.hid Dlt
    have HDrt := Lib.hid Drt
    have HDbt := Lib.hid Dbt
    have HDrl := Lib.hid Drl
    have HDbl := Lib.hid Dbl
    have HEl := Lib.hid El
    have HEt := Lib.hid Et
    clear Dlt Drt Dbt Drl Dbl El Et
    have Fr := Lib.hid Nr
    have Fb := Lib.hid Nb
    have Fl := Lib.hid Nl
    have Ft := Lib.hid Nt
    have BW := Lib.hid NB
    clear NB Nr Nb Nl Nt
    have cr : W0.cell? ⟨gr, 0, none⟩ = some (.int .u64 a0) := Fr.out.cell 0
    have ct : W0.cell? ⟨gt, 0, none⟩ = some (.int .u64 0) := Ft.out.cell 0
    have fz : W0.frozen? ⟨gt, 0, none⟩ = false := Ft.out.frozen 0
    go_upto_region 4 with (simp only [h0])
    clear fz cr ct
    have Nt : At (W0.setCell ⟨gt, 0, none⟩ (.int .u64 s0)) gt 69 #[.int .u64 s0, .int .u64 0, .int .u64 0, .int .u64 0] := Ft.out.set 0 _
    have Nr : At (W0.setCell ⟨gt, 0, none⟩ (.int .u64 s0)) gr 69 #[.int .u64 a0, .int .u64 a1, .int .u64 a2, .int .u64 a3] := Fr.out.far (by exact fun e => HDrt.out e.symm) _
    have Nb : At (W0.setCell ⟨gt, 0, none⟩ (.int .u64 s0)) gb 69 #[.int .u64 b0, .int .u64 b1, .int .u64 b2, .int .u64 b3] := Fb.out.far (by exact fun e => HDbt.out e.symm) _
    have Nl : At (W0.setCell ⟨gt, 0, none⟩ (.int .u64 s0)) gl 69 #[.int .u64 0, .int .u64 0, .int .u64 0, .int .u64 0] := Fl.out.far (by exact fun e => HDlt.out e.symm) _
    have NB : Below w.heap.size w (W0.setCell ⟨gt, 0, none⟩ (.int .u64 s0)) := BW.out.setCell HEt.out _
    clear BW Fr Fb Fl Ft
    generalize (W0.setCell ⟨gt, 0, none⟩ (.int .u64 s0)) = W1 at *
    have Fr := Lib.hid Nr
    have Fb := Lib.hid Nb
    have Fl := Lib.hid Nl
    have Ft := Lib.hid Nt
    have BW := Lib.hid NB
    clear NB Nr Nb Nl Nt
    have cr : W1.cell? ⟨gr, 1, none⟩ = some (.int .u64 a1) := Fr.out.cell 1
    have ct : W1.cell? ⟨gt, 1, none⟩ = some (.int .u64 0) := Ft.out.cell 1
    have fz : W1.frozen? ⟨gt, 1, none⟩ = false := Ft.out.frozen 1
    go_upto_region 5 with (simp only [h1])
    clear fz cr ct
    have Nt : At (W1.setCell ⟨gt, 1, none⟩ (.int .u64 s1)) gt 69 #[.int .u64 s0, .int .u64 s1, .int .u64 0, .int .u64 0] := Ft.out.set 1 _
    have Nr : At (W1.setCell ⟨gt, 1, none⟩ (.int .u64 s1)) gr 69 #[.int .u64 a0, .int .u64 a1, .int .u64 a2, .int .u64 a3] := Fr.out.far (by exact fun e => HDrt.out e.symm) _
    have Nb : At (W1.setCell ⟨gt, 1, none⟩ (.int .u64 s1)) gb 69 #[.int .u64 b0, .int .u64 b1, .int .u64 b2, .int .u64 b3] := Fb.out.far (by exact fun e => HDbt.out e.symm) _
    have Nl : At (W1.setCell ⟨gt, 1, none⟩ (.int .u64 s1)) gl 69 #[.int .u64 0, .int .u64 0, .int .u64 0, .int .u64 0] := Fl.out.far (by exact fun e => HDlt.out e.symm) _
    have NB : Below w.heap.size w (W1.setCell ⟨gt, 1, none⟩ (.int .u64 s1)) := BW.out.setCell HEt.out _
    clear BW Fr Fb Fl Ft
    generalize (W1.setCell ⟨gt, 1, none⟩ (.int .u64 s1)) = W2 at *
    have Fr := Lib.hid Nr
    have Fb := Lib.hid Nb
    have Fl := Lib.hid Nl
    have Ft := Lib.hid Nt
    have BW := Lib.hid NB
    clear NB Nr Nb Nl Nt
    have cr : W2.cell? ⟨gr, 2, none⟩ = some (.int .u64 a2) := Fr.out.cell 2
    have ct : W2.cell? ⟨gt, 2, none⟩ = some (.int .u64 0) := Ft.out.cell 2
    have fz : W2.frozen? ⟨gt, 2, none⟩ = false := Ft.out.frozen 2
    go_upto_region 6 with (simp only [h2])
    clear fz cr ct
    have Nt : At (W2.setCell ⟨gt, 2, none⟩ (.int .u64 s2)) gt 69 #[.int .u64 s0, .int .u64 s1, .int .u64 s2, .int .u64 0] := Ft.out.set 2 _
    have Nr : At (W2.setCell ⟨gt, 2, none⟩ (.int .u64 s2)) gr 69 #[.int .u64 a0, .int .u64 a1, .int .u64 a2, .int .u64 a3] := Fr.out.far (by exact fun e => HDrt.out e.symm) _
    have Nb : At (W2.setCell ⟨gt, 2, none⟩ (.int .u64 s2)) gb 69 #[.int .u64 b0, .int .u64 b1, .int .u64 b2, .int .u64 b3] := Fb.out.far (by exact fun e => HDbt.out e.symm) _
    have Nl : At (W2.setCell ⟨gt, 2, none⟩ (.int .u64 s2)) gl 69 #[.int .u64 0, .int .u64 0, .int .u64 0, .int .u64 0] := Fl.out.far (by exact fun e => HDlt.out e.symm) _
    have NB : Below w.heap.size w (W2.setCell ⟨gt, 2, none⟩ (.int .u64 s2)) := BW.out.setCell HEt.out _
    clear BW Fr Fb Fl Ft
    generalize (W2.setCell ⟨gt, 2, none⟩ (.int .u64 s2)) = W3 at *
    have Fr := Lib.hid Nr
    have Fb := Lib.hid Nb
    have Fl := Lib.hid Nl
    have Ft := Lib.hid Nt
    have BW := Lib.hid NB
    clear NB Nr Nb Nl Nt
    have cr : W3.cell? ⟨gr, 3, none⟩ = some (.int .u64 a3) := Fr.out.cell 3
    have ct : W3.cell? ⟨gt, 3, none⟩ = some (.int .u64 0) := Ft.out.cell 3
    have fz : W3.frozen? ⟨gt, 3, none⟩ = false := Ft.out.frozen 3
    go_upto_region 7 with (simp only [h3])
    clear fz cr ct
    have Nt : At (W3.setCell ⟨gt, 3, none⟩ (.int .u64 s3)) gt 69 #[.int .u64 s0, .int .u64 s1, .int .u64 s2, .int .u64 s3] := Ft.out.set 3 _
    have Nr : At (W3.setCell ⟨gt, 3, none⟩ (.int .u64 s3)) gr 69 #[.int .u64 a0, .int .u64 a1, .int .u64 a2, .int .u64 a3] := Fr.out.far (by exact fun e => HDrt.out e.symm) _
    have Nb : At (W3.setCell ⟨gt, 3, none⟩ (.int .u64 s3)) gb 69 #[.int .u64 b0, .int .u64 b1, .int .u64 b2, .int .u64 b3] := Fb.out.far (by exact fun e => HDbt.out e.symm) _
    have Nl : At (W3.setCell ⟨gt, 3, none⟩ (.int .u64 s3)) gl 69 #[.int .u64 0, .int .u64 0, .int .u64 0, .int .u64 0] := Fl.out.far (by exact fun e => HDlt.out e.symm) _
    have NB : Below w.heap.size w (W3.setCell ⟨gt, 3, none⟩ (.int .u64 s3)) := BW.out.setCell HEt.out _
    clear BW Fr Fb Fl Ft
    generalize (W3.setCell ⟨gt, 3, none⟩ (.int .u64 s3)) = W4 at *
    have Fr := Lib.hid Nr
    have Fb := Lib.hid Nb
    have Fl := Lib.hid Nl
    have Ft := Lib.hid Nt
    have BW := Lib.hid NB
    clear NB Nr Nb Nl Nt
    have ct : W4.cell? ⟨gt, 0, none⟩ = some (.int .u64 s0) := Ft.out.cell 0
    have cb : W4.cell? ⟨gb, 0, none⟩ = some (.int .u64 b0) := Fb.out.cell 0
    have cl : W4.cell? ⟨gl, 0, none⟩ = some (.int .u64 0) := Fl.out.cell 0
    have fz : W4.frozen? ⟨gl, 0, none⟩ = false := Fl.out.frozen 0
    go_upto_region 8 with (simp only [k0])
    clear fz ct cb cl
    have Nl : At (W4.setCell ⟨gl, 0, none⟩ (.int .u64 d0)) gl 69 #[.int .u64 d0, .int .u64 0, .int .u64 0, .int .u64 0] := Fl.out.set 0 _
    have Nr : At (W4.setCell ⟨gl, 0, none⟩ (.int .u64 d0)) gr 69 #[.int .u64 a0, .int .u64 a1, .int .u64 a2, .int .u64 a3] := Fr.out.far (by exact fun e => HDrl.out e.symm) _
    have Nb : At (W4.setCell ⟨gl, 0, none⟩ (.int .u64 d0)) gb 69 #[.int .u64 b0, .int .u64 b1, .int .u64 b2, .int .u64 b3] := Fb.out.far (by exact fun e => HDbl.out e.symm) _
    have Nt : At (W4.setCell ⟨gl, 0, none⟩ (.int .u64 d0)) gt 69 #[.int .u64 s0, .int .u64 s1, .int .u64 s2, .int .u64 s3] := Ft.out.far (by exact fun e => HDlt.out.symm e.symm) _
    have NB : Below w.heap.size w (W4.setCell ⟨gl, 0, none⟩ (.int .u64 d0)) := BW.out.setCell HEl.out _
    clear BW Fr Fb Fl Ft
    generalize (W4.setCell ⟨gl, 0, none⟩ (.int .u64 d0)) = W5 at *
    have Fr := Lib.hid Nr
    have Fb := Lib.hid Nb
    have Fl := Lib.hid Nl
    have Ft := Lib.hid Nt
    have BW := Lib.hid NB
    clear NB Nr Nb Nl Nt
    have ct : W5.cell? ⟨gt, 1, none⟩ = some (.int .u64 s1) := Ft.out.cell 1
    have cb : W5.cell? ⟨gb, 1, none⟩ = some (.int .u64 b1) := Fb.out.cell 1
    have cl : W5.cell? ⟨gl, 1, none⟩ = some (.int .u64 0) := Fl.out.cell 1
    have fz : W5.frozen? ⟨gl, 1, none⟩ = false := Fl.out.frozen 1
    go_upto_region 9 with (simp only [k1])
    clear fz ct cb cl
    have Nl : At (W5.setCell ⟨gl, 1, none⟩ (.int .u64 d1)) gl 69 #[.int .u64 d0, .int .u64 d1, .int .u64 0, .int .u64 0] := Fl.out.set 1 _
    have Nr : At (W5.setCell ⟨gl, 1, none⟩ (.int .u64 d1)) gr 69 #[.int .u64 a0, .int .u64 a1, .int .u64 a2, .int .u64 a3] := Fr.out.far (by exact fun e => HDrl.out e.symm) _
    have Nb : At (W5.setCell ⟨gl, 1, none⟩ (.int .u64 d1)) gb 69 #[.int .u64 b0, .int .u64 b1, .int .u64 b2, .int .u64 b3] := Fb.out.far (by exact fun e => HDbl.out e.symm) _
    have Nt : At (W5.setCell ⟨gl, 1, none⟩ (.int .u64 d1)) gt 69 #[.int .u64 s0, .int .u64 s1, .int .u64 s2, .int .u64 s3] := Ft.out.far (by exact fun e => HDlt.out.symm e.symm) _
    have NB : Below w.heap.size w (W5.setCell ⟨gl, 1, none⟩ (.int .u64 d1)) := BW.out.setCell HEl.out _
    clear BW Fr Fb Fl Ft
    generalize (W5.setCell ⟨gl, 1, none⟩ (.int .u64 d1)) = W6 at *
    have Fr := Lib.hid Nr
    have Fb := Lib.hid Nb
    have Fl := Lib.hid Nl
    have Ft := Lib.hid Nt
    have BW := Lib.hid NB
    clear NB Nr Nb Nl Nt
    have ct : W6.cell? ⟨gt, 2, none⟩ = some (.int .u64 s2) := Ft.out.cell 2
    have cb : W6.cell? ⟨gb, 2, none⟩ = some (.int .u64 b2) := Fb.out.cell 2
    have cl : W6.cell? ⟨gl, 2, none⟩ = some (.int .u64 0) := Fl.out.cell 2
    have fz : W6.frozen? ⟨gl, 2, none⟩ = false := Fl.out.frozen 2
    go_upto_region 10 with (simp only [k2])
    clear fz ct cb cl
    have Nl : At (W6.setCell ⟨gl, 2, none⟩ (.int .u64 d2)) gl 69 #[.int .u64 d0, .int .u64 d1, .int .u64 d2, .int .u64 0] := Fl.out.set 2 _
    have Nr : At (W6.setCell ⟨gl, 2, none⟩ (.int .u64 d2)) gr 69 #[.int .u64 a0, .int .u64 a1, .int .u64 a2, .int .u64 a3] := Fr.out.far (by exact fun e => HDrl.out e.symm) _
    have Nb : At (W6.setCell ⟨gl, 2, none⟩ (.int .u64 d2)) gb 69 #[.int .u64 b0, .int .u64 b1, .int .u64 b2, .int .u64 b3] := Fb.out.far (by exact fun e => HDbl.out e.symm) _
    have Nt : At (W6.setCell ⟨gl, 2, none⟩ (.int .u64 d2)) gt 69 #[.int .u64 s0, .int .u64 s1, .int .u64 s2, .int .u64 s3] := Ft.out.far (by exact fun e => HDlt.out.symm e.symm) _
    have NB : Below w.heap.size w (W6.setCell ⟨gl, 2, none⟩ (.int .u64 d2)) := BW.out.setCell HEl.out _
    clear BW Fr Fb Fl Ft
    generalize (W6.setCell ⟨gl, 2, none⟩ (.int .u64 d2)) = W7 at *
    have Fr := Lib.hid Nr
    have Fb := Lib.hid Nb
    have Fl := Lib.hid Nl
    have Ft := Lib.hid Nt
    have BW := Lib.hid NB
    clear NB Nr Nb Nl Nt
    have ct : W7.cell? ⟨gt, 3, none⟩ = some (.int .u64 s3) := Ft.out.cell 3
    have cb : W7.cell? ⟨gb, 3, none⟩ = some (.int .u64 b3) := Fb.out.cell 3
    have cl : W7.cell? ⟨gl, 3, none⟩ = some (.int .u64 0) := Fl.out.cell 3
    have fz : W7.frozen? ⟨gl, 3, none⟩ = false := Fl.out.frozen 3
    go_upto_region 11 with (simp only [k3])
    clear fz ct cb cl
    have Nl : At (W7.setCell ⟨gl, 3, none⟩ (.int .u64 d3)) gl 69 #[.int .u64 d0, .int .u64 d1, .int .u64 d2, .int .u64 d3] := Fl.out.set 3 _
    have Nr : At (W7.setCell ⟨gl, 3, none⟩ (.int .u64 d3)) gr 69 #[.int .u64 a0, .int .u64 a1, .int .u64 a2, .int .u64 a3] := Fr.out.far (by exact fun e => HDrl.out e.symm) _
    have Nb : At (W7.setCell ⟨gl, 3, none⟩ (.int .u64 d3)) gb 69 #[.int .u64 b0, .int .u64 b1, .int .u64 b2, .int .u64 b3] := Fb.out.far (by exact fun e => HDbl.out e.symm) _
    have Nt : At (W7.setCell ⟨gl, 3, none⟩ (.int .u64 d3)) gt 69 #[.int .u64 s0, .int .u64 s1, .int .u64 s2, .int .u64 s3] := Ft.out.far (by exact fun e => HDlt.out.symm e.symm) _
    have NB : Below w.heap.size w (W7.setCell ⟨gl, 3, none⟩ (.int .u64 d3)) := BW.out.setCell HEl.out _
    clear BW Fr Fb Fl Ft
    generalize (W7.setCell ⟨gl, 3, none⟩ (.int .u64 d3)) = W8 at *
    have Fr := Lib.hid Nr
    have Fb := Lib.hid Nb
    have Fl := Lib.hid Nl
    have Ft := Lib.hid Nt
    have BW := Lib.hid NB
    clear NB Nr Nb Nl Nt
    have ct0 : W8.cell? ⟨gt, 0, none⟩ = some (.int .u64 s0) := Ft.out.cell 0
    have ct1 : W8.cell? ⟨gt, 1, none⟩ = some (.int .u64 s1) := Ft.out.cell 1
    have ct2 : W8.cell? ⟨gt, 2, none⟩ = some (.int .u64 s2) := Ft.out.cell 2
    have ct3 : W8.cell? ⟨gt, 3, none⟩ = some (.int .u64 s3) := Ft.out.cell 3
    have cl0 : W8.cell? ⟨gl, 0, none⟩ = some (.int .u64 d0) := Fl.out.cell 0
    have cl1 : W8.cell? ⟨gl, 1, none⟩ = some (.int .u64 d1) := Fl.out.cell 1
    have cl2 : W8.cell? ⟨gl, 2, none⟩ = some (.int .u64 d2) := Fl.out.cell 2
    have cl3 : W8.cell? ⟨gl, 3, none⟩ = some (.int .u64 d3) := Fl.out.cell 3
    have f0 : W8.frozen? ⟨gl, 0, none⟩ = false := Fl.out.frozen 0
    have f1 : W8.frozen? ⟨gl, 1, none⟩ = false := Fl.out.frozen 1
    have f2 : W8.frozen? ⟨gl, 2, none⟩ = false := Fl.out.frozen 2
    have f3 : W8.frozen? ⟨gl, 3, none⟩ = false := Fl.out.frozen 3
    go_wp2
    exact bodyPost_ret (v := .tuple #[.agg #[.int .u64 s0, .int .u64 s1, .int .u64 s2, .int .u64 s3], .int .u64 0]) (by simp [results, Try.results61, go_sem, *]) rfl
      ⟨rfl, (((BW.out.setCell HEl.out _).setCell HEl.out _).setCell HEl.out _).setCell HEl.out _⟩
  · have hc' : ¬ (c3 : Int) < (e3 : Int) := by omega
    rw [if_neg hc]
    clear hc
    go_enter Try.func61, Try.ntmps61
    go_upto_region 3 with fail
    have Nr : At ((((w.alloc (.cells #[.int .u64 a0, .int .u64 a1, .int .u64 a2, .int .u64 a3] 69)).alloc (.cells #[.int .u64 b0, .int .u64 b1, .int .u64 b2, .int .u64 b3] 69)).alloc (.cells #[.int .u64 0, .int .u64 0, .int .u64 0, .int .u64 0] 69)).alloc (.cells #[.int .u64 0, .int .u64 0, .int .u64 0, .int .u64 0] 69)) (w.heap.size) 69 #[.int .u64 a0, .int .u64 a1, .int .u64 a2, .int .u64 a3] := (((At.at_ _ _ _ _ (by simp)).alloc _).alloc _).alloc _
    have Nb : At ((((w.alloc (.cells #[.int .u64 a0, .int .u64 a1, .int .u64 a2, .int .u64 a3] 69)).alloc (.cells #[.int .u64 b0, .int .u64 b1, .int .u64 b2, .int .u64 b3] 69)).alloc (.cells #[.int .u64 0, .int .u64 0, .int .u64 0, .int .u64 0] 69)).alloc (.cells #[.int .u64 0, .int .u64 0, .int .u64 0, .int .u64 0] 69)) (w.heap.size + 1) 69 #[.int .u64 b0, .int .u64 b1, .int .u64 b2, .int .u64 b3] := ((At.at_ _ _ _ _ (by simp)).alloc _).alloc _
    have Nl : At ((((w.alloc (.cells #[.int .u64 a0, .int .u64 a1, .int .u64 a2, .int .u64 a3] 69)).alloc (.cells #[.int .u64 b0, .int .u64 b1, .int .u64 b2, .int .u64 b3] 69)).alloc (.cells #[.int .u64 0, .int .u64 0, .int .u64 0, .int .u64 0] 69)).alloc (.cells #[.int .u64 0, .int .u64 0, .int .u64 0, .int .u64 0] 69)) (w.heap.size + 1 + 1) 69 #[.int .u64 0, .int .u64 0, .int .u64 0, .int .u64 0] := (At.at_ _ _ _ _ (by simp)).alloc _
    have Nt : At ((((w.alloc (.cells #[.int .u64 a0, .int .u64 a1, .int .u64 a2, .int .u64 a3] 69)).alloc (.cells #[.int .u64 b0, .int .u64 b1, .int .u64 b2, .int .u64 b3] 69)).alloc (.cells #[.int .u64 0, .int .u64 0, .int .u64 0, .int .u64 0] 69)).alloc (.cells #[.int .u64 0, .int .u64 0, .int .u64 0, .int .u64 0] 69)) (w.heap.size + 1 + 1 + 1) 69 #[.int .u64 0, .int .u64 0, .int .u64 0, .int .u64 0] := At.at_ _ _ _ _ (by simp)
    have NB : Below w.heap.size w ((((w.alloc (.cells #[.int .u64 a0, .int .u64 a1, .int .u64 a2, .int .u64 a3] 69)).alloc (.cells #[.int .u64 b0, .int .u64 b1, .int .u64 b2, .int .u64 b3] 69)).alloc (.cells #[.int .u64 0, .int .u64 0, .int .u64 0, .int .u64 0] 69)).alloc (.cells #[.int .u64 0, .int .u64 0, .int .u64 0, .int .u64 0] 69)) := gr_alloc (gr_alloc (gr_alloc (gr_alloc (Below.refl _ _) _) _) _) _
    have Dlt : w.heap.size + 1 + 1 ≠ w.heap.size + 1 + 1 + 1 := by omega
    have Drt : w.heap.size ≠ w.heap.size + 1 + 1 + 1 := by omega
    have Dbt : w.heap.size + 1 ≠ w.heap.size + 1 + 1 + 1 := by omega
    have Drl : w.heap.size ≠ w.heap.size + 1 + 1 := by omega
    have Dbl : w.heap.size + 1 ≠ w.heap.size + 1 + 1 := by omega
    have El : w.heap.size ≤ w.heap.size + 1 + 1 := by omega
    have Et : w.heap.size ≤ w.heap.size + 1 + 1 + 1 := by omega
    generalize ((((w.alloc (.cells #[.int .u64 a0, .int .u64 a1, .int .u64 a2, .int .u64 a3] 69)).alloc (.cells #[.int .u64 b0, .int .u64 b1, .int .u64 b2, .int .u64 b3] 69)).alloc (.cells #[.int .u64 0, .int .u64 0, .int .u64 0, .int .u64 0] 69)).alloc (.cells #[.int .u64 0, .int .u64 0, .int .u64 0, .int .u64 0] 69)) = W0 at *
    generalize w.heap.size + 1 + 1 + 1 = gt at *
    generalize w.heap.size + 1 + 1 = gl at *
    generalize w.heap.size + 1 = gb at *
    obtain ⟨gr, hgr⟩ : ∃ gr, gr = w.heap.size := ⟨_, rfl⟩
    rw [← hgr] at Nr Drt Drl ⊢
    have HG := Lib.hid hgr
    clear hgr
    have HDlt := Lib.hid Dlt
    have HDrt := Lib.hid Drt
    have HDbt := Lib.hid Dbt
    have HDrl := Lib.hid Drl
    have HDbl := Lib.hid Dbl
    have HEl := Lib.hid El
    have HEt := Lib.hid Et
    clear Dlt Drt Dbt Drl Dbl El Et
    have Fr := Lib.hid Nr
    have Fb := Lib.hid Nb
    have Fl := Lib.hid Nl
    have Ft := Lib.hid Nt
    have BW := Lib.hid NB
    clear NB Nr Nb Nl Nt
    have cr : W0.cell? ⟨gr, 0, none⟩ = some (.int .u64 a0) := Fr.out.cell 0
    have ct : W0.cell? ⟨gt, 0, none⟩ = some (.int .u64 0) := Ft.out.cell 0
    have fz : W0.frozen? ⟨gt, 0, none⟩ = false := Ft.out.frozen 0
    go_upto_region 4 with (simp only [h0])
    clear fz cr ct
    have Nt : At (W0.setCell ⟨gt, 0, none⟩ (.int .u64 s0)) gt 69 #[.int .u64 s0, .int .u64 0, .int .u64 0, .int .u64 0] := Ft.out.set 0 _
    have Nr : At (W0.setCell ⟨gt, 0, none⟩ (.int .u64 s0)) gr 69 #[.int .u64 a0, .int .u64 a1, .int .u64 a2, .int .u64 a3] := Fr.out.far (by exact fun e => HDrt.out e.symm) _
    have Nb : At (W0.setCell ⟨gt, 0, none⟩ (.int .u64 s0)) gb 69 #[.int .u64 b0, .int .u64 b1, .int .u64 b2, .int .u64 b3] := Fb.out.far (by exact fun e => HDbt.out e.symm) _
    have Nl : At (W0.setCell ⟨gt, 0, none⟩ (.int .u64 s0)) gl 69 #[.int .u64 0, .int .u64 0, .int .u64 0, .int .u64 0] := Fl.out.far (by exact fun e => HDlt.out e.symm) _
    have NB : Below w.heap.size w (W0.setCell ⟨gt, 0, none⟩ (.int .u64 s0)) := BW.out.setCell HEt.out _
    clear BW Fr Fb Fl Ft
    generalize (W0.setCell ⟨gt, 0, none⟩ (.int .u64 s0)) = W1 at *
    have Fr := Lib.hid Nr
    have Fb := Lib.hid Nb
    have Fl := Lib.hid Nl
    have Ft := Lib.hid Nt
    have BW := Lib.hid NB
    clear NB Nr Nb Nl Nt
    have cr : W1.cell? ⟨gr, 1, none⟩ = some (.int .u64 a1) := Fr.out.cell 1
    have ct : W1.cell? ⟨gt, 1, none⟩ = some (.int .u64 0) := Ft.out.cell 1
    have fz : W1.frozen? ⟨gt, 1, none⟩ = false := Ft.out.frozen 1
    go_upto_region 5 with (simp only [h1])
    clear fz cr ct
    have Nt : At (W1.setCell ⟨gt, 1, none⟩ (.int .u64 s1)) gt 69 #[.int .u64 s0, .int .u64 s1, .int .u64 0, .int .u64 0] := Ft.out.set 1 _
    have Nr : At (W1.setCell ⟨gt, 1, none⟩ (.int .u64 s1)) gr 69 #[.int .u64 a0, .int .u64 a1, .int .u64 a2, .int .u64 a3] := Fr.out.far (by exact fun e => HDrt.out e.symm) _
    have Nb : At (W1.setCell ⟨gt, 1, none⟩ (.int .u64 s1)) gb 69 #[.int .u64 b0, .int .u64 b1, .int .u64 b2, .int .u64 b3] := Fb.out.far (by exact fun e => HDbt.out e.symm) _
    have Nl : At (W1.setCell ⟨gt, 1, none⟩ (.int .u64 s1)) gl 69 #[.int .u64 0, .int .u64 0, .int .u64 0, .int .u64 0] := Fl.out.far (by exact fun e => HDlt.out e.symm) _
    have NB : Below w.heap.size w (W1.setCell ⟨gt, 1, none⟩ (.int .u64 s1)) := BW.out.setCell HEt.out _
    clear BW Fr Fb Fl Ft
    generalize (W1.setCell ⟨gt, 1, none⟩ (.int .u64 s1)) = W2 at *
    have Fr := Lib.hid Nr
    have Fb := Lib.hid Nb
    have Fl := Lib.hid Nl
    have Ft := Lib.hid Nt
    have BW := Lib.hid NB
    clear NB Nr Nb Nl Nt
    have cr : W2.cell? ⟨gr, 2, none⟩ = some (.int .u64 a2) := Fr.out.cell 2
    have ct : W2.cell? ⟨gt, 2, none⟩ = some (.int .u64 0) := Ft.out.cell 2
    have fz : W2.frozen? ⟨gt, 2, none⟩ = false := Ft.out.frozen 2
    go_upto_region 6 with (simp only [h2])
    clear fz cr ct
    have Nt : At (W2.setCell ⟨gt, 2, none⟩ (.int .u64 s2)) gt 69 #[.int .u64 s0, .int .u64 s1, .int .u64 s2, .int .u64 0] := Ft.out.set 2 _
    have Nr : At (W2.setCell ⟨gt, 2, none⟩ (.int .u64 s2)) gr 69 #[.int .u64 a0, .int .u64 a1, .int .u64 a2, .int .u64 a3] := Fr.out.far (by exact fun e => HDrt.out e.symm) _
    have Nb : At (W2.setCell ⟨gt, 2, none⟩ (.int .u64 s2)) gb 69 #[.int .u64 b0, .int .u64 b1, .int .u64 b2, .int .u64 b3] := Fb.out.far (by exact fun e => HDbt.out e.symm) _
    have Nl : At (W2.setCell ⟨gt, 2, none⟩ (.int .u64 s2)) gl 69 #[.int .u64 0, .int .u64 0, .int .u64 0, .int .u64 0] := Fl.out.far (by exact fun e => HDlt.out e.symm) _
    have NB : Below w.heap.size w (W2.setCell ⟨gt, 2, none⟩ (.int .u64 s2)) := BW.out.setCell HEt.out _
    clear BW Fr Fb Fl Ft
    generalize (W2.setCell ⟨gt, 2, none⟩ (.int .u64 s2)) = W3 at *
    have Fr := Lib.hid Nr
    have Fb := Lib.hid Nb
    have Fl := Lib.hid Nl
    have Ft := Lib.hid Nt
    have BW := Lib.hid NB
    clear NB Nr Nb Nl Nt
    have cr : W3.cell? ⟨gr, 3, none⟩ = some (.int .u64 a3) := Fr.out.cell 3
    have ct : W3.cell? ⟨gt, 3, none⟩ = some (.int .u64 0) := Ft.out.cell 3
    have fz : W3.frozen? ⟨gt, 3, none⟩ = false := Ft.out.frozen 3
    go_upto_region 7 with (simp only [h3])
    clear fz cr ct
    have Nt : At (W3.setCell ⟨gt, 3, none⟩ (.int .u64 s3)) gt 69 #[.int .u64 s0, .int .u64 s1, .int .u64 s2, .int .u64 s3] := Ft.out.set 3 _
    have Nr : At (W3.setCell ⟨gt, 3, none⟩ (.int .u64 s3)) gr 69 #[.int .u64 a0, .int .u64 a1, .int .u64 a2, .int .u64 a3] := Fr.out.far (by exact fun e => HDrt.out e.symm) _
    have Nb : At (W3.setCell ⟨gt, 3, none⟩ (.int .u64 s3)) gb 69 #[.int .u64 b0, .int .u64 b1, .int .u64 b2, .int .u64 b3] := Fb.out.far (by exact fun e => HDbt.out e.symm) _
    have Nl : At (W3.setCell ⟨gt, 3, none⟩ (.int .u64 s3)) gl 69 #[.int .u64 0, .int .u64 0, .int .u64 0, .int .u64 0] := Fl.out.far (by exact fun e => HDlt.out e.symm) _
    have NB : Below w.heap.size w (W3.setCell ⟨gt, 3, none⟩ (.int .u64 s3)) := BW.out.setCell HEt.out _
    clear BW Fr Fb Fl Ft
    generalize (W3.setCell ⟨gt, 3, none⟩ (.int .u64 s3)) = W4 at *
    have Fr := Lib.hid Nr
    have Fb := Lib.hid Nb
    have Fl := Lib.hid Nl
    have Ft := Lib.hid Nt
    have BW := Lib.hid NB
    clear NB Nr Nb Nl Nt
    have ct : W4.cell? ⟨gt, 0, none⟩ = some (.int .u64 s0) := Ft.out.cell 0
    have cb : W4.cell? ⟨gb, 0, none⟩ = some (.int .u64 b0) := Fb.out.cell 0
    have cl : W4.cell? ⟨gl, 0, none⟩ = some (.int .u64 0) := Fl.out.cell 0
    have fz : W4.frozen? ⟨gl, 0, none⟩ = false := Fl.out.frozen 0
    go_upto_region 8 with (simp only [k0])
    clear fz ct cb cl
    have Nl : At (W4.setCell ⟨gl, 0, none⟩ (.int .u64 d0)) gl 69 #[.int .u64 d0, .int .u64 0, .int .u64 0, .int .u64 0] := Fl.out.set 0 _
    have Nr : At (W4.setCell ⟨gl, 0, none⟩ (.int .u64 d0)) gr 69 #[.int .u64 a0, .int .u64 a1, .int .u64 a2, .int .u64 a3] := Fr.out.far (by exact fun e => HDrl.out e.symm) _
    have Nb : At (W4.setCell ⟨gl, 0, none⟩ (.int .u64 d0)) gb 69 #[.int .u64 b0, .int .u64 b1, .int .u64 b2, .int .u64 b3] := Fb.out.far (by exact fun e => HDbl.out e.symm) _
    have Nt : At (W4.setCell ⟨gl, 0, none⟩ (.int .u64 d0)) gt 69 #[.int .u64 s0, .int .u64 s1, .int .u64 s2, .int .u64 s3] := Ft.out.far (by exact fun e => HDlt.out.symm e.symm) _
    have NB : Below w.heap.size w (W4.setCell ⟨gl, 0, none⟩ (.int .u64 d0)) := BW.out.setCell HEl.out _
    clear BW Fr Fb Fl Ft
    generalize (W4.setCell ⟨gl, 0, none⟩ (.int .u64 d0)) = W5 at *
    have Fr := Lib.hid Nr
    have Fb := Lib.hid Nb
    have Fl := Lib.hid Nl
    have Ft := Lib.hid Nt
    have BW := Lib.hid NB
    clear NB Nr Nb Nl Nt
    have ct : W5.cell? ⟨gt, 1, none⟩ = some (.int .u64 s1) := Ft.out.cell 1
    have cb : W5.cell? ⟨gb, 1, none⟩ = some (.int .u64 b1) := Fb.out.cell 1
    have cl : W5.cell? ⟨gl, 1, none⟩ = some (.int .u64 0) := Fl.out.cell 1
    have fz : W5.frozen? ⟨gl, 1, none⟩ = false := Fl.out.frozen 1
    go_upto_region 9 with (simp only [k1])
    clear fz ct cb cl
    have Nl : At (W5.setCell ⟨gl, 1, none⟩ (.int .u64 d1)) gl 69 #[.int .u64 d0, .int .u64 d1, .int .u64 0, .int .u64 0] := Fl.out.set 1 _
    have Nr : At (W5.setCell ⟨gl, 1, none⟩ (.int .u64 d1)) gr 69 #[.int .u64 a0, .int .u64 a1, .int .u64 a2, .int .u64 a3] := Fr.out.far (by exact fun e => HDrl.out e.symm) _
    have Nb : At (W5.setCell ⟨gl, 1, none⟩ (.int .u64 d1)) gb 69 #[.int .u64 b0, .int .u64 b1, .int .u64 b2, .int .u64 b3] := Fb.out.far (by exact fun e => HDbl.out e.symm) _
    have Nt : At (W5.setCell ⟨gl, 1, none⟩ (.int .u64 d1)) gt 69 #[.int .u64 s0, .int .u64 s1, .int .u64 s2, .int .u64 s3] := Ft.out.far (by exact fun e => HDlt.out.symm e.symm) _
    have NB : Below w.heap.size w (W5.setCell ⟨gl, 1, none⟩ (.int .u64 d1)) := BW.out.setCell HEl.out _
    clear BW Fr Fb Fl Ft
    generalize (W5.setCell ⟨gl, 1, none⟩ (.int .u64 d1)) = W6 at *
    have Fr := Lib.hid Nr
    have Fb := Lib.hid Nb
    have Fl := Lib.hid Nl
    have Ft := Lib.hid Nt
    have BW := Lib.hid NB
    clear NB Nr Nb Nl Nt
    have ct : W6.cell? ⟨gt, 2, none⟩ = some (.int .u64 s2) := Ft.out.cell 2
    have cb : W6.cell? ⟨gb, 2, none⟩ = some (.int .u64 b2) := Fb.out.cell 2
    have cl : W6.cell? ⟨gl, 2, none⟩ = some (.int .u64 0) := Fl.out.cell 2
    have fz : W6.frozen? ⟨gl, 2, none⟩ = false := Fl.out.frozen 2
    go_upto_region 10 with (simp only [k2])
    clear fz ct cb cl
    have Nl : At (W6.setCell ⟨gl, 2, none⟩ (.int .u64 d2)) gl 69 #[.int .u64 d0, .int .u64 d1, .int .u64 d2, .int .u64 0] := Fl.out.set 2 _
    have Nr : At (W6.setCell ⟨gl, 2, none⟩ (.int .u64 d2)) gr 69 #[.int .u64 a0, .int .u64 a1, .int .u64 a2, .int .u64 a3] := Fr.out.far (by exact fun e => HDrl.out e.symm) _
    have Nb : At (W6.setCell ⟨gl, 2, none⟩ (.int .u64 d2)) gb 69 #[.int .u64 b0, .int .u64 b1, .int .u64 b2, .int .u64 b3] := Fb.out.far (by exact fun e => HDbl.out e.symm) _
    have Nt : At (W6.setCell ⟨gl, 2, none⟩ (.int .u64 d2)) gt 69 #[.int .u64 s0, .int .u64 s1, .int .u64 s2, .int .u64 s3] := Ft.out.far (by exact fun e => HDlt.out.symm e.symm) _
    have NB : Below w.heap.size w (W6.setCell ⟨gl, 2, none⟩ (.int .u64 d2)) := BW.out.setCell HEl.out _
    clear BW Fr Fb Fl Ft
    generalize (W6.setCell ⟨gl, 2, none⟩ (.int .u64 d2)) = W7 at *
    have Fr := Lib.hid Nr
    have Fb := Lib.hid Nb
    have Fl := Lib.hid Nl
    have Ft := Lib.hid Nt
    have BW := Lib.hid NB
    clear NB Nr Nb Nl Nt
    have ct : W7.cell? ⟨gt, 3, none⟩ = some (.int .u64 s3) := Ft.out.cell 3
    have cb : W7.cell? ⟨gb, 3, none⟩ = some (.int .u64 b3) := Fb.out.cell 3
    have cl : W7.cell? ⟨gl, 3, none⟩ = some (.int .u64 0) := Fl.out.cell 3
    have fz : W7.frozen? ⟨gl, 3, none⟩ = false := Fl.out.frozen 3
    go_upto_region 11 with (simp only [k3])
    clear fz ct cb cl
    have Nl : At (W7.setCell ⟨gl, 3, none⟩ (.int .u64 d3)) gl 69 #[.int .u64 d0, .int .u64 d1, .int .u64 d2, .int .u64 d3] := Fl.out.set 3 _
    have Nr : At (W7.setCell ⟨gl, 3, none⟩ (.int .u64 d3)) gr 69 #[.int .u64 a0, .int .u64 a1, .int .u64 a2, .int .u64 a3] := Fr.out.far (by exact fun e => HDrl.out e.symm) _
    have Nb : At (W7.setCell ⟨gl, 3, none⟩ (.int .u64 d3)) gb 69 #[.int .u64 b0, .int .u64 b1, .int .u64 b2, .int .u64 b3] := Fb.out.far (by exact fun e => HDbl.out e.symm) _
    have Nt : At (W7.setCell ⟨gl, 3, none⟩ (.int .u64 d3)) gt 69 #[.int .u64 s0, .int .u64 s1, .int .u64 s2, .int .u64 s3] := Ft.out.far (by exact fun e => HDlt.out.symm e.symm) _
    have NB : Below w.heap.size w (W7.setCell ⟨gl, 3, none⟩ (.int .u64 d3)) := BW.out.setCell HEl.out _
    clear BW Fr Fb Fl Ft
    generalize (W7.setCell ⟨gl, 3, none⟩ (.int .u64 d3)) = W8 at *
    have Fr := Lib.hid Nr
    have Fb := Lib.hid Nb
    have Fl := Lib.hid Nl
    have Ft := Lib.hid Nt
    have BW := Lib.hid NB
    clear NB Nr Nb Nl Nt
    have ct0 : W8.cell? ⟨gt, 0, none⟩ = some (.int .u64 s0) := Ft.out.cell 0
    have ct1 : W8.cell? ⟨gt, 1, none⟩ = some (.int .u64 s1) := Ft.out.cell 1
    have ct2 : W8.cell? ⟨gt, 2, none⟩ = some (.int .u64 s2) := Ft.out.cell 2
    have ct3 : W8.cell? ⟨gt, 3, none⟩ = some (.int .u64 s3) := Ft.out.cell 3
    have cl0 : W8.cell? ⟨gl, 0, none⟩ = some (.int .u64 d0) := Fl.out.cell 0
    have cl1 : W8.cell? ⟨gl, 1, none⟩ = some (.int .u64 d1) := Fl.out.cell 1
    have cl2 : W8.cell? ⟨gl, 2, none⟩ = some (.int .u64 d2) := Fl.out.cell 2
    have cl3 : W8.cell? ⟨gl, 3, none⟩ = some (.int .u64 d3) := Fl.out.cell 3
    have f0 : W8.frozen? ⟨gl, 0, none⟩ = false := Fl.out.frozen 0
    have f1 : W8.frozen? ⟨gl, 1, none⟩ = false := Fl.out.frozen 1
    have f2 : W8.frozen? ⟨gl, 2, none⟩ = false := Fl.out.frozen 2
    have f3 : W8.frozen? ⟨gl, 3, none⟩ = false := Fl.out.frozen 3
    go_wp2
    exact bodyPost_ret (v := .tuple #[.agg #[.int .u64 d0, .int .u64 d1, .int .u64 d2, .int .u64 d3], .int .u64 1]) (by simp [results, Try.results61, go_sem, *]) rfl
      ⟨rfl, (((BW.out.setCell HEl.out _).setCell HEl.out _).setCell HEl.out _).setCell HEl.out _⟩
end Go.Proofs.Ytmhmdbjjmmmgkaa
