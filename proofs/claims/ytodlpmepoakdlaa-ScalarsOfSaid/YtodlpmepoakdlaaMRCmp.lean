/-
 balefireref02.Of, Cmp: digit by digit, from the highest on.
-/
import Derived.Test.YtodlpmepoakdlaaMRSub
import Derived.Test.YtodlpmepoakdlaaMTree
namespace Go.Proofs.Ytodlpmepoakdlaa
set_option maxRecDepth 100000
open Go.RowKit
set_option linter.unusedSimpArgs false
set_option linter.unusedVariables false
attribute [local go_sem ↓] Go.wp_at_zero Go.wp_at_succ

theorem high_dig (X i : Nat) (hi : i < 16) (hX : X < 2 ^ 256) : X / 65536 ^ i = dg X i + 65536 * (X / 65536 ^ (i + 1)) := by
 unfold dg
 rw [Nat.pow_succ, ← Nat.div_div_eq_div_mul]; omega
theorem high_lt (X Y i : Nat) (h : X / 65536 ^ i < Y / 65536 ^ i) : X < Y := by
 have h0 : 0 < 65536 ^ i := Nat.pow_pos (by decide)
 by_cases hc : X < Y
 ·exact hc
 ·exfalso
  have : Y / 65536 ^ i ≤ X / 65536 ^ i := Nat.div_le_div_right (by omega)
  omega
set_option maxRecDepth 100000 in
set_option maxHeartbeats 4000000 in
theorem rcmp_any (X Y : Nat) (hX : X < 2 ^ 256) (hY : Y < 2 ^ 256) (w : World) : Calls Try.prog 60 #[num X, num Y] w fun e w' => e = .returned (.int .i64 (cmpN X Y)) ∧ Below w.heap.size w w' := by
 have CX := digitsA X; have CY := digitsA Y
 have HCX := Lib.hid CX; have HCY := Lib.hid CY
 clear CX CY
 have HX := Lib.hid hX; have HY := Lib.hid hY; clear hX hY
 obtain ⟨r, hr⟩ : ∃ r, r = cmpN X Y := ⟨_, rfl⟩
 rw [← hr]
 have HR := Lib.hid hr
 clear hr
 go_enter Try.func60, Try.ntmps60
 go_wp2_with fail
 have BW := Lib.hid (Below.refl w.heap.size w)
 generalize hW1 : ((w.alloc (.cells #[.int .u64 (wd X 0 : Nat), .int .u64 (wd X 1 : Nat), .int .u64 (wd X 2 : Nat), .int .u64 (wd X 3 : Nat)] 24)).alloc (.cells #[.int .u64 (wd Y 0 : Nat), .int .u64 (wd Y 1 : Nat), .int .u64 (wd Y 2 : Nat), .int .u64 (wd Y 3 : Nat)] 24)) = W1 at *
 have Na : At W1 (w.heap.size) _ _ := at_of hW1 ((At.at_ _ _ _ _ (by simp)).alloc _)
 have Nb : At W1 (w.heap.size + 1) _ _ := at_of hW1 (At.at_ _ _ _ _ (by simp))
 have NB := gr_of hW1 (gr_alloc (gr_alloc BW.out _) _)
 clear BW
 clear hW1
 generalize w.heap.size + 1 = gb at *
 obtain ⟨ga, hg0⟩ : ∃ g, g = w.heap.size := ⟨_, rfl⟩
 rw [← hg0] at Na ⊢
 clear hg0
 have Fa := Lib.hid Na
 have Fb := Lib.hid Nb
 have BW := Lib.hid NB
 clear NB Na Nb
 refine (HCX.out _).mono ?_
 rintro e v2 ⟨rfl, z2⟩
 have Na := Lib.hid (Fa.out.on z2)
 have Nb := Lib.hid (Fb.out.on z2)
 have NB := Lib.hid (bel_tr BW.out z2)
 clear BW z2 Fa Fb
 have Fa := Na
 have Fb := Nb
 have BW := NB
 clear NB Na Nb
 have Lb := Fb.out.lt
 have cb0 := Fb.out.c0
 have cb1 := Fb.out.c1
 have cb2 := Fb.out.c2
 have cb3 := Fb.out.c3
 go_wp2_with fail
 generalize hW3 : (v2.alloc (.cells #[.int .u64 (dg X 0 : Nat), .int .u64 (dg X 1 : Nat), .int .u64 (dg X 2 : Nat), .int .u64 (dg X 3 : Nat), .int .u64 (dg X 4 : Nat), .int .u64 (dg X 5 : Nat), .int .u64 (dg X 6 : Nat), .int .u64 (dg X 7 : Nat), .int .u64 (dg X 8 : Nat), .int .u64 (dg X 9 : Nat), .int .u64 (dg X 10 : Nat), .int .u64 (dg X 11 : Nat), .int .u64 (dg X 12 : Nat), .int .u64 (dg X 13 : Nat), .int .u64 (dg X 14 : Nat), .int .u64 (dg X 15 : Nat)] 74)) = W3 at *
 clear Lb cb0 cb1 cb2 cb3
 have Nx : At W3 (v2.heap.size) _ _ := at_of hW3 (At.at_ _ _ _ _ (by simp))
 have Na := at_of hW3 (Fa.out.alloc _)
 have Nb := at_of hW3 (Fb.out.alloc _)
 have NB := gr_of hW3 (gr_alloc BW.out _)
 clear BW Fa Fb
 clear hW3
 generalize v2.heap.size = gx at *
 have Fa := Lib.hid Na
 have Fb := Lib.hid Nb
 have Fx := Lib.hid Nx
 have BW := Lib.hid NB
 clear NB Na Nb Nx
 refine (HCY.out _).mono ?_
 rintro e v4 ⟨rfl, z4⟩
 have Na := Lib.hid (Fa.out.on z4)
 have Nb := Lib.hid (Fb.out.on z4)
 have Nx := Lib.hid (Fx.out.on z4)
 have NB := Lib.hid (bel_tr BW.out z4)
 clear BW z4 Fa Fb Fx
 have Fa := Na
 have Fb := Nb
 have Fx := Nx
 have BW := NB
 clear NB Na Nb Nx
 go_wp2_with fail
 generalize hW5 : (v4.alloc (.cells #[.int .u64 (dg Y 0 : Nat), .int .u64 (dg Y 1 : Nat), .int .u64 (dg Y 2 : Nat), .int .u64 (dg Y 3 : Nat), .int .u64 (dg Y 4 : Nat), .int .u64 (dg Y 5 : Nat), .int .u64 (dg Y 6 : Nat), .int .u64 (dg Y 7 : Nat), .int .u64 (dg Y 8 : Nat), .int .u64 (dg Y 9 : Nat), .int .u64 (dg Y 10 : Nat), .int .u64 (dg Y 11 : Nat), .int .u64 (dg Y 12 : Nat), .int .u64 (dg Y 13 : Nat), .int .u64 (dg Y 14 : Nat), .int .u64 (dg Y 15 : Nat)] 74)) = W5 at *
 have Ny : At W5 (v4.heap.size) _ _ := at_of hW5 (At.at_ _ _ _ _ (by simp))
 have Na := at_of hW5 (Fa.out.alloc _)
 have Nb := at_of hW5 (Fb.out.alloc _)
 have Nx := at_of hW5 (Fx.out.alloc _)
 have NB := gr_of hW5 (gr_alloc BW.out _)
 clear BW Fa Fb Fx
 clear hW5
 generalize v4.heap.size = gy at *
 have Fa := Lib.hid Na
 have Fb := Lib.hid Nb
 have Fx := Lib.hid Nx
 have Fy := Lib.hid Ny
 have BW := Lib.hid NB
 clear NB Na Nb Nx Ny
 clear Fa
 clear Fb
 go_loopw [7] (fun s wr => ∃ i : Nat, i ≤ 16 ∧ s = .int .i64 ((i : Int) - 1) ∧ Hid (At wr gx 74 (ws (ds X)) ∧ At wr gy 74 (ws (ds Y)) ∧ Below w.heap.size w wr ∧ X / 65536 ^ i = Y / 65536 ^ i)) (fun s _ => (intOf s + 1).toNat)
 case atStart => exact ⟨16, by omega, rfl, Fx.out, Fy.out, BW.out, by have hx := HX.out; have hy := HY.out; rw [Nat.div_eq_of_lt (show X < 65536 ^ 16 by omega), Nat.div_eq_of_lt (show Y < 65536 ^ 16 by omega)]⟩
 case round =>
  obtain ⟨i, hi, rfl, hM⟩ := hrel
  clear Fx Fy BW
  by_cases h0 : i = 0
  ·subst h0
   have e := hM.out.2.2.2
   rw [Nat.pow_zero, Nat.div_one, Nat.div_one] at e
   have HE := Lib.hid (show r = 0 from by rw [HR.out, e, cmpN_eq])
   have BW := Lib.hid hM.out.2.2.1
   clear hM e
   go_wp2_with fail
   go_ret
   exact ⟨by rw [HE.out]; rfl, BW.out⟩
  ·obtain ⟨k, rfl⟩ : ∃ k, i = k + 1 := ⟨i - 1, by omega⟩
   have e1 : (((k + 1 : Nat) : Int) - 1) = (k : Nat) := by omega
   rw [e1]
   clear e1
   have fx : ∀ w2 : World, w2.heap = wr.heap → w2.cell? ⟨gx, k, none⟩ = some (.int .u64 (dg X k : Nat)) := fun w2 hw => by
    have h := hM.out.1
    have h2 : At w2 gx 74 (ws (ds X)) := by unfold At at h ⊢; rw [hw]; exact h
    rw [h2.cell, ws_at _ _ (by rw [ds_len]; omega), ds_at X k (by omega)]
   have fy : ∀ w2 : World, w2.heap = wr.heap → w2.cell? ⟨gy, k, none⟩ = some (.int .u64 (dg Y k : Nat)) := fun w2 hw => by
    have h := hM.out.2.1
    have h2 : At w2 gy 74 (ws (ds Y)) := by unfold At at h ⊢; rw [hw]; exact h
    rw [h2.cell, ws_at _ _ (by rw [ds_len]; omega), ds_at Y k (by omega)]
   have hxl := dg_lt X k
   have hyl := dg_lt Y k
   have ex := high_dig X k (by omega) HX.out
   have ey := high_dig Y k (by omega) HY.out
   have ez := hM.out.2.2.2
   rw [← ez] at ey
   have k0 : (0 : Int) ≤ (k : Int) := by omega
   have k16 : (k : Int) < 16 := by omega
   have HXk := Lib.hid (fun h : dg X k < dg Y k => high_lt X Y k (by omega))
   have HYk := Lib.hid (fun h : dg Y k < dg X k => high_lt Y X k (by omega))
   have HEk := Lib.hid (fun h : dg X k = dg Y k => show X / 65536 ^ k = Y / 65536 ^ k by omega)
   clear ex ey ez
   have c1 := fx wr.drew rfl
   have c2 := fy wr.drew rfl
   have c3 := fx wr.drew.drew rfl
   have c4 := fy wr.drew.drew rfl
   clear fx fy
   generalize hxk : dg X k = xk at *
   generalize hyk : dg Y k = yk at *
   rcases Nat.lt_trichotomy xk yk with h | h | h
   ·have HE := Lib.hid (show r = -1 from by rw [HR.out, cmpN_lt (HXk.out h)])
    have h' : (xk : Int) < (yk : Int) := by omega
    have BW := Lib.hid hM.out.2.2.1.drew
    have BW2 := Lib.hid hM.out.2.2.1.drew.drew
    clear hM HXk HYk HEk hxk hyk
    go_wp2_with fail
    refine wp_region_still_tail 6 (by kernel_rfl) (by kernel_rfl) ?_
    simp only [List.take_succ_cons, List.take_zero, List.drop_succ_cons, List.drop_zero]
    change wpStill _ _ wr.drew (fun a' => wpList _ _ _ _ a' wr.drew) _ _
    repeat still_step
    refine wpStill_nil ?_
    go_wp2_with fail
    go_ret
    exact ⟨by rw [HE.out]; rfl, by first | exact BW.out | exact BW2.out⟩
   ·have h' : ¬ (xk : Int) < (yk : Int) := by omega
    have h'' : ¬ (yk : Int) < (xk : Int) := by omega
    have HEQ := Lib.hid (HEk.out h)
    clear HXk HYk HEk hxk hyk h
    go_wp2_with fail
    refine wp_region_still_tail 6 (by kernel_rfl) (by kernel_rfl) ?_
    simp only [List.take_succ_cons, List.take_zero, List.drop_succ_cons, List.drop_zero]
    change wpStill _ _ wr.drew (fun a' => wpList _ _ _ _ a' wr.drew) _ _
    repeat still_step
    refine wpStill_nil ?_
    go_wp2_with fail
    refine wp_region_still_tail 6 (by kernel_rfl) (by kernel_rfl) ?_
    simp only [List.take_succ_cons, List.take_zero, List.drop_succ_cons, List.drop_zero]
    change wpStill _ _ wr.drew.drew (fun a' => wpList _ _ _ _ a' wr.drew.drew) _ _
    repeat still_step
    refine wpStill_nil ?_
    go_wp2_with fail
    go_roundw
    case rel =>
     first
      | exact ⟨k, by omega, by go_num, hM.out.1.drew.drew, hM.out.2.1.drew.drew, hM.out.2.2.1.drew.drew, HEQ.out⟩
      | ((repeat apply Exists.intro); exact ⟨⟨k, by omega, by go_num, hM.out.1.drew.drew, hM.out.2.1.drew.drew, hM.out.2.2.1.drew.drew, HEQ.out⟩, rfl⟩)
    case measure => (simp [intOf] <;> omega)
   ·have HE := Lib.hid (show r = 1 from by rw [HR.out, cmpN_gt (HYk.out h)])
    have h' : ¬ (xk : Int) < (yk : Int) := by omega
    have h'' : (yk : Int) < (xk : Int) := by omega
    have BW2 := Lib.hid hM.out.2.2.1.drew.drew
    clear hM HXk HYk HEk hxk hyk
    go_wp2_with fail
    refine wp_region_still_tail 6 (by kernel_rfl) (by kernel_rfl) ?_
    simp only [List.take_succ_cons, List.take_zero, List.drop_succ_cons, List.drop_zero]
    change wpStill _ _ wr.drew (fun a' => wpList _ _ _ _ a' wr.drew) _ _
    repeat still_step
    refine wpStill_nil ?_
    go_wp2_with fail
    refine wp_region_still_tail 6 (by kernel_rfl) (by kernel_rfl) ?_
    simp only [List.take_succ_cons, List.take_zero, List.drop_succ_cons, List.drop_zero]
    change wpStill _ _ wr.drew.drew (fun a' => wpList _ _ _ _ a' wr.drew.drew) _ _
    repeat still_step
    refine wpStill_nil ?_
    go_wp2_with fail
    go_ret
    exact ⟨by rw [HE.out]; rfl, BW2.out⟩

set_option maxHeartbeats 400000 in
/-- the document's Of -/
theorem rof1_any (x : Nat) (hx : x < 18446744073709551616) (w : World) : Calls Try.prog 46 #[.int .u64 (x : Nat)] w fun e w' => e = .returned (num x) ∧ Below w.heap.size w w' := by
 have e : num x = .agg #[.int .u64 (x : Nat), .int .u64 0, .int .u64 0, .int .u64 0] := (num_of x 0 0 0 hx (by decide) (by decide) (by decide) x (by omega)).symm
 rw [e]
 clear e hx
 go_enter Try.func46, Try.ntmps46
 go_wp2
 exact bodyPost_ret (v := .agg #[.int .u64 (x : Nat), .int .u64 0, .int .u64 0, .int .u64 0]) (by simp [results, Try.results46, go_sem]) rfl
  ⟨rfl, by repeat (first | exact Below.refl _ _ | refine gr_alloc ?_ _ | refine Below.setCell ?_ (by simp) _ | refine Below.setCell ?_ (by simp; omega) _)⟩
end Go.Proofs.Ytodlpmepoakdlaa
