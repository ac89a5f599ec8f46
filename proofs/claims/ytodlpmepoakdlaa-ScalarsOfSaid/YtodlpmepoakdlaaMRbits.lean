/-
 balefireref02.Digits: sixteen digits of sixteen bits.
-/
import Derived.Test.YtodlpmepoakdlaaMMulW
import Derived.Test.YtodlpmepoakdlaaMShiftN
import Derived.Test.YtodlpmepoakdlaaMTree
namespace Go.Proofs.Ytodlpmepoakdlaa
set_option maxRecDepth 100000
open Go.RowKit
set_option linter.unusedSimpArgs false
set_option linter.unusedVariables false
attribute [local go_sem ↓] Go.wp_at_zero Go.wp_at_succ

/-- digit k of X -/
def dg (X k : Nat) : Nat := X / 65536 ^ k % 65536
theorem dg_lt (X k : Nat) : dg X k < 65536 := Nat.mod_lt _ (by decide)
theorem dg_wd (X q r : Nat) (hr : r < 4) : wd X q / 65536 ^ r % 65536 = dg X (4 * q + r) := by
 unfold wd dg
 have e : (18446744073709551616 : Nat) = 65536 ^ r * (65536 ^ (4 - r)) := by rw [← Nat.pow_add, show r + (4 - r) = 4 by omega]
 have e2 : (18446744073709551616 : Nat) ^ q = 65536 ^ (4 * q) := by rw [Nat.pow_mul]
 rw [e2]
 conv => lhs; arg 1; arg 1; arg 2; rw [e]
 rw [Nat.mod_mul_right_div_self, Nat.mod_mod_of_dvd _ (Nat.dvd_trans (by decide) (Nat.pow_dvd_pow 65536 (show 1 ≤ 4 - r by omega))), Nat.div_div_eq_div_mul, ← Nat.pow_add]
/-- all digits -/
def ds (X : Nat) : List Nat := [dg X 0, dg X 1, dg X 2, dg X 3, dg X 4, dg X 5, dg X 6, dg X 7, dg X 8, dg X 9, dg X 10, dg X 11, dg X 12, dg X 13, dg X 14, dg X 15]
theorem ds_len (X : Nat) : (ds X).length = 16 := rfl
theorem ds_at (X k : Nat) (h : k < 16) : (ds X).getD k 0 = dg X k := by
 match k, h with
 | 0, _ | 1, _ | 2, _ | 3, _ | 4, _ | 5, _ | 6, _ | 7, _ | 8, _ | 9, _ | 10, _ | 11, _ | 12, _ | 13, _ | 14, _ | 15, _ => rfl
 | k + 16, h => omega
theorem ds_lt (X : Nat) : ∀ x ∈ ds X, x < 65536 := by
 intro x hx
 obtain ⟨k, hk, rfl⟩ := List.mem_iff_getElem.1 hx
 have h := ds_at X k hk
 simp only [List.getD, List.getElem?_eq_getElem hk, Option.getD_some] at h
 rw [h]; exact dg_lt X k
theorem ds_of (X : Nat) (M : List Nat) (hl : M.length = 16) (h : ∀ k, k < 16 → M.getD k 0 = dg X k) : M = ds X := by
 refine List.ext_getElem (by rw [hl, ds_len]) fun k h1 h2 => ?_
 have e1 := h k (by omega)
 have e2 := ds_at X k (by omega)
 simp only [List.getD, List.getElem?_eq_getElem h1, Option.getD_some] at e1
 simp only [List.getD, List.getElem?_eq_getElem h2, Option.getD_some] at e2
 rw [e1, e2]

/-- what memory holds while digits are made -/
structure DW (wr w : World) (X : Nat) (M : List Nat) : Prop where
 a : At wr w.heap.size 24 (ws (wl X))
 res : At wr (w.heap.size + 1) 74 (ws (List.replicate 16 0))
 d : At wr (w.heap.size + 1 + 1) 74 (ws M)
 len : M.length = 16
 bel : Below w.heap.size w wr

set_option maxRecDepth 100000 in
set_option maxHeartbeats 4000000 in
theorem digits_any (X : Nat) (w : World) : Calls Try.prog 67 #[num X] w fun e w' => e = .returned (.agg (ws (ds X))) ∧ Below w.heap.size w w' := by
 go_enter Try.func67, Try.ntmps67
 go_wp2
 go_loopw [4] (fun s wr => ∃ (i : Nat) (M : List Nat), i ≤ 16 ∧ s = .int .i64 i ∧ Hid (DW wr w X M ∧ ∀ k, k < i → M.getD k 0 = dg X k)) (fun s _ => 16 - (intOf s).toNat)
 case atStart =>
  refine ⟨0, List.replicate 16 0, by omega, rfl, ⟨?_, ?_, ?_, rfl, ?_⟩, fun k hk => by omega⟩
  ·exact ((At.at_ w _ _ _ rfl).alloc _).alloc _
  ·exact (At.at_ (w.alloc _) _ _ _ (by simp)).alloc _
  ·exact At.at_ ((w.alloc _).alloc _) _ _ _ (by simp)
  ·repeat (first | exact Below.refl _ _ | refine gr_alloc ?_ _)
 case round =>
  obtain ⟨i, M, hi, rfl, hH⟩ := hrel
  by_cases hlt : i < 16
  ·obtain ⟨q, hq⟩ : ∃ q, q = i / 4 := ⟨_, rfl⟩
   obtain ⟨r, hr⟩ : ∃ r, r = i % 4 := ⟨_, rfl⟩
   have fa : wr.cell? ⟨w.heap.size, q, none⟩ = some (.int .u64 (wd X q : Nat)) := by rw [hH.out.1.a.cell, ws_at _ _ (by simp [wl]; omega), wl_at X q (by omega)]
   have fd : wr.cell? ⟨w.heap.size + 1 + 1, i, none⟩ = some (.int .u64 (M.getD i 0 : Nat)) := by rw [hH.out.1.d.cell, ws_at _ _ (by rw [hH.out.1.len]; omega)]
   have ff : wr.frozen? ⟨w.heap.size + 1 + 1, i, none⟩ = false := hH.out.1.d.frozen _
   generalize M.getD i 0 = m0 at fd
   have e := dg_wd X q r (by omega)
   rw [show 4 * q + r = i by omega, show (65536 : Nat) ^ r = 2 ^ (16 * r) by rw [Nat.pow_mul]] at e
   obtain ⟨s, hs⟩ : ∃ s, s = 16 * r := ⟨_, rfl⟩
   rw [← hs] at e
   have r1 : ((i : Int) / 4) = (q : Nat) := by omega
   have r2 : ((i : Int) % 4) = (r : Nat) := by omega
   have r3 : IntKind.i64.wrap (16 * (r : Int)) = (s : Nat) := by rw [IntKind.wrap_i64]; omega
   have r4 : s ≤ 48 := by omega
   have r5 : (s : Int) ≤ 64 := by omega
   have r6 : (q : Int) < 4 := by omega
   have r7 : (i : Int) < 16 := by omega
   have r8 : (((wd X q : Nat) : Int) / 2 ^ s).tmod 65536 = (dg X i : Nat) := by
    have e1 : ((wd X q : Nat) : Int) / 2 ^ s = ((wd X q / 2 ^ s : Nat) : Int) := by simp
    rw [← e, e1, Int.tmod_eq_emod_of_nonneg (Int.natCast_nonneg _)]; simp
   have hwd := wd_lt X q
   clear hq hr hs e
   go_wp2
   go_roundw
   case rel =>
    refine ⟨i + 1, M.set i (dg X i), by omega, by go_num, ⟨hH.out.1.a.far (by show _ ≠ _; dsimp; omega) _, hH.out.1.res.far (by show _ ≠ _; dsimp; omega) _, by rw [← ws_set]; exact hH.out.1.d.set _ _, by rw [List.length_set]; exact hH.out.1.len, hH.out.1.bel.setCell (by dsimp; omega) _⟩, fun k hk => ?_⟩
    by_cases hki : k = i
    ·subst hki; simp [List.getD, hH.out.1.len, hlt]
    ·rw [getD_set_far _ _ _ _ (fun h => hki h.symm)]; exact hH.out.2 k (by omega)
   case measure => simp [intOf]; omega
  ·obtain rfl : i = 16 := by omega
   have hM := ds_of X M hH.out.1.len hH.out.2
   subst hM
   have c0 : wr.cell? ⟨w.heap.size + 1 + 1, 0, none⟩ = some (.int .u64 (dg X 0 : Nat)) := hH.out.1.d.cell 0
   have v0 : wr.cell? ⟨w.heap.size + 1, 0, none⟩ = some (.int .u64 0) := hH.out.1.res.cell 0
   have f0 : wr.frozen? ⟨w.heap.size + 1, 0, none⟩ = false := hH.out.1.res.frozen 0
   have c1 : wr.cell? ⟨w.heap.size + 1 + 1, 1, none⟩ = some (.int .u64 (dg X 1 : Nat)) := hH.out.1.d.cell 1
   have v1 : wr.cell? ⟨w.heap.size + 1, 1, none⟩ = some (.int .u64 0) := hH.out.1.res.cell 1
   have f1 : wr.frozen? ⟨w.heap.size + 1, 1, none⟩ = false := hH.out.1.res.frozen 1
   have c2 : wr.cell? ⟨w.heap.size + 1 + 1, 2, none⟩ = some (.int .u64 (dg X 2 : Nat)) := hH.out.1.d.cell 2
   have v2 : wr.cell? ⟨w.heap.size + 1, 2, none⟩ = some (.int .u64 0) := hH.out.1.res.cell 2
   have f2 : wr.frozen? ⟨w.heap.size + 1, 2, none⟩ = false := hH.out.1.res.frozen 2
   have c3 : wr.cell? ⟨w.heap.size + 1 + 1, 3, none⟩ = some (.int .u64 (dg X 3 : Nat)) := hH.out.1.d.cell 3
   have v3 : wr.cell? ⟨w.heap.size + 1, 3, none⟩ = some (.int .u64 0) := hH.out.1.res.cell 3
   have f3 : wr.frozen? ⟨w.heap.size + 1, 3, none⟩ = false := hH.out.1.res.frozen 3
   have c4 : wr.cell? ⟨w.heap.size + 1 + 1, 4, none⟩ = some (.int .u64 (dg X 4 : Nat)) := hH.out.1.d.cell 4
   have v4 : wr.cell? ⟨w.heap.size + 1, 4, none⟩ = some (.int .u64 0) := hH.out.1.res.cell 4
   have f4 : wr.frozen? ⟨w.heap.size + 1, 4, none⟩ = false := hH.out.1.res.frozen 4
   have c5 : wr.cell? ⟨w.heap.size + 1 + 1, 5, none⟩ = some (.int .u64 (dg X 5 : Nat)) := hH.out.1.d.cell 5
   have v5 : wr.cell? ⟨w.heap.size + 1, 5, none⟩ = some (.int .u64 0) := hH.out.1.res.cell 5
   have f5 : wr.frozen? ⟨w.heap.size + 1, 5, none⟩ = false := hH.out.1.res.frozen 5
   have c6 : wr.cell? ⟨w.heap.size + 1 + 1, 6, none⟩ = some (.int .u64 (dg X 6 : Nat)) := hH.out.1.d.cell 6
   have v6 : wr.cell? ⟨w.heap.size + 1, 6, none⟩ = some (.int .u64 0) := hH.out.1.res.cell 6
   have f6 : wr.frozen? ⟨w.heap.size + 1, 6, none⟩ = false := hH.out.1.res.frozen 6
   have c7 : wr.cell? ⟨w.heap.size + 1 + 1, 7, none⟩ = some (.int .u64 (dg X 7 : Nat)) := hH.out.1.d.cell 7
   have v7 : wr.cell? ⟨w.heap.size + 1, 7, none⟩ = some (.int .u64 0) := hH.out.1.res.cell 7
   have f7 : wr.frozen? ⟨w.heap.size + 1, 7, none⟩ = false := hH.out.1.res.frozen 7
   have c8 : wr.cell? ⟨w.heap.size + 1 + 1, 8, none⟩ = some (.int .u64 (dg X 8 : Nat)) := hH.out.1.d.cell 8
   have v8 : wr.cell? ⟨w.heap.size + 1, 8, none⟩ = some (.int .u64 0) := hH.out.1.res.cell 8
   have f8 : wr.frozen? ⟨w.heap.size + 1, 8, none⟩ = false := hH.out.1.res.frozen 8
   have c9 : wr.cell? ⟨w.heap.size + 1 + 1, 9, none⟩ = some (.int .u64 (dg X 9 : Nat)) := hH.out.1.d.cell 9
   have v9 : wr.cell? ⟨w.heap.size + 1, 9, none⟩ = some (.int .u64 0) := hH.out.1.res.cell 9
   have f9 : wr.frozen? ⟨w.heap.size + 1, 9, none⟩ = false := hH.out.1.res.frozen 9
   have c10 : wr.cell? ⟨w.heap.size + 1 + 1, 10, none⟩ = some (.int .u64 (dg X 10 : Nat)) := hH.out.1.d.cell 10
   have v10 : wr.cell? ⟨w.heap.size + 1, 10, none⟩ = some (.int .u64 0) := hH.out.1.res.cell 10
   have f10 : wr.frozen? ⟨w.heap.size + 1, 10, none⟩ = false := hH.out.1.res.frozen 10
   have c11 : wr.cell? ⟨w.heap.size + 1 + 1, 11, none⟩ = some (.int .u64 (dg X 11 : Nat)) := hH.out.1.d.cell 11
   have v11 : wr.cell? ⟨w.heap.size + 1, 11, none⟩ = some (.int .u64 0) := hH.out.1.res.cell 11
   have f11 : wr.frozen? ⟨w.heap.size + 1, 11, none⟩ = false := hH.out.1.res.frozen 11
   have c12 : wr.cell? ⟨w.heap.size + 1 + 1, 12, none⟩ = some (.int .u64 (dg X 12 : Nat)) := hH.out.1.d.cell 12
   have v12 : wr.cell? ⟨w.heap.size + 1, 12, none⟩ = some (.int .u64 0) := hH.out.1.res.cell 12
   have f12 : wr.frozen? ⟨w.heap.size + 1, 12, none⟩ = false := hH.out.1.res.frozen 12
   have c13 : wr.cell? ⟨w.heap.size + 1 + 1, 13, none⟩ = some (.int .u64 (dg X 13 : Nat)) := hH.out.1.d.cell 13
   have v13 : wr.cell? ⟨w.heap.size + 1, 13, none⟩ = some (.int .u64 0) := hH.out.1.res.cell 13
   have f13 : wr.frozen? ⟨w.heap.size + 1, 13, none⟩ = false := hH.out.1.res.frozen 13
   have c14 : wr.cell? ⟨w.heap.size + 1 + 1, 14, none⟩ = some (.int .u64 (dg X 14 : Nat)) := hH.out.1.d.cell 14
   have v14 : wr.cell? ⟨w.heap.size + 1, 14, none⟩ = some (.int .u64 0) := hH.out.1.res.cell 14
   have f14 : wr.frozen? ⟨w.heap.size + 1, 14, none⟩ = false := hH.out.1.res.frozen 14
   have c15 : wr.cell? ⟨w.heap.size + 1 + 1, 15, none⟩ = some (.int .u64 (dg X 15 : Nat)) := hH.out.1.d.cell 15
   have v15 : wr.cell? ⟨w.heap.size + 1, 15, none⟩ = some (.int .u64 0) := hH.out.1.res.cell 15
   have f15 : wr.frozen? ⟨w.heap.size + 1, 15, none⟩ = false := hH.out.1.res.frozen 15
   go_wp2
   have AF := ((((((((((((((((hH.out.1.res.set 0 (.int .u64 (dg X 0 : Nat))).set 1 (.int .u64 (dg X 1 : Nat))).set 2 (.int .u64 (dg X 2 : Nat))).set 3 (.int .u64 (dg X 3 : Nat))).set 4 (.int .u64 (dg X 4 : Nat))).set 5 (.int .u64 (dg X 5 : Nat))).set 6 (.int .u64 (dg X 6 : Nat))).set 7 (.int .u64 (dg X 7 : Nat))).set 8 (.int .u64 (dg X 8 : Nat))).set 9 (.int .u64 (dg X 9 : Nat))).set 10 (.int .u64 (dg X 10 : Nat))).set 11 (.int .u64 (dg X 11 : Nat))).set 12 (.int .u64 (dg X 12 : Nat))).set 13 (.int .u64 (dg X 13 : Nat))).set 14 (.int .u64 (dg X 14 : Nat))).set 15 (.int .u64 (dg X 15 : Nat)))
   rw [ws_set, ws_set, ws_set, ws_set, ws_set, ws_set, ws_set, ws_set, ws_set, ws_set, ws_set, ws_set, ws_set, ws_set, ws_set, ws_set] at AF
   have hl : (((((((((((((((((List.replicate 16 0).set 0 (dg X 0)).set 1 (dg X 1)).set 2 (dg X 2)).set 3 (dg X 3)).set 4 (dg X 4)).set 5 (dg X 5)).set 6 (dg X 6)).set 7 (dg X 7)).set 8 (dg X 8)).set 9 (dg X 9)).set 10 (dg X 10)).set 11 (dg X 11)).set 12 (dg X 12)).set 13 (dg X 13)).set 14 (dg X 14)).set 15 (dg X 15)) = ds X := by simp only [List.replicate, List.set_cons_zero, List.set_cons_succ]; rfl
   rw [hl] at AF
   clear hl
   have BF : Below w.heap.size w ((((((((((((((((wr.setCell ⟨w.heap.size + 1, 0, none⟩ (.int .u64 (dg X 0 : Nat))).setCell ⟨w.heap.size + 1, 1, none⟩ (.int .u64 (dg X 1 : Nat))).setCell ⟨w.heap.size + 1, 2, none⟩ (.int .u64 (dg X 2 : Nat))).setCell ⟨w.heap.size + 1, 3, none⟩ (.int .u64 (dg X 3 : Nat))).setCell ⟨w.heap.size + 1, 4, none⟩ (.int .u64 (dg X 4 : Nat))).setCell ⟨w.heap.size + 1, 5, none⟩ (.int .u64 (dg X 5 : Nat))).setCell ⟨w.heap.size + 1, 6, none⟩ (.int .u64 (dg X 6 : Nat))).setCell ⟨w.heap.size + 1, 7, none⟩ (.int .u64 (dg X 7 : Nat))).setCell ⟨w.heap.size + 1, 8, none⟩ (.int .u64 (dg X 8 : Nat))).setCell ⟨w.heap.size + 1, 9, none⟩ (.int .u64 (dg X 9 : Nat))).setCell ⟨w.heap.size + 1, 10, none⟩ (.int .u64 (dg X 10 : Nat))).setCell ⟨w.heap.size + 1, 11, none⟩ (.int .u64 (dg X 11 : Nat))).setCell ⟨w.heap.size + 1, 12, none⟩ (.int .u64 (dg X 12 : Nat))).setCell ⟨w.heap.size + 1, 13, none⟩ (.int .u64 (dg X 13 : Nat))).setCell ⟨w.heap.size + 1, 14, none⟩ (.int .u64 (dg X 14 : Nat))).setCell ⟨w.heap.size + 1, 15, none⟩ (.int .u64 (dg X 15 : Nat))) := ((((((((((((((((hH.out.1.bel.setCell (by dsimp; omega) _).setCell (by dsimp; omega) _).setCell (by dsimp; omega) _).setCell (by dsimp; omega) _).setCell (by dsimp; omega) _).setCell (by dsimp; omega) _).setCell (by dsimp; omega) _).setCell (by dsimp; omega) _).setCell (by dsimp; omega) _).setCell (by dsimp; omega) _).setCell (by dsimp; omega) _).setCell (by dsimp; omega) _).setCell (by dsimp; omega) _).setCell (by dsimp; omega) _).setCell (by dsimp; omega) _).setCell (by dsimp; omega) _)
   generalize ((((((((((((((((wr.setCell ⟨w.heap.size + 1, 0, none⟩ (.int .u64 (dg X 0 : Nat))).setCell ⟨w.heap.size + 1, 1, none⟩ (.int .u64 (dg X 1 : Nat))).setCell ⟨w.heap.size + 1, 2, none⟩ (.int .u64 (dg X 2 : Nat))).setCell ⟨w.heap.size + 1, 3, none⟩ (.int .u64 (dg X 3 : Nat))).setCell ⟨w.heap.size + 1, 4, none⟩ (.int .u64 (dg X 4 : Nat))).setCell ⟨w.heap.size + 1, 5, none⟩ (.int .u64 (dg X 5 : Nat))).setCell ⟨w.heap.size + 1, 6, none⟩ (.int .u64 (dg X 6 : Nat))).setCell ⟨w.heap.size + 1, 7, none⟩ (.int .u64 (dg X 7 : Nat))).setCell ⟨w.heap.size + 1, 8, none⟩ (.int .u64 (dg X 8 : Nat))).setCell ⟨w.heap.size + 1, 9, none⟩ (.int .u64 (dg X 9 : Nat))).setCell ⟨w.heap.size + 1, 10, none⟩ (.int .u64 (dg X 10 : Nat))).setCell ⟨w.heap.size + 1, 11, none⟩ (.int .u64 (dg X 11 : Nat))).setCell ⟨w.heap.size + 1, 12, none⟩ (.int .u64 (dg X 12 : Nat))).setCell ⟨w.heap.size + 1, 13, none⟩ (.int .u64 (dg X 13 : Nat))).setCell ⟨w.heap.size + 1, 14, none⟩ (.int .u64 (dg X 14 : Nat))).setCell ⟨w.heap.size + 1, 15, none⟩ (.int .u64 (dg X 15 : Nat))) = WF at *
   have d0 : WF.cell? ⟨w.heap.size + 1, 0, none⟩ = some (.int .u64 (dg X 0 : Nat)) := AF.cell 0
   have d1 : WF.cell? ⟨w.heap.size + 1, 1, none⟩ = some (.int .u64 (dg X 1 : Nat)) := AF.cell 1
   have d2 : WF.cell? ⟨w.heap.size + 1, 2, none⟩ = some (.int .u64 (dg X 2 : Nat)) := AF.cell 2
   have d3 : WF.cell? ⟨w.heap.size + 1, 3, none⟩ = some (.int .u64 (dg X 3 : Nat)) := AF.cell 3
   have d4 : WF.cell? ⟨w.heap.size + 1, 4, none⟩ = some (.int .u64 (dg X 4 : Nat)) := AF.cell 4
   have d5 : WF.cell? ⟨w.heap.size + 1, 5, none⟩ = some (.int .u64 (dg X 5 : Nat)) := AF.cell 5
   have d6 : WF.cell? ⟨w.heap.size + 1, 6, none⟩ = some (.int .u64 (dg X 6 : Nat)) := AF.cell 6
   have d7 : WF.cell? ⟨w.heap.size + 1, 7, none⟩ = some (.int .u64 (dg X 7 : Nat)) := AF.cell 7
   have d8 : WF.cell? ⟨w.heap.size + 1, 8, none⟩ = some (.int .u64 (dg X 8 : Nat)) := AF.cell 8
   have d9 : WF.cell? ⟨w.heap.size + 1, 9, none⟩ = some (.int .u64 (dg X 9 : Nat)) := AF.cell 9
   have d10 : WF.cell? ⟨w.heap.size + 1, 10, none⟩ = some (.int .u64 (dg X 10 : Nat)) := AF.cell 10
   have d11 : WF.cell? ⟨w.heap.size + 1, 11, none⟩ = some (.int .u64 (dg X 11 : Nat)) := AF.cell 11
   have d12 : WF.cell? ⟨w.heap.size + 1, 12, none⟩ = some (.int .u64 (dg X 12 : Nat)) := AF.cell 12
   have d13 : WF.cell? ⟨w.heap.size + 1, 13, none⟩ = some (.int .u64 (dg X 13 : Nat)) := AF.cell 13
   have d14 : WF.cell? ⟨w.heap.size + 1, 14, none⟩ = some (.int .u64 (dg X 14 : Nat)) := AF.cell 14
   have d15 : WF.cell? ⟨w.heap.size + 1, 15, none⟩ = some (.int .u64 (dg X 15 : Nat)) := AF.cell 15
   exact bodyPost_ret (v := .agg #[.int .u64 (dg X 0 : Nat), .int .u64 (dg X 1 : Nat), .int .u64 (dg X 2 : Nat), .int .u64 (dg X 3 : Nat), .int .u64 (dg X 4 : Nat), .int .u64 (dg X 5 : Nat), .int .u64 (dg X 6 : Nat), .int .u64 (dg X 7 : Nat), .int .u64 (dg X 8 : Nat), .int .u64 (dg X 9 : Nat), .int .u64 (dg X 10 : Nat), .int .u64 (dg X 11 : Nat), .int .u64 (dg X 12 : Nat), .int .u64 (dg X 13 : Nat), .int .u64 (dg X 14 : Nat), .int .u64 (dg X 15 : Nat)]) (by simp [results, Try.results67, go_sem, d0, d1, d2, d3, d4, d5, d6, d7, d8, d9, d10, d11, d12, d13, d14, d15]) rfl ⟨rfl, BF⟩
end Go.Proofs.Ytodlpmepoakdlaa

/-
 balefireref02.Bit.
-/
namespace Go.Proofs.Ytodlpmepoakdlaa
set_option maxRecDepth 100000
open Go.RowKit
set_option linter.unusedSimpArgs false
set_option linter.unusedVariables false
attribute [local go_sem ↓] Go.wp_at_zero Go.wp_at_succ

theorem digitsA (X : Nat) (w : World) : Calls Try.prog 67 #[num X] w fun e w' => e = .returned (.agg #[.int .u64 (dg X 0 : Nat), .int .u64 (dg X 1 : Nat), .int .u64 (dg X 2 : Nat), .int .u64 (dg X 3 : Nat), .int .u64 (dg X 4 : Nat), .int .u64 (dg X 5 : Nat), .int .u64 (dg X 6 : Nat), .int .u64 (dg X 7 : Nat), .int .u64 (dg X 8 : Nat), .int .u64 (dg X 9 : Nat), .int .u64 (dg X 10 : Nat), .int .u64 (dg X 11 : Nat), .int .u64 (dg X 12 : Nat), .int .u64 (dg X 13 : Nat), .int .u64 (dg X 14 : Nat), .int .u64 (dg X 15 : Nat)]) ∧ Below w.heap.size w w' := digits_any X w
theorem arr_at (X q : Nat) (h : q < 16) : (#[.int .u64 (dg X 0 : Nat), .int .u64 (dg X 1 : Nat), .int .u64 (dg X 2 : Nat), .int .u64 (dg X 3 : Nat), .int .u64 (dg X 4 : Nat), .int .u64 (dg X 5 : Nat), .int .u64 (dg X 6 : Nat), .int .u64 (dg X 7 : Nat), .int .u64 (dg X 8 : Nat), .int .u64 (dg X 9 : Nat), .int .u64 (dg X 10 : Nat), .int .u64 (dg X 11 : Nat), .int .u64 (dg X 12 : Nat), .int .u64 (dg X 13 : Nat), .int .u64 (dg X 14 : Nat), .int .u64 (dg X 15 : Nat)] : Array Value)[q]? = some (.int .u64 (dg X q : Nat)) := by
 have := ws_at (ds X) q h
 rw [ds_at X q h] at this
 exact this
theorem lst_at (X q : Nat) (h : q < 16) (h' : q < ([.int .u64 (dg X 0 : Nat), .int .u64 (dg X 1 : Nat), .int .u64 (dg X 2 : Nat), .int .u64 (dg X 3 : Nat), .int .u64 (dg X 4 : Nat), .int .u64 (dg X 5 : Nat), .int .u64 (dg X 6 : Nat), .int .u64 (dg X 7 : Nat), .int .u64 (dg X 8 : Nat), .int .u64 (dg X 9 : Nat), .int .u64 (dg X 10 : Nat), .int .u64 (dg X 11 : Nat), .int .u64 (dg X 12 : Nat), .int .u64 (dg X 13 : Nat), .int .u64 (dg X 14 : Nat), .int .u64 (dg X 15 : Nat)] : List Value).length) : ([.int .u64 (dg X 0 : Nat), .int .u64 (dg X 1 : Nat), .int .u64 (dg X 2 : Nat), .int .u64 (dg X 3 : Nat), .int .u64 (dg X 4 : Nat), .int .u64 (dg X 5 : Nat), .int .u64 (dg X 6 : Nat), .int .u64 (dg X 7 : Nat), .int .u64 (dg X 8 : Nat), .int .u64 (dg X 9 : Nat), .int .u64 (dg X 10 : Nat), .int .u64 (dg X 11 : Nat), .int .u64 (dg X 12 : Nat), .int .u64 (dg X 13 : Nat), .int .u64 (dg X 14 : Nat), .int .u64 (dg X 15 : Nat)] : List Value)[q]'h' = .int .u64 (dg X q : Nat) := by
 have := arr_at X q h
 simp only [List.getElem?_toArray, List.getElem?_eq_getElem h', Option.some.injEq] at this
 exact this
theorem dg_bit (X q r : Nat) (h : r < 16) : dg X q / 2 ^ r % 2 = X / 2 ^ (16 * q + r) % 2 := by
 unfold dg
 have e : (65536 : Nat) = 2 ^ r * 2 ^ (16 - r) := by rw [← Nat.pow_add, show r + (16 - r) = 16 by omega]
 have e2 : (65536 : Nat) ^ q = 2 ^ (16 * q) := by rw [Nat.pow_mul]
 rw [e2]
 conv => lhs; arg 1; arg 1; arg 2; rw [e]
 rw [Nat.mod_mul_right_div_self, Nat.mod_mod_of_dvd _ (Nat.dvd_trans (by decide) (Nat.pow_dvd_pow 2 (show 1 ≤ 16 - r by omega))), Nat.div_div_eq_div_mul, ← Nat.pow_add]

set_option maxRecDepth 100000 in
set_option maxHeartbeats 4000000 in
/-- the document's Bit -/
theorem rbit_any (X : Nat) (hX : X < 2 ^ 256) (i : Int) (w : World) : Calls Try.prog 66 #[num X, .int .i64 i] w fun e w' => e = .returned (.int .u64 (bt X i : Nat)) ∧ Below w.heap.size w w' := by
 by_cases h0 : i < 0
 ·have e : bt X i = 0 := by unfold bt; rw [if_pos h0]
  rw [e]
  go_enter Try.func66, Try.ntmps66
  go_wp2
  go_ret
  exact ⟨rfl, by repeat (first | exact Below.refl _ _ | refine gr_alloc ?_ _ | refine Below.drew ?_ | refine gr_drewN ?_ _)⟩
 by_cases h1 : 255 < i
 ·have e : bt X i = 0 := by
   unfold bt
   rw [if_neg h0, Nat.div_eq_of_lt (Nat.lt_of_lt_of_le hX (Nat.pow_le_pow_right (by decide) (by omega)))]
  rw [e]
  have h0' : decide (i < 0) = false := by simp; omega
  go_enter Try.func66, Try.ntmps66
  go_wp2
  go_ret
  exact ⟨rfl, by repeat (first | exact Below.refl _ _ | refine gr_alloc ?_ _ | refine Below.drew ?_ | refine gr_drewN ?_ _)⟩
 obtain ⟨n, rfl⟩ : ∃ n : Nat, i = n := ⟨i.toNat, by omega⟩
 have h0' : decide ((n : Int) < 0) = false := by simp
 have h1' : decide ((255 : Int) < (n : Int)) = false := by simp; omega
 obtain ⟨q, hq⟩ : ∃ q, q = n / 16 := ⟨_, rfl⟩
 obtain ⟨r, hr⟩ : ∃ r, r = n % 16 := ⟨_, rfl⟩
 have r1 : ((n : Int) / 16) = (q : Nat) := by omega
 have r2 : ((n : Int) % 16) = (r : Nat) := by omega
 have r3 : (q : Int) < 16 := by omega
 have r4 : r < 16 := by omega
 have r5 : q < 16 := by omega
 have ha := lst_at X q r5 (by simpa using r5)
 have r6 : (((dg X q : Nat) : Int) / 2 ^ r).tmod 2 = (bt X (n : Int) : Nat) := by
  have e1 : ((dg X q : Nat) : Int) / 2 ^ r = ((dg X q / 2 ^ r : Nat) : Int) := by simp
  have e2 : bt X (n : Int) = dg X q / 2 ^ r % 2 := by
   rw [dg_bit X q r r4]
   unfold bt
   rw [if_neg (by omega), Int.toNat_natCast, show 16 * q + r = n by omega]
  rw [e1, e2, Int.tmod_eq_emod_of_nonneg (Int.natCast_nonneg _)]; simp
 clear hq hr h0 h1
 go_enter Try.func66, Try.ntmps66
 go_wp2_with fail
 refine (digitsA X _).mono ?_
 rintro e w1 ⟨rfl, z1⟩
 go_wp2
 go_ret
 exact ⟨rfl, by repeat (first | exact Below.refl _ _ | refine gr_alloc ?_ _ | refine Below.drew ?_ | refine gr_drewN ?_ _ | refine bel_tr ?_ (by assumption))⟩
end Go.Proofs.Ytodlpmepoakdlaa

/-
 The numbers behind LimbsBits.
-/
namespace Go.Proofs.Ytodlpmepoakdlaa
set_option maxRecDepth 100000
open Go.RowKit
set_option linter.unusedSimpArgs false
set_option linter.unusedVariables false

end Go.Proofs.Ytodlpmepoakdlaa

/-
 balefireref02.Bits.
-/
namespace Go.Proofs.Ytodlpmepoakdlaa
set_option maxRecDepth 100000
open Go.RowKit
set_option linter.unusedSimpArgs false
set_option linter.unusedVariables false
attribute [local go_sem ↓] Go.wp_at_zero Go.wp_at_succ

end Go.Proofs.Ytodlpmepoakdlaa
