import Derived.Test.YtodlpmepoakdlaaGreatMMulW
import Derived.Test.YtodlpmepoakdlaaGreatMShiftN
import Derived.Test.YtodlpmepoakdlaaGreatMSmall
namespace Go.Proofs.YtodlpmepoakdlaaGreat
set_option maxRecDepth 100000
open Go.RowKit
set_option linter.unusedSimpArgs false
set_option linter.unusedVariables false
attribute [local go_sem ↓] Go.wp_at_zero Go.wp_at_succ

def dg (X k : Nat) : Nat := X / 65536 ^ k % 65536
theorem Jag (X k : Nat) : dg X k < 65536 := Nat.mod_lt _ (by decide)
theorem dg_wd (X q r : Nat) (hr : r < 4) : wd X q / 65536 ^ r % 65536 = dg X (4 * q + r) := by
 unfold wd dg
 have e : (18446744073709551616 : Nat) = 65536 ^ r * (65536 ^ (4 - r)) := by rw [← Nat.pow_add, show r + (4 - r) = 4 by omega]
 have e2 : (18446744073709551616 : Nat) ^ q = 65536 ^ (4 * q) := by rw [Nat.pow_mul]
 rw [e2]
 conv => lhs; arg 1; arg 1; arg 2; rw [e]
 rw [Nat.mod_mul_right_div_self, Nat.mod_mod_of_dvd _ (Nat.dvd_trans (by decide) (Nat.pow_dvd_pow 65536 (show 1 ≤ 4 - r by omega))), Nat.div_div_eq_div_mul, ← Nat.pow_add]
def ds (X : Nat) : List Nat := [dg X 0, dg X 1, dg X 2, dg X 3, dg X 4, dg X 5, dg X 6, dg X 7, dg X 8, dg X 9, dg X 10, dg X 11, dg X 12, dg X 13, dg X 14, dg X 15]
theorem Jcf (X : Nat) : (ds X).length = 16 := rfl
theorem Jcg (X k : Nat) (h : k < 16) : (ds X).getD k 0 = dg X k := by
 match k, h with
 | 0, _ | 1, _ | 2, _ | 3, _ | 4, _ | 5, _ | 6, _ | 7, _ | 8, _ | 9, _ | 10, _ | 11, _ | 12, _ | 13, _ | 14, _ | 15, _ => rfl
 | k + 16, h => omega
theorem ds_lt (X : Nat) : ∀ x ∈ ds X, x < 65536 := by
 intro x hx
 obtain ⟨k, hk, rfl⟩ := List.mem_iff_getElem.1 hx
 have h := Jcg X k hk
 simp only [List.getD, List.getElem?_eq_getElem hk, Option.getD_some] at h
 rw [h]; exact Jag X k
theorem ds_of (X : Nat) (M : List Nat) (hl : M.length = 16) (h : ∀ k, k < 16 → M.getD k 0 = dg X k) : M = ds X := by
 refine List.ext_getElem (by rw [hl, Jcf]) fun k h1 h2 => ?_
 have e1 := h k (by omega)
 have e2 := Jcg X k (by omega)
 simp only [List.getD, List.getElem?_eq_getElem h1, Option.getD_some] at e1
 simp only [List.getD, List.getElem?_eq_getElem h2, Option.getD_some] at e2
 rw [e1, e2]

structure DW (wr w : World) (X : Nat) (M : List Nat) : Prop where
 a : At wr w.heap.size 24 (ws (wl X))
 res : At wr (w.heap.size + 1) 61 (ws (List.replicate 16 0))
 d : At wr (w.heap.size + 1 + 1) 61 (ws M)
 len : M.length = 16
 bel : Below w.heap.size w wr

set_option maxRecDepth 100000 in
set_option maxHeartbeats 4000000 in
theorem digits_any (X : Nat) (w : World) : Calls Tryz.prog 41 #[num X] w fun e w' => e = .returned (.agg (ws (ds X))) ∧ Below w.heap.size w w' := by
 go_enter Tryz.func41, Tryz.ntmps41
 go_wp2
 go_loopw [4] (fun s wr => ∃ (i : Nat) (M : List Nat), i ≤ 16 ∧ s = .int .i64 i ∧ Hid (DW wr w X M ∧ ∀ k, k < i → M.getD k 0 = dg X k)) (fun s _ => 16 - (intOf s).toNat)
 case atStart =>
  refine ⟨0, List.replicate 16 0, by omega, rfl, ⟨?_, ?_, ?_, rfl, ?_⟩, fun k hk => by omega⟩
  ·exact ((At.at_ w _ _ _ rfl).alloc _).alloc _
  ·exact (At.at_ (w.alloc _) _ _ _ (by simp)).alloc _
  ·exact At.at_ ((w.alloc _).alloc _) _ _ _ (by simp)
  ·repeat (first | exact Below.refl _ _ | refine gr_alloc ?_ _)
 case round =>
  obtain ⟨i, M, hi, rfl, hH⟩ := hrel
  by_cases hlt : i < 16
  ·obtain ⟨q, hq⟩ : ∃ q, q = i / 4 := ⟨_, rfl⟩
   obtain ⟨r, hr⟩ : ∃ r, r = i % 4 := ⟨_, rfl⟩
   have fa : wr.cell? ⟨w.heap.size, q, none⟩ = some (.int .u64 (wd X q)) := by rw [hH.out.1.a.cell, Wk _ _ (by simp [wl]; omega), Jex X q (by omega)]
   have fd : wr.cell? ⟨w.heap.size + 1 + 1, i, none⟩ = some (.int .u64 (M.getD i 0 : Nat)) := by rw [hH.out.1.d.cell, Wk _ _ (by rw [hH.out.1.len]; omega)]
   have ff : wr.frozen? ⟨w.heap.size + 1 + 1, i, none⟩ = false := hH.out.1.d.frozen _
   generalize M.getD i 0 = m0 at fd
   have e := dg_wd X q r (by omega)
   rw [show 4 * q + r = i by omega, show (65536 : Nat) ^ r = 2 ^ (16 * r) by rw [Nat.pow_mul]] at e
   obtain ⟨s, hs⟩ : ∃ s, s = 16 * r := ⟨_, rfl⟩
   rw [← hs] at e
   have r1 : ((i : Int) / 4) = (q : Nat) := by omega
   have r2 : ((i : Int) % 4) = (r : Nat) := by omega
   have r3 : IntKind.i64.wrap (16 * (r : Int)) = (s : Nat) := by rw [IntKind.wrap_i64]; omega
   have r4 : s ≤ 48 := by omega
   have r5 : (s : Int) ≤ 64 := by omega
   have r6 : (q : Int) < 4 := by omega
   have r7 : (i : Int) < 16 := by omega
   have r8 : (((wd X q : Nat) : Int) / 2 ^ s).tmod 65536 = (dg X i : Nat) := by
    have e1 : ((wd X q : Nat) : Int) / 2 ^ s = ((wd X q / 2 ^ s : Nat) : Int) := by simp
    rw [← e, e1, Int.tmod_eq_emod_of_nonneg (Int.natCast_nonneg _)]; simp
   have hwd := Kw X q
   clear hq hr hs e
   go_wp2
   go_roundw
   case rel =>
    refine ⟨i + 1, M.set i (dg X i), by omega, by go_num, ⟨hH.out.1.a.far (by show _ ≠ _; dsimp; omega) _, hH.out.1.res.far (by show _ ≠ _; dsimp; omega) _, by rw [← Uz]; exact hH.out.1.d.set _ _, by rw [List.length_set]; exact hH.out.1.len, hH.out.1.bel.setCell (by dsimp; omega) _⟩, fun k hk => ?_⟩
    by_cases hki : k = i
    ·subst hki; simp [List.getD, hH.out.1.len, hlt]
    ·rw [Uq _ _ _ _ (fun h => hki h.symm)]; exact hH.out.2 k (by omega)
   case measure => simp [intOf]; omega
  ·obtain rfl : i = 16 := by omega
   have hM := ds_of X M hH.out.1.len hH.out.2
   subst hM
   have c0 : wr.cell? ⟨w.heap.size + 1 + 1, 0, none⟩ = some (.int .u64 (dg X 0)) := hH.out.1.d.cell 0
   have v0 : wr.cell? ⟨w.heap.size + 1, 0, none⟩ = some (.int .u64 0) := hH.out.1.res.cell 0
   have f0 : wr.frozen? ⟨w.heap.size + 1, 0, none⟩ = false := hH.out.1.res.frozen 0
   have c1 : wr.cell? ⟨w.heap.size + 1 + 1, 1, none⟩ = some (.int .u64 (dg X 1)) := hH.out.1.d.cell 1
   have v1 : wr.cell? ⟨w.heap.size + 1, 1, none⟩ = some (.int .u64 0) := hH.out.1.res.cell 1
   have f1 : wr.frozen? ⟨w.heap.size + 1, 1, none⟩ = false := hH.out.1.res.frozen 1
   have c2 : wr.cell? ⟨w.heap.size + 1 + 1, 2, none⟩ = some (.int .u64 (dg X 2)) := hH.out.1.d.cell 2
   have v2 : wr.cell? ⟨w.heap.size + 1, 2, none⟩ = some (.int .u64 0) := hH.out.1.res.cell 2
   have f2 : wr.frozen? ⟨w.heap.size + 1, 2, none⟩ = false := hH.out.1.res.frozen 2
   have c3 : wr.cell? ⟨w.heap.size + 1 + 1, 3, none⟩ = some (.int .u64 (dg X 3)) := hH.out.1.d.cell 3
   have v3 : wr.cell? ⟨w.heap.size + 1, 3, none⟩ = some (.int .u64 0) := hH.out.1.res.cell 3
   have f3 : wr.frozen? ⟨w.heap.size + 1, 3, none⟩ = false := hH.out.1.res.frozen 3
   have c4 : wr.cell? ⟨w.heap.size + 1 + 1, 4, none⟩ = some (.int .u64 (dg X 4)) := hH.out.1.d.cell 4
   have v4 : wr.cell? ⟨w.heap.size + 1, 4, none⟩ = some (.int .u64 0) := hH.out.1.res.cell 4
   have f4 : wr.frozen? ⟨w.heap.size + 1, 4, none⟩ = false := hH.out.1.res.frozen 4
   have c5 : wr.cell? ⟨w.heap.size + 1 + 1, 5, none⟩ = some (.int .u64 (dg X 5)) := hH.out.1.d.cell 5
   have v5 : wr.cell? ⟨w.heap.size + 1, 5, none⟩ = some (.int .u64 0) := hH.out.1.res.cell 5
   have f5 : wr.frozen? ⟨w.heap.size + 1, 5, none⟩ = false := hH.out.1.res.frozen 5
   have c6 : wr.cell? ⟨w.heap.size + 1 + 1, 6, none⟩ = some (.int .u64 (dg X 6)) := hH.out.1.d.cell 6
   have v6 : wr.cell? ⟨w.heap.size + 1, 6, none⟩ = some (.int .u64 0) := hH.out.1.res.cell 6
   have f6 : wr.frozen? ⟨w.heap.size + 1, 6, none⟩ = false := hH.out.1.res.frozen 6
   have c7 : wr.cell? ⟨w.heap.size + 1 + 1, 7, none⟩ = some (.int .u64 (dg X 7)) := hH.out.1.d.cell 7
   have v7 : wr.cell? ⟨w.heap.size + 1, 7, none⟩ = some (.int .u64 0) := hH.out.1.res.cell 7
   have f7 : wr.frozen? ⟨w.heap.size + 1, 7, none⟩ = false := hH.out.1.res.frozen 7
   have c8 : wr.cell? ⟨w.heap.size + 1 + 1, 8, none⟩ = some (.int .u64 (dg X 8)) := hH.out.1.d.cell 8
   have v8 : wr.cell? ⟨w.heap.size + 1, 8, none⟩ = some (.int .u64 0) := hH.out.1.res.cell 8
   have f8 : wr.frozen? ⟨w.heap.size + 1, 8, none⟩ = false := hH.out.1.res.frozen 8
   have c9 : wr.cell? ⟨w.heap.size + 1 + 1, 9, none⟩ = some (.int .u64 (dg X 9)) := hH.out.1.d.cell 9
   have v9 : wr.cell? ⟨w.heap.size + 1, 9, none⟩ = some (.int .u64 0) := hH.out.1.res.cell 9
   have f9 : wr.frozen? ⟨w.heap.size + 1, 9, none⟩ = false := hH.out.1.res.frozen 9
   have c10 : wr.cell? ⟨w.heap.size + 1 + 1, 10, none⟩ = some (.int .u64 (dg X 10)) := hH.out.1.d.cell 10
   have v10 : wr.cell? ⟨w.heap.size + 1, 10, none⟩ = some (.int .u64 0) := hH.out.1.res.cell 10
   have f10 : wr.frozen? ⟨w.heap.size + 1, 10, none⟩ = false := hH.out.1.res.frozen 10
   have c11 : wr.cell? ⟨w.heap.size + 1 + 1, 11, none⟩ = some (.int .u64 (dg X 11)) := hH.out.1.d.cell 11
   have v11 : wr.cell? ⟨w.heap.size + 1, 11, none⟩ = some (.int .u64 0) := hH.out.1.res.cell 11
   have f11 : wr.frozen? ⟨w.heap.size + 1, 11, none⟩ = false := hH.out.1.res.frozen 11
   have c12 : wr.cell? ⟨w.heap.size + 1 + 1, 12, none⟩ = some (.int .u64 (dg X 12)) := hH.out.1.d.cell 12
   have v12 : wr.cell? ⟨w.heap.size + 1, 12, none⟩ = some (.int .u64 0) := hH.out.1.res.cell 12
   have f12 : wr.frozen? ⟨w.heap.size + 1, 12, none⟩ = false := hH.out.1.res.frozen 12
   have c13 : wr.cell? ⟨w.heap.size + 1 + 1, 13, none⟩ = some (.int .u64 (dg X 13)) := hH.out.1.d.cell 13
   have v13 : wr.cell? ⟨w.heap.size + 1, 13, none⟩ = some (.int .u64 0) := hH.out.1.res.cell 13
   have f13 : wr.frozen? ⟨w.heap.size + 1, 13, none⟩ = false := hH.out.1.res.frozen 13
   have c14 : wr.cell? ⟨w.heap.size + 1 + 1, 14, none⟩ = some (.int .u64 (dg X 14)) := hH.out.1.d.cell 14
   have v14 : wr.cell? ⟨w.heap.size + 1, 14, none⟩ = some (.int .u64 0) := hH.out.1.res.cell 14
   have f14 : wr.frozen? ⟨w.heap.size + 1, 14, none⟩ = false := hH.out.1.res.frozen 14
   have c15 : wr.cell? ⟨w.heap.size + 1 + 1, 15, none⟩ = some (.int .u64 (dg X 15)) := hH.out.1.d.cell 15
   have v15 : wr.cell? ⟨w.heap.size + 1, 15, none⟩ = some (.int .u64 0) := hH.out.1.res.cell 15
   have f15 : wr.frozen? ⟨w.heap.size + 1, 15, none⟩ = false := hH.out.1.res.frozen 15
   go_wp2
   have AF := ((((((((((((((((hH.out.1.res.set 0 (.int .u64 (dg X 0))).set 1 (.int .u64 (dg X 1))).set 2 (.int .u64 (dg X 2))).set 3 (.int .u64 (dg X 3))).set 4 (.int .u64 (dg X 4))).set 5 (.int .u64 (dg X 5))).set 6 (.int .u64 (dg X 6))).set 7 (.int .u64 (dg X 7))).set 8 (.int .u64 (dg X 8))).set 9 (.int .u64 (dg X 9))).set 10 (.int .u64 (dg X 10))).set 11 (.int .u64 (dg X 11))).set 12 (.int .u64 (dg X 12))).set 13 (.int .u64 (dg X 13))).set 14 (.int .u64 (dg X 14))).set 15 (.int .u64 (dg X 15)))
   rw [Uz, Uz, Uz, Uz, Uz, Uz, Uz, Uz, Uz, Uz, Uz, Uz, Uz, Uz, Uz, Uz] at AF
   have hl : (((((((((((((((((List.replicate 16 0).set 0 (dg X 0)).set 1 (dg X 1)).set 2 (dg X 2)).set 3 (dg X 3)).set 4 (dg X 4)).set 5 (dg X 5)).set 6 (dg X 6)).set 7 (dg X 7)).set 8 (dg X 8)).set 9 (dg X 9)).set 10 (dg X 10)).set 11 (dg X 11)).set 12 (dg X 12)).set 13 (dg X 13)).set 14 (dg X 14)).set 15 (dg X 15)) = ds X := by simp only [List.replicate, List.set_cons_zero, List.set_cons_succ]; rfl
   rw [hl] at AF
   clear hl
   have BF : Below w.heap.size w ((((((((((((((((wr.setCell ⟨w.heap.size + 1, 0, none⟩ (.int .u64 (dg X 0))).setCell ⟨w.heap.size + 1, 1, none⟩ (.int .u64 (dg X 1))).setCell ⟨w.heap.size + 1, 2, none⟩ (.int .u64 (dg X 2))).setCell ⟨w.heap.size + 1, 3, none⟩ (.int .u64 (dg X 3))).setCell ⟨w.heap.size + 1, 4, none⟩ (.int .u64 (dg X 4))).setCell ⟨w.heap.size + 1, 5, none⟩ (.int .u64 (dg X 5))).setCell ⟨w.heap.size + 1, 6, none⟩ (.int .u64 (dg X 6))).setCell ⟨w.heap.size + 1, 7, none⟩ (.int .u64 (dg X 7))).setCell ⟨w.heap.size + 1, 8, none⟩ (.int .u64 (dg X 8))).setCell ⟨w.heap.size + 1, 9, none⟩ (.int .u64 (dg X 9))).setCell ⟨w.heap.size + 1, 10, none⟩ (.int .u64 (dg X 10))).setCell ⟨w.heap.size + 1, 11, none⟩ (.int .u64 (dg X 11))).setCell ⟨w.heap.size + 1, 12, none⟩ (.int .u64 (dg X 12))).setCell ⟨w.heap.size + 1, 13, none⟩ (.int .u64 (dg X 13))).setCell ⟨w.heap.size + 1, 14, none⟩ (.int .u64 (dg X 14))).setCell ⟨w.heap.size + 1, 15, none⟩ (.int .u64 (dg X 15))) := ((((((((((((((((hH.out.1.bel.setCell (by dsimp; omega) _).setCell (by dsimp; omega) _).setCell (by dsimp; omega) _).setCell (by dsimp; omega) _).setCell (by dsimp; omega) _).setCell (by dsimp; omega) _).setCell (by dsimp; omega) _).setCell (by dsimp; omega) _).setCell (by dsimp; omega) _).setCell (by dsimp; omega) _).setCell (by dsimp; omega) _).setCell (by dsimp; omega) _).setCell (by dsimp; omega) _).setCell (by dsimp; omega) _).setCell (by dsimp; omega) _).setCell (by dsimp; omega) _)
   generalize ((((((((((((((((wr.setCell ⟨w.heap.size + 1, 0, none⟩ (.int .u64 (dg X 0))).setCell ⟨w.heap.size + 1, 1, none⟩ (.int .u64 (dg X 1))).setCell ⟨w.heap.size + 1, 2, none⟩ (.int .u64 (dg X 2))).setCell ⟨w.heap.size + 1, 3, none⟩ (.int .u64 (dg X 3))).setCell ⟨w.heap.size + 1, 4, none⟩ (.int .u64 (dg X 4))).setCell ⟨w.heap.size + 1, 5, none⟩ (.int .u64 (dg X 5))).setCell ⟨w.heap.size + 1, 6, none⟩ (.int .u64 (dg X 6))).setCell ⟨w.heap.size + 1, 7, none⟩ (.int .u64 (dg X 7))).setCell ⟨w.heap.size + 1, 8, none⟩ (.int .u64 (dg X 8))).setCell ⟨w.heap.size + 1, 9, none⟩ (.int .u64 (dg X 9))).setCell ⟨w.heap.size + 1, 10, none⟩ (.int .u64 (dg X 10))).setCell ⟨w.heap.size + 1, 11, none⟩ (.int .u64 (dg X 11))).setCell ⟨w.heap.size + 1, 12, none⟩ (.int .u64 (dg X 12))).setCell ⟨w.heap.size + 1, 13, none⟩ (.int .u64 (dg X 13))).setCell ⟨w.heap.size + 1, 14, none⟩ (.int .u64 (dg X 14))).setCell ⟨w.heap.size + 1, 15, none⟩ (.int .u64 (dg X 15))) = WF at *
   have d0 : WF.cell? ⟨w.heap.size + 1, 0, none⟩ = some (.int .u64 (dg X 0)) := AF.cell 0
   have d1 : WF.cell? ⟨w.heap.size + 1, 1, none⟩ = some (.int .u64 (dg X 1)) := AF.cell 1
   have d2 : WF.cell? ⟨w.heap.size + 1, 2, none⟩ = some (.int .u64 (dg X 2)) := AF.cell 2
   have d3 : WF.cell? ⟨w.heap.size + 1, 3, none⟩ = some (.int .u64 (dg X 3)) := AF.cell 3
   have d4 : WF.cell? ⟨w.heap.size + 1, 4, none⟩ = some (.int .u64 (dg X 4)) := AF.cell 4
   have d5 : WF.cell? ⟨w.heap.size + 1, 5, none⟩ = some (.int .u64 (dg X 5)) := AF.cell 5
   have d6 : WF.cell? ⟨w.heap.size + 1, 6, none⟩ = some (.int .u64 (dg X 6)) := AF.cell 6
   have d7 : WF.cell? ⟨w.heap.size + 1, 7, none⟩ = some (.int .u64 (dg X 7)) := AF.cell 7
   have d8 : WF.cell? ⟨w.heap.size + 1, 8, none⟩ = some (.int .u64 (dg X 8)) := AF.cell 8
   have d9 : WF.cell? ⟨w.heap.size + 1, 9, none⟩ = some (.int .u64 (dg X 9)) := AF.cell 9
   have d10 : WF.cell? ⟨w.heap.size + 1, 10, none⟩ = some (.int .u64 (dg X 10)) := AF.cell 10
   have d11 : WF.cell? ⟨w.heap.size + 1, 11, none⟩ = some (.int .u64 (dg X 11)) := AF.cell 11
   have d12 : WF.cell? ⟨w.heap.size + 1, 12, none⟩ = some (.int .u64 (dg X 12)) := AF.cell 12
   have d13 : WF.cell? ⟨w.heap.size + 1, 13, none⟩ = some (.int .u64 (dg X 13)) := AF.cell 13
   have d14 : WF.cell? ⟨w.heap.size + 1, 14, none⟩ = some (.int .u64 (dg X 14)) := AF.cell 14
   have d15 : WF.cell? ⟨w.heap.size + 1, 15, none⟩ = some (.int .u64 (dg X 15)) := AF.cell 15
   exact bodyPost_ret (v := .agg #[.int .u64 (dg X 0), .int .u64 (dg X 1), .int .u64 (dg X 2), .int .u64 (dg X 3), .int .u64 (dg X 4), .int .u64 (dg X 5), .int .u64 (dg X 6), .int .u64 (dg X 7), .int .u64 (dg X 8), .int .u64 (dg X 9), .int .u64 (dg X 10), .int .u64 (dg X 11), .int .u64 (dg X 12), .int .u64 (dg X 13), .int .u64 (dg X 14), .int .u64 (dg X 15)]) (by simp [results, Tryz.results41, go_sem, d0, d1, d2, d3, d4, d5, d6, d7, d8, d9, d10, d11, d12, d13, d14, d15]) rfl ⟨rfl, BF⟩
theorem Xa (X : Nat) (w : World) : Calls Tryz.prog 41 #[num X] w fun e w' => e = .returned (.agg #[.int .u64 (dg X 0), .int .u64 (dg X 1), .int .u64 (dg X 2), .int .u64 (dg X 3), .int .u64 (dg X 4), .int .u64 (dg X 5), .int .u64 (dg X 6), .int .u64 (dg X 7), .int .u64 (dg X 8), .int .u64 (dg X 9), .int .u64 (dg X 10), .int .u64 (dg X 11), .int .u64 (dg X 12), .int .u64 (dg X 13), .int .u64 (dg X 14), .int .u64 (dg X 15)]) ∧ Below w.heap.size w w' := digits_any X w
theorem arr_at (X q : Nat) (h : q < 16) : (#[.int .u64 (dg X 0), .int .u64 (dg X 1), .int .u64 (dg X 2), .int .u64 (dg X 3), .int .u64 (dg X 4), .int .u64 (dg X 5), .int .u64 (dg X 6), .int .u64 (dg X 7), .int .u64 (dg X 8), .int .u64 (dg X 9), .int .u64 (dg X 10), .int .u64 (dg X 11), .int .u64 (dg X 12), .int .u64 (dg X 13), .int .u64 (dg X 14), .int .u64 (dg X 15)] : Array Value)[q]? = some (.int .u64 (dg X q)) := by
 have := Wk (ds X) q h
 rw [Jcg X q h] at this
 exact this
theorem lst_at (X q : Nat) (h : q < 16) (h' : q < ([.int .u64 (dg X 0), .int .u64 (dg X 1), .int .u64 (dg X 2), .int .u64 (dg X 3), .int .u64 (dg X 4), .int .u64 (dg X 5), .int .u64 (dg X 6), .int .u64 (dg X 7), .int .u64 (dg X 8), .int .u64 (dg X 9), .int .u64 (dg X 10), .int .u64 (dg X 11), .int .u64 (dg X 12), .int .u64 (dg X 13), .int .u64 (dg X 14), .int .u64 (dg X 15)] : List Value).length) : ([.int .u64 (dg X 0), .int .u64 (dg X 1), .int .u64 (dg X 2), .int .u64 (dg X 3), .int .u64 (dg X 4), .int .u64 (dg X 5), .int .u64 (dg X 6), .int .u64 (dg X 7), .int .u64 (dg X 8), .int .u64 (dg X 9), .int .u64 (dg X 10), .int .u64 (dg X 11), .int .u64 (dg X 12), .int .u64 (dg X 13), .int .u64 (dg X 14), .int .u64 (dg X 15)] : List Value)[q]'h' = .int .u64 (dg X q) := by
 have := arr_at X q h
 simp only [List.getElem?_toArray, List.getElem?_eq_getElem h', Option.some.injEq] at this
 exact this
theorem dg_bit (X q r : Nat) (h : r < 16) : dg X q / 2 ^ r % 2 = X / 2 ^ (16 * q + r) % 2 := by
 unfold dg
 have e : (65536 : Nat) = 2 ^ r * 2 ^ (16 - r) := by rw [← Nat.pow_add, show r + (16 - r) = 16 by omega]
 have e2 : (65536 : Nat) ^ q = 2 ^ (16 * q) := by rw [Nat.pow_mul]
 rw [e2]
 conv => lhs; arg 1; arg 1; arg 2; rw [e]
 rw [Nat.mod_mul_right_div_self, Nat.mod_mod_of_dvd _ (Nat.dvd_trans (by decide) (Nat.pow_dvd_pow 2 (show 1 ≤ 16 - r by omega))), Nat.div_div_eq_div_mul, ← Nat.pow_add]

set_option maxRecDepth 100000 in
set_option maxHeartbeats 4000000 in
theorem Jam (X : Nat) (hX : X < 2 ^ 256) (i : Int) (w : World) : Calls Tryz.prog 48 #[num X, .int .i64 i] w fun e w' => e = .returned (.int .u64 (bt X i : Nat)) ∧ Below w.heap.size w w' := by
 by_cases h0 : i < 0
 ·have e : bt X i = 0 := by unfold bt; rw [if_pos h0]
  rw [e]
  go_enter Tryz.func48, Tryz.ntmps48
  go_wp2
  go_ret
  exact ⟨rfl, by repeat (first | exact Below.refl _ _ | refine gr_alloc ?_ _ | refine Below.drew ?_ | refine Ue ?_ _)⟩
 by_cases h1 : 255 < i
 ·have e : bt X i = 0 := by
   unfold bt
   rw [if_neg h0, Nat.div_eq_of_lt (Nat.lt_of_lt_of_le hX (Nat.pow_le_pow_right (by decide) (by omega)))]
  rw [e]
  have h0' : decide (i < 0) = false := by simp; omega
  go_enter Tryz.func48, Tryz.ntmps48
  go_wp2
  go_ret
  exact ⟨rfl, by repeat (first | exact Below.refl _ _ | refine gr_alloc ?_ _ | refine Below.drew ?_ | refine Ue ?_ _)⟩
 obtain ⟨n, rfl⟩ : ∃ n : Nat, i = n := ⟨i.toNat, by omega⟩
 have h0' : decide ((n : Int) < 0) = false := by simp
 have h1' : decide ((255 : Int) < (n : Int)) = false := by simp; omega
 obtain ⟨q, hq⟩ : ∃ q, q = n / 16 := ⟨_, rfl⟩
 obtain ⟨r, hr⟩ : ∃ r, r = n % 16 := ⟨_, rfl⟩
 have r1 : ((n : Int) / 16) = (q : Nat) := by omega
 have r2 : ((n : Int) % 16) = (r : Nat) := by omega
 have r3 : (q : Int) < 16 := by omega
 have r4 : r < 16 := by omega
 have r5 : q < 16 := by omega
 have ha := lst_at X q r5 (by simpa using r5)
 have r6 : (((dg X q : Nat) : Int) / 2 ^ r).tmod 2 = (bt X (n : Int) : Nat) := by
  have e1 : ((dg X q : Nat) : Int) / 2 ^ r = ((dg X q / 2 ^ r : Nat) : Int) := by simp
  have e2 : bt X (n : Int) = dg X q / 2 ^ r % 2 := by
   rw [dg_bit X q r r4]
   unfold bt
   rw [if_neg (by omega), Int.toNat_natCast, show 16 * q + r = n by omega]
  rw [e1, e2, Int.tmod_eq_emod_of_nonneg (Int.natCast_nonneg _)]; simp
 clear hq hr h0 h1
 go_enter Tryz.func48, Tryz.ntmps48
 go_wp2_with fail
 refine (Xa X _).mono ?_
 rintro e w1 ⟨rfl, z1⟩
 go_wp2
 go_ret
 exact ⟨rfl, by repeat (first | exact Below.refl _ _ | refine gr_alloc ?_ _ | refine Below.drew ?_ | refine Ue ?_ _ | refine bel_tr ?_ (by assumption))⟩
theorem Jdu (X : Nat) : X < 2 ^ Go.bitLen X ∧ (X ≠ 0 → 2 ^ (Go.bitLen X - 1) ≤ X) := Go.bitLen_spec X
theorem bl_le (X : Nat) (hX : X < 2 ^ 256) : Go.bitLen X ≤ 256 := by
 by_cases h0 : X = 0
 ·subst h0; decide
 ·unfold Go.bitLen
  rw [if_neg h0]
  have := (Nat.log2_lt h0).2 hX
  omega
theorem bl_bit (X i : Nat) (h : bt X (i : Int) = 1) : i < Go.bitLen X := by
 rw [bt_tb] at h
 by_cases ht : X.testBit i
 ·by_cases hi : i < Go.bitLen X
  ·exact hi
  ·have := Nat.testBit_lt_two_pow (Nat.lt_of_lt_of_le (Jdu X).1 (Nat.pow_le_pow_right (by decide) (show Go.bitLen X ≤ i by omega)))
   rw [this] at ht; cases ht
 ·simp [ht] at h
theorem bl_top (X : Nat) (h : Go.bitLen X ≠ 0) : bt X ((Go.bitLen X - 1 : Nat) : Int) = 1 := by
 have h0 : X ≠ 0 := by intro e; subst e; exact h (by decide)
 have h1 := (Jdu X).1
 have h2 := (Jdu X).2 h0
 generalize Go.bitLen X = n at *
 unfold bt
 rw [if_neg (by omega), Int.toNat_natCast]
 have h3 : X / 2 ^ (n - 1) < 2 := by
  refine Nat.div_lt_of_lt_mul ?_
  have e : 2 ^ (n - 1) * 2 = 2 ^ n := by rw [← Nat.pow_succ]; congr 1; omega
  rw [e]; exact h1
 have h4 : 1 ≤ X / 2 ^ (n - 1) := (Nat.one_le_div_iff (Nat.two_pow_pos _)).2 h2
 omega
theorem bl_is (X i : Nat) (hX : X < 2 ^ 256) (h : ∀ k : Nat, i ≤ k → k < 256 → bt X (k : Int) = 0) (hi : i = 0 ∨ bt X ((i : Int) - 1) = 1) : Go.bitLen X = i := by
 have hl := bl_le X hX
 have h1 : Go.bitLen X ≤ i := by
  by_cases hb : Go.bitLen X = 0
  ·omega
  ·have ht := bl_top X hb
   by_cases hc : i ≤ Go.bitLen X - 1
   ·rw [h _ hc (by omega)] at ht; omega
   ·omega
 rcases hi with hi | hi
 ·omega
 ·by_cases h0 : i = 0
  ·omega
  ·have e : (i : Int) - 1 = ((i - 1 : Nat) : Int) := by omega
   rw [e] at hi
   have := bl_bit X (i - 1) hi
   omega

set_option maxRecDepth 100000 in
theorem Jbw (X : Nat) (hX : X < 2 ^ 256) (w : World) : Calls Tryz.prog 46 #[num X] w fun e w' => e = .returned (.int .i64 (Go.bitLen X : Nat)) ∧ Below w.heap.size w w' := by
 go_enter Tryz.func46, Tryz.ntmps46
 go_wp2
 go_loopw [3] (fun s wr => ∃ i : Nat, i ≤ 256 ∧ s = .int .i64 ((i : Int) - 1) ∧ Hid (At wr w.heap.size 24 (ws (wl X))) ∧ Hid (∀ k : Nat, i ≤ k → k < 256 → bt X (k : Int) = 0) ∧ Hid (Below w.heap.size w wr)) (fun s _ => (intOf s + 1).toNat)
 case atStart => exact ⟨256, by omega, rfl, At.at_ w _ _ _ rfl, fun k h1 h2 => by omega, gr_alloc (Below.refl _ _) _⟩
 case round =>
  obtain ⟨i, hi, rfl, Fa, hz, BW⟩ := hrel
  by_cases h0 : i = 0
  ·subst h0
   have e := bl_is X 0 hX hz.out (Or.inl rfl)
   have HE := Jfg e
   clear e
   go_wp2
   go_ret
   exact ⟨by rw [HE.out]; rfl, BW.out⟩
  ·have c0 : wr.cell? ⟨w.heap.size, 0, none⟩ = some (.int .u64 (wd X 0)) := Fa.out.cell 0
   have c1 : wr.cell? ⟨w.heap.size, 1, none⟩ = some (.int .u64 (wd X 1)) := Fa.out.cell 1
   have c2 : wr.cell? ⟨w.heap.size, 2, none⟩ = some (.int .u64 (wd X 2)) := Fa.out.cell 2
   have c3 : wr.cell? ⟨w.heap.size, 3, none⟩ = some (.int .u64 (wd X 3)) := Fa.out.cell 3
   have g1 : (0 : Int) ≤ (i : Int) - 1 := by omega
   have C := Jam X hX ((i : Int) - 1)
   have hb : bt X ((i : Int) - 1) = 0 ∨ bt X ((i : Int) - 1) = 1 := by unfold bt; split <;> omega
   have hl := Jfg (fun h : bt X ((i : Int) - 1) = 1 => bl_is X i hX hz.out (Or.inr h))
   have hk := Jfg (fun (h : bt X ((i : Int) - 1) = 0) (k : Nat) (h1 : i - 1 ≤ k) (h2 : k < 256) => by
    by_cases e : k = i - 1
    ·have e2 : (k : Int) = (i : Int) - 1 := by omega
     rw [e2]; exact h
    ·exact hz.out k (by omega) h2 : bt X ((i : Int) - 1) = 0 → ∀ k : Nat, i - 1 ≤ k → k < 256 → bt X (k : Int) = 0)
   clear hz
   generalize bt X ((i : Int) - 1) = z at *
   go_wp2_with fail
   refine (C _).mono ?_
   rintro e w1 ⟨rfl, z1⟩
   clear c0 c1 c2 c3 C
   rcases hb with rfl | rfl
   ·go_wp2
    go_roundw
    case rel => exact ⟨i - 1, by omega, by go_num, Fa.out.on z1, hk.out (by trivial), bel_tr BW.out z1⟩
    case measure => simp [intOf]; omega
   ·go_wp2
    go_ret
    exact ⟨congrArg Ending.returned (congrArg (Value.int IntKind.i64) (by rw [hl.out (by trivial)])), bel_tr BW.out z1⟩
end Go.Proofs.YtodlpmepoakdlaaGreat
