/-
 balefireref02.of: a long number out of its sixteen digits.
-/
import Derived.Test.YtodlpmepoakdlaaMBehind
namespace Go.Proofs.Ytodlpmepoakdlaa
set_option maxRecDepth 100000
open Go.RowKit
set_option linter.unusedSimpArgs false
set_option linter.unusedVariables false
attribute [local go_sem ↓] Go.wp_at_zero Go.wp_at_succ

/-- one digit more -/
theorem dig_in (P d i q r : Nat) (hi : i < 16) (hq : q = i / 4) (hr : r = i % 4) (hP : P < 65536 ^ i) (hd : d < 65536) :
  wd (P + 65536 ^ i * d) q = wd P q + d * 2 ^ (16 * r) ∧ d * 2 ^ (16 * r) < 18446744073709551616 ∧ wd P q + d * 2 ^ (16 * r) < 18446744073709551616 ∧ ∀ k, k ≠ q → wd (P + 65536 ^ i * d) k = wd P k := by
 have hi4 : i = 4 * q + r := by omega
 have hr4 : r < 4 := by omega
 have ep : (65536 : Nat) ^ i = 18446744073709551616 ^ q * 2 ^ (16 * r) := by
  rw [hi4, Nat.pow_add, Nat.pow_mul, Nat.pow_mul]
 obtain ⟨u, hu⟩ : ∃ u, u = 2 ^ (16 * r) := ⟨_, rfl⟩
 have hu4 : u * 65536 ≤ 18446744073709551616 := by
  have : 2 ^ (16 * r) ≤ 2 ^ 48 := Nat.pow_le_pow_right (by decide) (by omega)
  omega
 have hu0 : 0 < u := by rw [hu]; exact Nat.two_pow_pos _
 rw [← hu] at ep ⊢
 obtain ⟨B, hB⟩ : ∃ B, B = (18446744073709551616 : Nat) ^ q := ⟨_, rfl⟩
 have hB0 : 0 < B := by rw [hB]; exact Nat.pow_pos (by decide)
 rw [← hB] at ep
 rw [ep] at hP ⊢
 have hPq : P / B < u := Nat.div_lt_of_lt_mul hP
 have hdu : d * u < u * 65536 := by rw [Nat.mul_comm]; exact Nat.mul_lt_mul_of_pos_left hd (by omega)
 have hdu2 : d * u + u ≤ u * 65536 := by
  have : (d + 1) * u ≤ 65536 * u := Nat.mul_le_mul_right u hd
  rw [Nat.add_mul] at this; omega
 have e1 : wd P q = P / B := by unfold wd; rw [← hB]; exact Nat.mod_eq_of_lt (by omega)
 have e2 : wd (P + B * u * d) q = P / B + d * u := by
  unfold wd
  rw [← hB, Nat.mul_assoc, Nat.add_mul_div_left _ _ hB0, Nat.mul_comm u d]
  exact Nat.mod_eq_of_lt (by omega)
 refine ⟨by rw [e1, e2], by omega, by rw [e1]; omega, fun k hk => ?_⟩
 unfold wd
 by_cases h : k < q
 ·have e3 : B = 18446744073709551616 ^ k * (18446744073709551616 * 18446744073709551616 ^ (q - k - 1)) := by
   rw [hB, ← Nat.pow_succ', ← Nat.pow_add]; congr 1; omega
  rw [e3]
  rw [show 18446744073709551616 ^ k * (18446744073709551616 * 18446744073709551616 ^ (q - k - 1)) * u * d = 18446744073709551616 ^ k * (18446744073709551616 * (18446744073709551616 ^ (q - k - 1) * u * d)) by ac_rfl]
  rw [Nat.add_mul_div_left _ _ (Nat.pow_pos (by decide)), Nat.add_mul_mod_self_left]
 ·have hkq : q + 1 ≤ k := by omega
  have lt : ∀ Z, Z < B * 18446744073709551616 → Z / 18446744073709551616 ^ k = 0 := fun Z hZ => Nat.div_eq_of_lt (Nat.lt_of_lt_of_le hZ (by rw [hB, ← Nat.pow_succ]; exact Nat.pow_le_pow_right (by decide) hkq))
  have h1 : P < B * 18446744073709551616 := Nat.lt_of_lt_of_le hP (Nat.mul_le_mul_left B (by omega))
  have h2 : P + B * u * d < B * 18446744073709551616 := by
   have : B * u * d + B * u ≤ B * 18446744073709551616 := by
    rw [Nat.mul_assoc, ← Nat.mul_add]
    exact Nat.mul_le_mul_left B (by rw [Nat.mul_comm u d]; omega)
   omega
  rw [lt _ h1, lt _ h2]

theorem take_lt (M : List Nat) (hb : ∀ x ∈ M, x < 65536) (i : Nat) (hi : i ≤ M.length) : lv 65536 (M.take i) < 65536 ^ i := by
 have := lv_lt 65536 (M.take i) (fun x hx => hb x (List.mem_of_mem_take hx))
 rwa [List.length_take, Nat.min_eq_left hi] at this
theorem take_more (M : List Nat) (i : Nat) (hi : i < M.length) : lv 65536 (M.take (i + 1)) = lv 65536 (M.take i) + 65536 ^ i * M.getD i 0 := by
 rw [List.take_succ_eq_append_getElem hi, lv_append, List.length_take, Nat.min_eq_left (by omega)]
 simp [lv, List.getD, hi]

/-- what memory holds while digits are put together -/
structure OW (wr w : World) (P : Nat) : Prop where
 res : At wr w.heap.size 24 #[.int .u64 0, .int .u64 0, .int .u64 0, .int .u64 0]
 a : At wr (w.heap.size + 1) 24 #[.int .u64 (wd P 0 : Nat), .int .u64 (wd P 1 : Nat), .int .u64 (wd P 2 : Nat), .int .u64 (wd P 3 : Nat)]
 bel : Below w.heap.size w wr

set_option maxRecDepth 100000 in
set_option maxHeartbeats 4000000 in
theorem rof_any (M : List Nat) (hl : M.length = 16) (hb : ∀ x ∈ M, x < 65536) (g o cap : Nat) (w : World)
  (hc : ∀ k, k < 16 → w.cell? ⟨g, o + k, none⟩ = some (.int .u64 (M.getD k 0 : Nat))) :
  Calls Try.prog 68 #[.slice (some ⟨g, o, none⟩) 16 cap] w fun e w' => e = .returned (num (lv 65536 M)) ∧ Below w.heap.size w w' := by
 obtain ⟨X, hX⟩ : ∃ X, X = lv 65536 M := ⟨_, rfl⟩
 rw [← hX]
 have HXM := Lib.hid hX
 have HC := Lib.hid hc; have HBB := Lib.hid hb; have HL := Lib.hid hl
 clear hc hb hl hX
 go_enter Try.func68, Try.ntmps68
 go_wp2
 go_loopw [4] (fun s wr => ∃ (i : Nat), i ≤ 16 ∧ s = .int .i64 i ∧ Hid (OW wr w (lv 65536 (M.take i)))) (fun s _ => 16 - (intOf s).toNat)
 case atStart =>
  refine ⟨0, by omega, rfl, ⟨?_, ?_, ?_⟩⟩
  ·exact (At.at_ w _ _ _ rfl).alloc _
  ·have e : ∀ k, wd (lv 65536 (M.take 0)) k = 0 := fun k => by simp [wd, lv]
   rw [e, e, e, e]
   exact At.at_ (w.alloc _) _ _ _ (by simp)
  ·repeat (first | exact Below.refl _ _ | refine gr_alloc ?_ _)
 case round =>
  obtain ⟨i, hi, rfl, hH⟩ := hrel
  by_cases hlt : i < 16
  ·obtain ⟨q, hq⟩ : ∃ q, q = i / 4 := ⟨_, rfl⟩
   obtain ⟨r, hr⟩ : ∃ r, r = i % 4 := ⟨_, rfl⟩
   have hP := take_lt M HBB.out i (by rw [HL.out]; omega)
   have hm := take_more M i (by rw [HL.out]; omega)
   have hd := getD_lt HBB.out i (by rw [HL.out]; omega)
   obtain ⟨b1, b2, b3, b4⟩ := dig_in _ _ i q r hlt hq hr hP hd
   rw [← hm] at b1 b4
   have fd : wr.drew.cell? ⟨g, o + i, none⟩ = some (.int .u64 (M.getD i 0 : Nat)) := cell_on hH.out.bel.drew (HC.out i hlt)
   have q4 : q < 4 := by omega
   have fa : wr.drew.cell? ⟨w.heap.size + 1, q, none⟩ = some (.int .u64 (wd (lv 65536 (M.take i)) q : Nat)) := by
    rw [hH.out.a.drew.cell]
    match q, q4 with
    | 0, _ | 1, _ | 2, _ | 3, _ => rfl
   have ff : wr.drew.frozen? ⟨w.heap.size + 1, q, none⟩ = false := hH.out.a.drew.frozen q
   obtain ⟨s, hs⟩ : ∃ s, s = 16 * r := ⟨_, rfl⟩
   rw [← hs] at b1 b2 b3
   have gd : Int.tdiv (i : Int) 4 = (q : Nat) := by rw [Int.tdiv_eq_ediv_of_nonneg (by omega)]; omega
   have gd2 : (i : Int) / 4 = (q : Nat) := by omega
   have gm : Int.tmod (i : Int) 4 = (r : Nat) := by rw [Int.tmod_eq_emod_of_nonneg (by omega)]; omega
   have gm2 : (i : Int) % 4 = (r : Nat) := by omega
   have gw : IntKind.i64.wrap ((q : Nat) : Int) = (q : Nat) := by rw [IntKind.wrap_i64]; omega
   have gwr : IntKind.i64.wrap ((r : Nat) : Int) = (r : Nat) := by rw [IntKind.wrap_i64]; omega
   have gs : IntKind.i64.wrap (16 * (r : Int)) = (s : Nat) := by rw [IntKind.wrap_i64]; omega
   have s64 : (s : Int) < 64 := by omega
   have s0 : (0 : Int) ≤ (s : Int) := by omega
   have q0 : (0 : Int) ≤ (q : Int) := by omega
   have q4' : (q : Int) < 4 := by omega
   have i0 : (0 : Int) ≤ (i : Int) := by omega
   have i16 : (i : Int) < 16 := by omega
   have hso : s ≤ 48 := by omega
   have HB1 := Lib.hid b1; have HB4 := Lib.hid b4; have HB3 := Lib.hid b3
   clear b1 b4 hm hP hq hr hs hd
   obtain ⟨x, hx⟩ : ∃ x, M.getD i 0 = x := ⟨_, rfl⟩
   obtain ⟨y, hy⟩ : ∃ y, wd (lv 65536 (M.take i)) q = y := ⟨_, rfl⟩
   rw [hx] at fd b2 HB1
   rw [hx] at HB3
   rw [hy] at fa HB1 HB3
   have gsh : IntKind.u64.wrap ((x : Int) * 2 ^ s) = ((x * 2 ^ s : Nat) : Int) := by rw [show (x : Int) * 2 ^ s = ((x * 2 ^ s : Nat) : Int) by simp, IntKind.wrap_u64]; omega
   obtain ⟨z, hz⟩ : ∃ z, x * 2 ^ s = z := ⟨_, rfl⟩
   rw [hz] at gsh b2 HB1 HB3
   have gad : IntKind.u64.wrap ((y : Int) + (z : Int)) = ((y + z : Nat) : Int) := by have := HB3.out; rw [IntKind.wrap_u64]; omega
   have HX := Lib.hid hx; have HY := Lib.hid hy; have HZ := Lib.hid hz
   clear hx hy hz b2 b3
   go_wp2_with fail
   refine wp_region_still_tail 16 (by kernel_rfl) (by kernel_rfl) ?_
   simp only [List.take_succ_cons, List.take_zero, List.drop_succ_cons, List.drop_zero]
   change wpStill _ _ wr.drew (fun a' => wpList _ _ _ _ a' wr.drew) _ _
   obtain ⟨wj, hwj⟩ : ∃ wj, wr.drew = wj := ⟨_, rfl⟩
   have hwj' := Lib.hid hwj
   rw [hwj] at fa fd ff ⊢
   clear hwj
   repeat still_step
   refine wpStill_nil ?_
   go_wp2
   go_roundw
   case rel =>
    first
     | refine ⟨i + 1, by omega, by go_num, ?_⟩
     | ((repeat apply Exists.intro); refine ⟨⟨i + 1, by omega, by go_num, ?_⟩, rfl⟩)
    ·rw [← hwj'.out]
     refine ⟨hH.out.res.drew.far (by show _ ≠ _; dsimp; omega) _, ?_, hH.out.bel.drew.setCell (by dsimp; omega) _⟩
     have := hH.out.a.drew.set q (.int .u64 ((y + z : Nat) : Int))
     rw [set_cell _ (lv 65536 (M.take (i + 1))) q (y + z) q4 HB1.out.symm HB4.out] at this
     exact this
   case measure => simp [intOf]; omega
  ·obtain rfl : i = 16 := by omega
   have e : M.take 16 = M := List.take_of_length_le (by rw [HL.out]; omega)
   have hH2 : OW wr w (lv 65536 (M.take 16)) := hH.out
   rw [e] at hH2
   have HF := Lib.hid hH2
   clear hH hH2 e
   have Fa := HF.out.a
   have Fr := HF.out.res
   have BW := Lib.hid HF.out.bel
   rw [← HXM.out] at Fa
   have c0 : wr.cell? ⟨w.heap.size + 1, 0, none⟩ = some (.int .u64 (wd X 0 : Nat)) := Fa.cell 0
   have c1 : wr.cell? ⟨w.heap.size + 1, 1, none⟩ = some (.int .u64 (wd X 1 : Nat)) := Fa.cell 1
   have c2 : wr.cell? ⟨w.heap.size + 1, 2, none⟩ = some (.int .u64 (wd X 2 : Nat)) := Fa.cell 2
   have c3 : wr.cell? ⟨w.heap.size + 1, 3, none⟩ = some (.int .u64 (wd X 3 : Nat)) := Fa.cell 3
   have d0 : wr.cell? ⟨w.heap.size, 0, none⟩ = some (.int .u64 0) := Fr.cell 0
   have d1 : wr.cell? ⟨w.heap.size, 1, none⟩ = some (.int .u64 0) := Fr.cell 1
   have d2 : wr.cell? ⟨w.heap.size, 2, none⟩ = some (.int .u64 0) := Fr.cell 2
   have d3 : wr.cell? ⟨w.heap.size, 3, none⟩ = some (.int .u64 0) := Fr.cell 3
   have f0 : wr.frozen? ⟨w.heap.size, 0, none⟩ = false := Fr.frozen 0
   have f1 : wr.frozen? ⟨w.heap.size, 1, none⟩ = false := Fr.frozen 1
   have f2 : wr.frozen? ⟨w.heap.size, 2, none⟩ = false := Fr.frozen 2
   have f3 : wr.frozen? ⟨w.heap.size, 3, none⟩ = false := Fr.frozen 3
   have FR := Lib.hid Fr
   clear Fa Fr HF
   go_wp2_with fail
   have NR := FR.out.put4 (.int .u64 (wd X 0 : Nat)) (.int .u64 (wd X 1 : Nat)) (.int .u64 (wd X 2 : Nat)) (.int .u64 (wd X 3 : Nat))
   have NB : Below w.heap.size w ((((wr.setCell ⟨w.heap.size, 0, none⟩ (.int .u64 (wd X 0 : Nat))).setCell ⟨w.heap.size, 1, none⟩ (.int .u64 (wd X 1 : Nat))).setCell ⟨w.heap.size, 2, none⟩ (.int .u64 (wd X 2 : Nat))).setCell ⟨w.heap.size, 3, none⟩ (.int .u64 (wd X 3 : Nat))) :=
    (((BW.out.setCell (Nat.le_refl _) _).setCell (Nat.le_refl _) _).setCell (Nat.le_refl _) _).setCell (Nat.le_refl _) _
   clear c0 c1 c2 c3 d0 d1 d2 d3 f0 f1 f2 f3 FR BW
   generalize ((((wr.setCell ⟨w.heap.size, 0, none⟩ (.int .u64 (wd X 0 : Nat))).setCell ⟨w.heap.size, 1, none⟩ (.int .u64 (wd X 1 : Nat))).setCell ⟨w.heap.size, 2, none⟩ (.int .u64 (wd X 2 : Nat))).setCell ⟨w.heap.size, 3, none⟩ (.int .u64 (wd X 3 : Nat))) = WF at *
   have c0 : WF.cell? ⟨w.heap.size, 0, none⟩ = some (.int .u64 (wd X 0 : Nat)) := NR.cell 0
   have c1 : WF.cell? ⟨w.heap.size, 1, none⟩ = some (.int .u64 (wd X 1 : Nat)) := NR.cell 1
   have c2 : WF.cell? ⟨w.heap.size, 2, none⟩ = some (.int .u64 (wd X 2 : Nat)) := NR.cell 2
   have c3 : WF.cell? ⟨w.heap.size, 3, none⟩ = some (.int .u64 (wd X 3 : Nat)) := NR.cell 3
   have NBB := Lib.hid NB
   clear NB NR
   exact bodyPost_ret (v := num X) (by simp [results, Try.results68, go_sem, *]) rfl ⟨rfl, NBB.out⟩
end Go.Proofs.Ytodlpmepoakdlaa
