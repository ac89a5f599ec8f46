/-
  limbs.Add and limbs.Sub: sums and differences of long numbers.
-/
import Derived.WalkSpells
import Derived.Laws.OwnMore
import Derived.Laws.MakeOwn
import Derived.Maps.AppendAt
import Derived.Lib.Hide
import Derived.Deep.DrawnRows
import Derived.Deep.RegionWith
import Derived.RegionTactic
import Derived.BigRegion
import Derived.Deep.QuietTactic
import Derived.BigQuiet
import Derived.StillTailTactics
import Derived.Deep.RegionHeld3
import Derived.Deep.RegionLaw
import Derived.Test.YtodlpmepoakdlaaWBits
namespace Go.Proofs.Ytodlpmepoakdlaa
set_option maxRecDepth 100000
open Go.RowKit
set_option linter.unusedSimpArgs false
set_option linter.unusedVariables false
attribute [local go_sem ↓] Go.wp_at_zero Go.wp_at_succ

set_option maxHeartbeats 1000000 in
theorem add_words (a0 a1 a2 a3 b0 b1 b2 b3 : Nat) (w : World) (s0 s1 s2 s3 c0 c1 c2 c3 : Nat)
    (h0 : ∀ w, (callFunc 85 #[.int .u64 a0, .int .u64 b0, .int .u64 0]).run Try.prog w = .ok (.value (.tuple #[.int .u64 s0, .int .u64 c0])) w)
    (h1 : ∀ w, (callFunc 85 #[.int .u64 a1, .int .u64 b1, .int .u64 c0]).run Try.prog w = .ok (.value (.tuple #[.int .u64 s1, .int .u64 c1])) w)
    (h2 : ∀ w, (callFunc 85 #[.int .u64 a2, .int .u64 b2, .int .u64 c1]).run Try.prog w = .ok (.value (.tuple #[.int .u64 s2, .int .u64 c2])) w)
    (h3 : ∀ w, (callFunc 85 #[.int .u64 a3, .int .u64 b3, .int .u64 c2]).run Try.prog w = .ok (.value (.tuple #[.int .u64 s3, .int .u64 c3])) w) :
    Calls Try.prog 75 #[.agg #[.int .u64 a0, .int .u64 a1, .int .u64 a2, .int .u64 a3], .agg #[.int .u64 b0, .int .u64 b1, .int .u64 b2, .int .u64 b3]] w fun e w' =>
      e = .returned (.tuple #[.agg #[.int .u64 s0, .int .u64 s1, .int .u64 s2, .int .u64 s3], .int .u64 c3]) ∧ Below w.heap.size w w' := by
  go_enter Try.func75, Try.ntmps75
  go_wp2
  refine wp_loop_rounds 6 ?_
  rw [rounds_succ]
  go_wp2
  go_region_held3 (fun w' => w'.cell? ⟨w.heap.size, 0, none⟩ = some (.int .u64 a0) ∧ w'.cell? ⟨w.heap.size + 1, 0, none⟩ = some (.int .u64 b0)) (go_keep) ((simp only [h0]))
  go_wp2
  rw [rounds_succ]
  go_wp2
  go_region_held3 (fun w' => w'.cell? ⟨w.heap.size, 1, none⟩ = some (.int .u64 a1) ∧ w'.cell? ⟨w.heap.size + 1, 1, none⟩ = some (.int .u64 b1)) (go_keep) ((simp only [h1]))
  go_wp2
  rw [rounds_succ]
  go_wp2
  go_region_held3 (fun w' => w'.cell? ⟨w.heap.size, 2, none⟩ = some (.int .u64 a2) ∧ w'.cell? ⟨w.heap.size + 1, 2, none⟩ = some (.int .u64 b2)) (go_keep) ((simp only [h2]))
  go_wp2
  rw [rounds_succ]
  go_wp2
  go_region_held3 (fun w' => w'.cell? ⟨w.heap.size, 3, none⟩ = some (.int .u64 a3) ∧ w'.cell? ⟨w.heap.size + 1, 3, none⟩ = some (.int .u64 b3)) (go_keep) ((simp only [h3]))
  go_wp2
  rw [rounds_succ]
  go_wp2
  exact bodyPost_ret (v := .tuple #[.agg #[.int .u64 s0, .int .u64 s1, .int .u64 s2, .int .u64 s3], .int .u64 c3]) (by simp [results, Try.results75, go_sem]) rfl
    ⟨rfl, by repeat (first | exact Below.refl _ _ | refine gr_alloc ?_ _ | refine Below.drew ?_ | refine gr_drewN ?_ _ | refine bel_tr ?_ (by assumption))⟩

set_option maxHeartbeats 1000000 in
theorem sub_words (a0 a1 a2 a3 b0 b1 b2 b3 : Nat) (w : World) (s0 s1 s2 s3 c0 c1 c2 c3 : Nat)
    (h0 : ∀ w, (callFunc 69 #[.int .u64 a0, .int .u64 b0, .int .u64 0]).run Try.prog w = .ok (.value (.tuple #[.int .u64 s0, .int .u64 c0])) w)
    (h1 : ∀ w, (callFunc 69 #[.int .u64 a1, .int .u64 b1, .int .u64 c0]).run Try.prog w = .ok (.value (.tuple #[.int .u64 s1, .int .u64 c1])) w)
    (h2 : ∀ w, (callFunc 69 #[.int .u64 a2, .int .u64 b2, .int .u64 c1]).run Try.prog w = .ok (.value (.tuple #[.int .u64 s2, .int .u64 c2])) w)
    (h3 : ∀ w, (callFunc 69 #[.int .u64 a3, .int .u64 b3, .int .u64 c2]).run Try.prog w = .ok (.value (.tuple #[.int .u64 s3, .int .u64 c3])) w) :
    Calls Try.prog 48 #[.agg #[.int .u64 a0, .int .u64 a1, .int .u64 a2, .int .u64 a3], .agg #[.int .u64 b0, .int .u64 b1, .int .u64 b2, .int .u64 b3]] w fun e w' =>
      e = .returned (.tuple #[.agg #[.int .u64 s0, .int .u64 s1, .int .u64 s2, .int .u64 s3], .int .u64 c3]) ∧ Below w.heap.size w w' := by
  go_enter Try.func48, Try.ntmps48
  go_wp2
  refine wp_loop_rounds 6 ?_
  rw [rounds_succ]
  go_wp2
  go_region_held3 (fun w' => w'.cell? ⟨w.heap.size, 0, none⟩ = some (.int .u64 a0) ∧ w'.cell? ⟨w.heap.size + 1, 0, none⟩ = some (.int .u64 b0)) (go_keep) ((simp only [h0]))
  go_wp2
  rw [rounds_succ]
  go_wp2
  go_region_held3 (fun w' => w'.cell? ⟨w.heap.size, 1, none⟩ = some (.int .u64 a1) ∧ w'.cell? ⟨w.heap.size + 1, 1, none⟩ = some (.int .u64 b1)) (go_keep) ((simp only [h1]))
  go_wp2
  rw [rounds_succ]
  go_wp2
  go_region_held3 (fun w' => w'.cell? ⟨w.heap.size, 2, none⟩ = some (.int .u64 a2) ∧ w'.cell? ⟨w.heap.size + 1, 2, none⟩ = some (.int .u64 b2)) (go_keep) ((simp only [h2]))
  go_wp2
  rw [rounds_succ]
  go_wp2
  go_region_held3 (fun w' => w'.cell? ⟨w.heap.size, 3, none⟩ = some (.int .u64 a3) ∧ w'.cell? ⟨w.heap.size + 1, 3, none⟩ = some (.int .u64 b3)) (go_keep) ((simp only [h3]))
  go_wp2
  rw [rounds_succ]
  go_wp2
  exact bodyPost_ret (v := .tuple #[.agg #[.int .u64 s0, .int .u64 s1, .int .u64 s2, .int .u64 s3], .int .u64 c3]) (by simp [results, Try.results48, go_sem]) rfl
    ⟨rfl, by repeat (first | exact Below.refl _ _ | refine gr_alloc ?_ _ | refine Below.drew ?_ | refine gr_drewN ?_ _ | refine bel_tr ?_ (by assumption))⟩
end Go.Proofs.Ytodlpmepoakdlaa

/-
  limbs.Add and limbs.Sub: sums and differences of long numbers.
-/
namespace Go.Proofs.Ytodlpmepoakdlaa
set_option maxRecDepth 100000
open Go.RowKit
set_option linter.unusedSimpArgs false
set_option linter.unusedVariables false

/-- limbs.Add -/
theorem add_ex (X Y : Nat) (hX : X < 2 ^ 256) (hY : Y < 2 ^ 256) : ∃ S c : Nat, S < 2 ^ 256 ∧ c ≤ 1 ∧ X + Y = S + 2 ^ 256 * c ∧
    ∀ w, Calls Try.prog 75 #[num X, num Y] w fun e w' => e = .returned (.tuple #[num S, .int .u64 (c : Nat)]) ∧ Below w.heap.size w w' := by
  obtain ⟨s0, c0, l0, k0, e0, p0, q0⟩ := add_step (wd X 0) (wd Y 0) 0 (wd_lt _ _) (wd_lt _ _) (by omega)
  obtain ⟨s1, c1, l1, k1, e1, p1, q1⟩ := add_step (wd X 1) (wd Y 1) c0 (wd_lt _ _) (wd_lt _ _) (by omega)
  obtain ⟨s2, c2, l2, k2, e2, p2, q2⟩ := add_step (wd X 2) (wd Y 2) c1 (wd_lt _ _) (wd_lt _ _) (by omega)
  obtain ⟨s3, c3, l3, k3, e3, p3, q3⟩ := add_step (wd X 3) (wd Y 3) c2 (wd_lt _ _) (wd_lt _ _) (by omega)
  have sX := wd_sum X hX
  have sY := wd_sum Y hY
  obtain ⟨S, hS⟩ : ∃ S, S = s0 + 18446744073709551616 * s1 + 340282366920938463463374607431768211456 * s2 + 6277101735386680763835789423207666416102355444464034512896 * s3 := ⟨_, rfl⟩
  refine ⟨S, c3, ?_, k3, ?_, fun w => ?_⟩
  rotate_left 2
  · rw [← num_of s0 s1 s2 s3 l0 l1 l2 l3 S hS]
    exact add_words _ _ _ _ _ _ _ _ w s0 s1 s2 s3 c0 c1 c2 c3 (fun w => add64 _ _ 0 _ _ (by omega) p0 q0 w) (fun w => add64 _ _ _ _ _ k0 p1 q1 w) (fun w => add64 _ _ _ _ _ k1 p2 q2 w) (fun w => add64 _ _ _ _ _ k2 p3 q3 w)
  · clear p0 p1 p2 p3 q0 q1 q2 q3; omega
  · clear p0 p1 p2 p3 q0 q1 q2 q3; omega

/-- limbs.Sub -/
theorem sub_ex (X Y : Nat) (hX : X < 2 ^ 256) (hY : Y < 2 ^ 256) : ∃ S c : Nat, S < 2 ^ 256 ∧ c ≤ 1 ∧ X + 2 ^ 256 * c = S + Y ∧
    ∀ w, Calls Try.prog 48 #[num X, num Y] w fun e w' => e = .returned (.tuple #[num S, .int .u64 (c : Nat)]) ∧ Below w.heap.size w w' := by
  obtain ⟨s0, c0, l0, k0, e0, p0, q0⟩ := sub_step (wd X 0) (wd Y 0) 0 (wd_lt _ _) (wd_lt _ _) (by omega)
  obtain ⟨s1, c1, l1, k1, e1, p1, q1⟩ := sub_step (wd X 1) (wd Y 1) c0 (wd_lt _ _) (wd_lt _ _) (by omega)
  obtain ⟨s2, c2, l2, k2, e2, p2, q2⟩ := sub_step (wd X 2) (wd Y 2) c1 (wd_lt _ _) (wd_lt _ _) (by omega)
  obtain ⟨s3, c3, l3, k3, e3, p3, q3⟩ := sub_step (wd X 3) (wd Y 3) c2 (wd_lt _ _) (wd_lt _ _) (by omega)
  have sX := wd_sum X hX
  have sY := wd_sum Y hY
  obtain ⟨S, hS⟩ : ∃ S, S = s0 + 18446744073709551616 * s1 + 340282366920938463463374607431768211456 * s2 + 6277101735386680763835789423207666416102355444464034512896 * s3 := ⟨_, rfl⟩
  refine ⟨S, c3, ?_, k3, ?_, fun w => ?_⟩
  rotate_left 2
  · rw [← num_of s0 s1 s2 s3 l0 l1 l2 l3 S hS]
    exact sub_words _ _ _ _ _ _ _ _ w s0 s1 s2 s3 c0 c1 c2 c3 (fun w => sub64 _ _ 0 _ _ (by omega) p0 q0 w) (fun w => sub64 _ _ _ _ _ k0 p1 q1 w) (fun w => sub64 _ _ _ _ _ k1 p2 q2 w) (fun w => sub64 _ _ _ _ _ k2 p3 q3 w)
  · clear p0 p1 p2 p3 q0 q1 q2 q3; omega
  · clear p0 p1 p2 p3 q0 q1 q2 q3; omega
end Go.Proofs.Ytodlpmepoakdlaa
