/-
  limbs.Shift.
-/
import Derived.Test.YtmhmdbjjmmmgkaaBit2
namespace Go.Proofs.Ytmhmdbjjmmmgkaa
open Go.RowKit
set_option linter.unusedSimpArgs false
set_option linter.unusedVariables false
attribute [local go_sem ↓] Go.wp_at_zero Go.wp_at_succ

set_option maxHeartbeats 2000000 in
theorem shift_words (X : Nat) (hX : X < 2 ^ 256) (n q y0 y1 y2 y3 y4 : Int) (p r : Nat) (hq : n / 64 = q) (hp : bits .and .i64 n 63 = (p : Nat)) (hp' : p < 64) (hr : IntKind.i64.wrap (64 - (p : Int)) = (r : Nat)) (hr' : r ≤ 64)
    (v1 : IntKind.i64.wrap (-q) = y1) (v2 : IntKind.i64.wrap (1 - q) = y2) (v3 : IntKind.i64.wrap (2 - q) = y3) (v4 : IntKind.i64.wrap (3 - q) = y4)
    (u1 : IntKind.i64.wrap (y1 - 1) = y0) (u2 : IntKind.i64.wrap (y2 - 1) = y1) (u3 : IntKind.i64.wrap (y3 - 1) = y2) (u4 : IntKind.i64.wrap (y4 - 1) = y3)
    (o0 o1 o2 o3 : Nat)
    (e0 : bits .or .u64 (IntKind.u64.wrap ((wi X y1 : Nat) * 2 ^ p)) ((wi X y0 : Nat) / 2 ^ r) = (o0 : Nat))
    (e1 : bits .or .u64 (IntKind.u64.wrap ((wi X y2 : Nat) * 2 ^ p)) ((wi X y1 : Nat) / 2 ^ r) = (o1 : Nat))
    (e2 : bits .or .u64 (IntKind.u64.wrap ((wi X y3 : Nat) * 2 ^ p)) ((wi X y2 : Nat) / 2 ^ r) = (o2 : Nat))
    (e3 : bits .or .u64 (IntKind.u64.wrap ((wi X y4 : Nat) * 2 ^ p)) ((wi X y3 : Nat) / 2 ^ r) = (o3 : Nat))
    (w : World) :
    Calls Try.prog 59 #[num X, .int .i64 n] w fun e w' => e = .returned (.agg #[.int .u64 o0, .int .u64 o1, .int .u64 o2, .int .u64 o3]) ∧ Below w.heap.size w w' := by
  have hr2 : (r : Int) ≤ 64 := by omega
  have hr3 : (0 : Int) ≤ (r : Int) := by omega
  go_enter Try.func59, Try.ntmps59
  go_wp2
  refine wp_loop_rounds 6 ?_
  rw [rounds_succ]
  go_wp2
  go_region_held3 (fun w' => w'.cell? ⟨w.heap.size, 0, none⟩ = some (.int .u64 (wd X 0 : Nat)) ∧ w'.cell? ⟨w.heap.size, 1, none⟩ = some (.int .u64 (wd X 1 : Nat)) ∧ w'.cell? ⟨w.heap.size, 2, none⟩ = some (.int .u64 (wd X 2 : Nat)) ∧ w'.cell? ⟨w.heap.size, 3, none⟩ = some (.int .u64 (wd X 3 : Nat))) (simp [go_sem, World.cell?_alloc_past])
    ((go_at_call 73; refine (word_any X hX _ _).mono ?_; rintro e w' ⟨rfl, rfl⟩))
  go_wp2
  rw [rounds_succ]
  go_wp2
  go_region_held3 (fun w' => w'.cell? ⟨w.heap.size, 0, none⟩ = some (.int .u64 (wd X 0 : Nat)) ∧ w'.cell? ⟨w.heap.size, 1, none⟩ = some (.int .u64 (wd X 1 : Nat)) ∧ w'.cell? ⟨w.heap.size, 2, none⟩ = some (.int .u64 (wd X 2 : Nat)) ∧ w'.cell? ⟨w.heap.size, 3, none⟩ = some (.int .u64 (wd X 3 : Nat))) (simp [go_sem, World.cell?_alloc_past])
    ((go_at_call 73; refine (word_any X hX _ _).mono ?_; rintro e w' ⟨rfl, rfl⟩))
  go_wp2
  rw [rounds_succ]
  go_wp2
  go_region_held3 (fun w' => w'.cell? ⟨w.heap.size, 0, none⟩ = some (.int .u64 (wd X 0 : Nat)) ∧ w'.cell? ⟨w.heap.size, 1, none⟩ = some (.int .u64 (wd X 1 : Nat)) ∧ w'.cell? ⟨w.heap.size, 2, none⟩ = some (.int .u64 (wd X 2 : Nat)) ∧ w'.cell? ⟨w.heap.size, 3, none⟩ = some (.int .u64 (wd X 3 : Nat))) (simp [go_sem, World.cell?_alloc_past])
    ((go_at_call 73; refine (word_any X hX _ _).mono ?_; rintro e w' ⟨rfl, rfl⟩))
  go_wp2
  rw [rounds_succ]
  go_wp2
  go_region_held3 (fun w' => w'.cell? ⟨w.heap.size, 0, none⟩ = some (.int .u64 (wd X 0 : Nat)) ∧ w'.cell? ⟨w.heap.size, 1, none⟩ = some (.int .u64 (wd X 1 : Nat)) ∧ w'.cell? ⟨w.heap.size, 2, none⟩ = some (.int .u64 (wd X 2 : Nat)) ∧ w'.cell? ⟨w.heap.size, 3, none⟩ = some (.int .u64 (wd X 3 : Nat))) (simp [go_sem, World.cell?_alloc_past])
    ((go_at_call 73; refine (word_any X hX _ _).mono ?_; rintro e w' ⟨rfl, rfl⟩))
  go_wp2
  rw [rounds_succ]
  go_wp2
  exact bodyPost_ret (v := .agg #[.int .u64 o0, .int .u64 o1, .int .u64 o2, .int .u64 o3]) (by simp [results, Try.results59, go_sem]) rfl
    ⟨rfl, by repeat (first | exact Below.refl _ _ | refine gr_alloc ?_ _ | refine Below.drew ?_ | refine gr_drewN ?_ _ | refine bel_tr ?_ (by assumption))⟩
end Go.Proofs.Ytmhmdbjjmmmgkaa
