/-
  limbs.Of and limbs.Cmp; == of two long numbers.
-/
import Derived.Test.YtodlpmepoakdlaaWAdd
import Derived.Test.YtodlpmepoakdlaaWSet
namespace Go.Proofs.Ytodlpmepoakdlaa
set_option maxRecDepth 100000
open Go.RowKit
set_option linter.unusedSimpArgs false
set_option linter.unusedVariables false
attribute [local go_sem ↓] Go.wp_at_zero Go.wp_at_succ

/-- two long numbers, held against each other -/
theorem eqW (a b c d a' b' c' d' : Int) (w : World) : (Op.equalIn 10000 24 (.agg #[.int .u64 a, .int .u64 b, .int .u64 c, .int .u64 d]) (.agg #[.int .u64 a', .int .u64 b', .int .u64 c', .int .u64 d'])).run Try.prog w = .ok (decide (a = a' ∧ b = b' ∧ c = c' ∧ d = d')) w := by
  have u3 := Try.underlying22
  have a3 := Try.isAgg22
  have z3 := Try.sizeOf22
  rw [show (10000 : Nat) = 9999 + 1 from rfl, Op.equalIn]
  simp only [Sem.run_bind, run_underlying Try.underlying24, Result.andThen_ok]
  simp only [Std.Legacy.Range.forIn_eq_forIn_range', Std.Legacy.Range.size, Nat.sub_zero, Nat.add_sub_cancel, Nat.div_one, List.range'_succ, List.range'_zero, List.forIn_cons, List.forIn_nil]
  go_simp
  by_cases h1 : a = a' <;> by_cases h2 : b = b' <;> by_cases h3 : c = c' <;> by_cases h4 : d = d' <;> simp [h1, h2, h3, h4]

theorem eqN (X Y : Nat) (hX : X < 2 ^ 256) (hY : Y < 2 ^ 256) (w : World) : (Op.equalIn 10000 24 (num X) (num Y)).run Try.prog w = .ok (decide (X = Y)) w := by
  rw [eqW]
  congr 1
  rw [decide_eq_decide, ← wd_eq X Y hX hY]
  omega

/-- limbs.Of -/
theorem of_any (x : Nat) (hx : x < 18446744073709551616) (w : World) : Calls Try.prog 32 #[.int .u64 (x : Nat)] w fun e w' => e = .returned (num x) ∧ Below w.heap.size w w' := by
  rw [← num_of x 0 0 0 hx (by omega) (by omega) (by omega) x (by omega)]
  go_enter Try.func32, Try.ntmps32
  go_wp2
  exact bodyPost_ret (v := .agg #[.int .u64 (x : Nat), .int .u64 0, .int .u64 0, .int .u64 0]) (by simp [results, Try.results32, go_sem]) rfl
    ⟨rfl, by repeat (first | exact Below.refl _ _ | refine gr_alloc ?_ _ | refine Below.drew ?_ | refine gr_drewN ?_ _ | refine bel_tr ?_ (by assumption))⟩

/-- what Cmp tells -/
def cmpN (X Y : Nat) : Int := if X < Y then -1 else if X = Y then 0 else 1
theorem cmpN_lt {X Y : Nat} (h : X < Y) : cmpN X Y = -1 := by unfold cmpN; rw [if_pos h]
theorem cmpN_eq (X : Nat) : cmpN X X = 0 := by unfold cmpN; simp
theorem cmpN_gt {X Y : Nat} (h : Y < X) : cmpN X Y = 1 := by unfold cmpN; rw [if_neg (by omega), if_neg (by omega)]

set_option maxHeartbeats 1000000 in
/-- limbs.Cmp -/
theorem cmp_any (X Y : Nat) (hX : X < 2 ^ 256) (hY : Y < 2 ^ 256) (w : World) : Calls Try.prog 24 #[num X, num Y] w fun e w' => e = .returned (.int .i64 (cmpN X Y)) ∧ Below w.heap.size w w' := by
  obtain ⟨S, c, hS, hc, he, C⟩ := sub_ex X Y hX hY
  have C' := Lib.hid C
  rcases Nat.lt_trichotomy X Y with h | h | h
  · rw [cmpN_lt h]
    have h1 : c = 1 := by omega
    subst h1
    have eq : ∀ w, (Op.equalIn 10000 24 (num X) (num Y)).run Try.prog w = .ok false w := fun w => by rw [eqN X Y hX hY]; simp; omega
    clear C he hS hc h
    go_enter Try.func24, Try.ntmps24
    go_wp2_with (first | simp only [eq] | (refine (C'.out _).mono ?_; rintro e w1 ⟨rfl, z1⟩))
    go_ret
    exact ⟨rfl, by repeat (first | exact Below.refl _ _ | refine gr_alloc ?_ _ | refine Below.drew ?_ | refine gr_drewN ?_ _ | refine bel_tr ?_ (by assumption))⟩
  · subst h
    rw [cmpN_eq]
    have eq : ∀ w, (Op.equalIn 10000 24 (num X) (num X)).run Try.prog w = .ok true w := fun w => by rw [eqN X X hX hX]; simp
    go_enter Try.func24, Try.ntmps24
    go_wp2_with (simp only [eq])
    go_ret
    exact ⟨rfl, by repeat (first | exact Below.refl _ _ | refine gr_alloc ?_ _ | refine Below.drew ?_ | refine gr_drewN ?_ _ | refine bel_tr ?_ (by assumption))⟩
  · rw [cmpN_gt h]
    have h1 : c = 0 := by omega
    subst h1
    have eq : ∀ w, (Op.equalIn 10000 24 (num X) (num Y)).run Try.prog w = .ok false w := fun w => by rw [eqN X Y hX hY]; simp; omega
    clear C he hS hc h
    go_enter Try.func24, Try.ntmps24
    go_wp2_with (first | simp only [eq] | (refine (C'.out _).mono ?_; rintro e w1 ⟨rfl, z1⟩))
    go_ret
    exact ⟨rfl, by repeat (first | exact Below.refl _ _ | refine gr_alloc ?_ _ | refine Below.drew ?_ | refine gr_drewN ?_ _ | refine bel_tr ?_ (by assumption))⟩
end Go.Proofs.Ytodlpmepoakdlaa

/-
  A long number stored into a block that is just its words: one step.
-/
namespace Go.Proofs.Ytodlpmepoakdlaa
set_option maxRecDepth 100000
open Go.RowKit
set_option linter.unusedSimpArgs false
set_option linter.unusedVariables false

/-- block g holds four words now -/
def put4 (w : World) (g : Nat) (a b c d : Value) : World := (((w.setCell ⟨g, 0, none⟩ a).setCell ⟨g, 1, none⟩ b).setCell ⟨g, 2, none⟩ c).setCell ⟨g, 3, none⟩ d

theorem store_run (x y : Operand) (dst : Option Tmp) (ty : TypeId) (pos : String) (after : Array Edge) (guard : Option (Nat × Bool)) (ρ : Operand → Value) (w : World) (g : Nat) (u0 u1 u2 u3 : Value) (a b c d : Int)
    (hx : ρ x = .pointer (some ⟨g, 0, none⟩)) (hy : ρ y = .agg #[.int .u64 a, .int .u64 b, .int .u64 c, .int .u64 d]) (h : At w g 24 #[u0, u1, u2, u3]) :
    (execOp ρ ⟨dst, .store 24 x y, ty, pos, after, guard⟩).run Try.prog w = .ok .skip (put4 w g (.int .u64 a) (.int .u64 b) (.int .u64 c) (.int .u64 d)) := by
  have c0 : w.cell? ⟨g, 0, none⟩ = some u0 := h.cell 0
  have c1 : w.cell? ⟨g, 1, none⟩ = some u1 := h.cell 1
  have c2 : w.cell? ⟨g, 2, none⟩ = some u2 := h.cell 2
  have c3 : w.cell? ⟨g, 3, none⟩ = some u3 := h.cell 3
  have f0 : w.frozen? ⟨g, 0, none⟩ = false := h.frozen 0
  have f1 : w.frozen? ⟨g, 1, none⟩ = false := h.frozen 1
  have f2 : w.frozen? ⟨g, 2, none⟩ = false := h.frozen 2
  have f3 : w.frozen? ⟨g, 3, none⟩ = false := h.frozen 3
  unfold put4
  simp [execOp, hx, hy, go_sem, c0, c1, c2, c3, f0, f1, f2, f3]

theorem load_run (x : Operand) (dst : Option Tmp) (ty : TypeId) (pos : String) (after : Array Edge) (guard : Option (Nat × Bool)) (ρ : Operand → Value) (w : World) (g : Nat) (u0 u1 u2 u3 : Value)
    (hx : ρ x = .pointer (some ⟨g, 0, none⟩)) (h : At w g 24 #[u0, u1, u2, u3]) :
    (execOp ρ ⟨dst, .load 24 x, ty, pos, after, guard⟩).run Try.prog w = .ok (.value (.agg #[u0, u1, u2, u3])) w := by
  have c0 : w.cell? ⟨g, 0, none⟩ = some u0 := h.cell 0
  have c1 : w.cell? ⟨g, 1, none⟩ = some u1 := h.cell 1
  have c2 : w.cell? ⟨g, 2, none⟩ = some u2 := h.cell 2
  have c3 : w.cell? ⟨g, 3, none⟩ = some u3 := h.cell 3
  simp [execOp, hx, go_sem, c0, c1, c2, c3]

theorem alloc_run (dst : Option Tmp) (ty : TypeId) (pos : String) (after : Array Edge) (guard : Option (Nat × Bool)) (ρ : Operand → Value) (w : World) :
    (execOp ρ ⟨dst, .alloc 24, ty, pos, after, guard⟩).run Try.prog w = .ok (.value (.pointer (some ⟨w.heap.size, 0, none⟩))) (w.alloc (.cells #[.int .u64 0, .int .u64 0, .int .u64 0, .int .u64 0] 24)) := by
  simp [execOp, go_sem]

section
variable {P : Program} {o : Oper} {a : Act} {K : Act → World → Prop} {Q : Exit → Act → World → Prop} {w w' : World}
theorem wp_of_run_value {v : Value} (h : (execOp a.eval o).run P w = .ok (.value v) w') (hK : K (a.put o.dst v) w') : Oper.wp P o a w K Q := by
  unfold Oper.wp; rw [h]; exact hK
theorem wp_of_run_skip (h : (execOp a.eval o).run P w = .ok .skip w') (hK : K (a.put o.dst undef) w') : Oper.wp P o a w K Q := by
  unfold Oper.wp; rw [h]; exact hK
theorem want_none {ops : Array Oper} {t : Array Value} {p q : Prop} (ho : o.guard = none) (h : p) : if Region.wanted o (yielded ops t) = true then p else q := by
  rw [if_pos]; exact h
  unfold Region.wanted; rw [ho]
end
theorem put4_at {w : World} {g : Nat} {t : TypeId} {a b c d : Value} (h : At w g t #[a, b, c, d]) (a' b' c' d' : Value) : At (put4 w g a' b' c' d') g t #[a', b', c', d'] := h.put4 _ _ _ _
theorem put4_far {w : World} {g g' : Nat} {t : TypeId} {cs : Array Value} (h : At w g t cs) (hne : g ≠ g') (a' b' c' d' : Value) : At (put4 w g' a' b' c' d') g t cs := h.far4 hne _ _ _ _
theorem put4_below {W w : World} {n g : Nat} (h : Below n W w) (hg : n ≤ g) (a b c d : Value) : Below n W (put4 w g a b c d) :=
  (((h.setCell hg _).setCell hg _).setCell hg _).setCell hg _
end Go.Proofs.Ytodlpmepoakdlaa

/-
  limbs.mulAdd.
-/
namespace Go.Proofs.Ytodlpmepoakdlaa
set_option maxRecDepth 100000
open Go.RowKit
set_option linter.unusedSimpArgs false
set_option linter.unusedVariables false
attribute [local go_sem ↓] Go.wp_at_zero Go.wp_at_succ

theorem mulAdd_words (x y c d P Q s1 c1 l c2 h1 h : Nat)
    (m : ∀ w, Calls Try.prog 77 #[.int .u64 x, .int .u64 y] w fun e w' => e = .returned (.tuple #[.int .u64 (P : Nat), .int .u64 (Q : Nat)]) ∧ w = w')
    (a1 : ∀ w, (callFunc 85 #[.int .u64 Q, .int .u64 c, .int .u64 0]).run Try.prog w = .ok (.value (.tuple #[.int .u64 s1, .int .u64 c1])) w)
    (a2 : ∀ w, (callFunc 85 #[.int .u64 s1, .int .u64 d, .int .u64 0]).run Try.prog w = .ok (.value (.tuple #[.int .u64 l, .int .u64 c2])) w)
    (b1 : IntKind.u64.wrap ((P : Int) + c1) = (h1 : Nat)) (b2 : IntKind.u64.wrap ((h1 : Int) + c2) = (h : Nat)) (w : World) :
    Calls Try.prog 81 #[.int .u64 x, .int .u64 y, .int .u64 c, .int .u64 d] w fun e w' => e = .returned (.tuple #[.int .u64 h, .int .u64 l]) ∧ w' = w := by
  go_enter Try.func81, Try.ntmps81
  go_wp2_with (first | simp only [a1, a2] | (refine (m _).mono ?_; rintro e w1 ⟨rfl, rfl⟩))
  go_ret2
  exact ⟨rfl, rfl⟩

/-- limbs.mulAdd -/
theorem mulAdd_ex (x y c d : Nat) (hx : x < 18446744073709551616) (hy : y < 18446744073709551616) (hc : c < 18446744073709551616) (hd : d < 18446744073709551616) :
    ∃ h l : Nat, h < 18446744073709551616 ∧ l < 18446744073709551616 ∧ x * y + c + d = l + 18446744073709551616 * h ∧
    ∀ w, Calls Try.prog 81 #[.int .u64 x, .int .u64 y, .int .u64 c, .int .u64 d] w fun e w' => e = .returned (.tuple #[.int .u64 h, .int .u64 l]) ∧ w' = w := by
  have bd : x * y ≤ 18446744073709551615 * 18446744073709551615 := Nat.mul_le_mul (by omega) (by omega)
  have M := mul64 x y hx hy
  obtain ⟨P, hP⟩ : ∃ P, P = x * y / 18446744073709551616 := ⟨_, rfl⟩
  obtain ⟨Q, hQ⟩ : ∃ Q, Q = x * y % 18446744073709551616 := ⟨_, rfl⟩
  rw [← hP, ← hQ] at M
  obtain ⟨s1, c1, l1, k1, e1, p1, q1⟩ := add_step Q c 0 (by omega) hc (by omega)
  obtain ⟨l, c2, l2, k2, e2, p2, q2⟩ := add_step s1 d 0 l1 hd (by omega)
  refine ⟨P + c1 + c2, l, ?_, l2, ?_, fun w => mulAdd_words x y c d P Q s1 c1 l c2 (P + c1) (P + c1 + c2) M (fun w => add64 _ _ 0 _ _ (by omega) p1 q1 w) (fun w => add64 _ _ 0 _ _ (by omega) p2 q2 w) ?_ ?_ w⟩
  · clear p1 q1 p2 q2; omega
  · clear p1 q1 p2 q2; omega
  · clear p1 q1 p2 q2; rw [IntKind.wrap_u64]; omega
  · clear p1 q1 p2 q2; rw [IntKind.wrap_u64]; omega
end Go.Proofs.Ytodlpmepoakdlaa

/-
  divides.hold, held.num and step: one bit more of a division.
-/
namespace Go.Proofs.Ytodlpmepoakdlaa
set_option maxRecDepth 100000
open Go.RowKit
set_option linter.unusedSimpArgs false
set_option linter.unusedVariables false
attribute [local go_sem ↓] Go.wp_at_zero Go.wp_at_succ

/-- divides.hold -/
theorem hold_any (X : Nat) (w : World) : Calls Try.prog 92 #[num X] w fun e w' => e = .returned (num X) ∧ Below w.heap.size w w' := by
  go_enter Try.func92, Try.ntmps92
  go_wp2
  exact bodyPost_ret (v := num X) (by simp [results, Try.results92, go_sem]) rfl
    ⟨rfl, by repeat (first | exact Below.refl _ _ | refine gr_alloc ?_ _ | refine Below.drew ?_ | refine gr_drewN ?_ _ | refine bel_tr ?_ (by assumption))⟩

/-- held.num -/
theorem hnum_any (X : Nat) (w : World) : Calls Try.prog 94 #[num X] w fun e w' => e = .returned (num X) ∧ Below w.heap.size w w' := by
  go_enter Try.func94, Try.ntmps94
  go_wp2
  exact bodyPost_ret (v := num X) (by simp [results, Try.results94, go_sem]) rfl
    ⟨rfl, by repeat (first | exact Below.refl _ _ | refine gr_alloc ?_ _ | refine Below.drew ?_ | refine gr_drewN ?_ _ | refine bel_tr ?_ (by assumption))⟩

end Go.Proofs.Ytodlpmepoakdlaa

/-
  A long number is equal to itself; limbs.Of(0), Of(1).
-/
namespace Go.Proofs.Ytodlpmepoakdlaa
set_option maxRecDepth 100000
open Go.RowKit
set_option linter.unusedSimpArgs false
set_option linter.unusedVariables false

theorem eqY (X : Nat) (w : World) : (Op.equalIn 10000 24 (num X) (num X)).run Try.prog w = .ok true w := by rw [eqW]; simp
end Go.Proofs.Ytodlpmepoakdlaa
