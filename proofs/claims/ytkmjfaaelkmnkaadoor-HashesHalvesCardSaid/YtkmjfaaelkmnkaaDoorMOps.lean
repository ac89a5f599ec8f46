/-
  The program's operations on words of 32 bits and their places, one law each.
-/
import Derived.Test.YtkmjfaaelkmnkaaDoorProg
import Derived.Test.YtkmjfaaelkmnkaaDoorMCore3
import Derived.Test.YtkmjfaaelkmnkaaDoorMTurn
namespace Go.Proofs.YtkmjfaaelkmnkaaDoor
open Go.RowKit
set_option linter.unusedSimpArgs false
set_option linter.unusedVariables false

theorem not_form (a : Nat) (ha : a < 4294967296) : 4294967295 ^^^ a = 4294967295 - a := by
  apply Nat.eq_of_testBit_eq
  intro i
  have h : (4294967295 - a).testBit i = (decide (i < 32) && !a.testBit i) := by
    have := Nat.testBit_two_pow_sub_succ (x := a) (n := 32) (by simpa using ha) i
    rw [← this, show 2 ^ 32 - (a + 1) = 4294967295 - a by rw [show (2 : Nat) ^ 32 = 4294967296 by decide]; omega]
  have h2 : (4294967295 : Nat).testBit i = decide (i < 32) := by
    have := Nat.testBit_two_pow_sub_one 32 i
    rwa [show (2 : Nat) ^ 32 - 1 = 4294967295 by decide] at this
  rw [Nat.testBit_xor, h, h2]
  by_cases hi : i < 32
  · simp [hi]
  · have : a.testBit i = false := Nat.testBit_lt_two_pow (Nat.lt_of_lt_of_le ha (by rw [show 4294967296 = 2 ^ 32 by decide]; exact Nat.pow_le_pow_right (by decide) (by omega)))
    simp [hi, this]
section
variable {dst : Option Tmp} {ty : TypeId} {pos : String} {after : Array Edge} {gd : Option (Nat × Bool)} {x y : Operand} {ρ : Operand → Value} {w : World}
theorem add32 (a b : Nat) (hx : ρ x = .int .u32 (a : Nat)) (hy : ρ y = .int .u32 (b : Nat)) :
    (execOp ρ ⟨dst, .binOp .add 62 x y 62, ty, pos, after, gd⟩).run Tryd.prog w = .ok (.value (.int .u32 ((a + b) % 4294967296 : Nat))) w := by
  simp [execOp, hx, hy, go_sem, IntKind.wrap_u32']
theorem xor32 (a b : Nat) (ha : a < 4294967296) (hb : b < 4294967296) (hx : ρ x = .int .u32 (a : Nat)) (hy : ρ y = .int .u32 (b : Nat)) :
    (execOp ρ ⟨dst, .binOp .xor 62 x y 62, ty, pos, after, gd⟩).run Tryd.prog w = .ok (.value (.int .u32 (a ^^^ b : Nat))) w := by
  simp [execOp, hx, hy, go_sem, u32_xor_nat a b ha hb]
theorem and32 (a b : Nat) (ha : a < 4294967296) (hb : b < 4294967296) (hx : ρ x = .int .u32 (a : Nat)) (hy : ρ y = .int .u32 (b : Nat)) :
    (execOp ρ ⟨dst, .binOp .and 62 x y 62, ty, pos, after, gd⟩).run Tryd.prog w = .ok (.value (.int .u32 (a &&& b : Nat))) w := by
  simp [execOp, hx, hy, go_sem, u32_and_nat a b ha hb]
theorem or32 (a b : Nat) (ha : a < 4294967296) (hb : b < 4294967296) (hx : ρ x = .int .u32 (a : Nat)) (hy : ρ y = .int .u32 (b : Nat)) :
    (execOp ρ ⟨dst, .binOp .or 62 x y 62, ty, pos, after, gd⟩).run Tryd.prog w = .ok (.value (.int .u32 (a ||| b : Nat))) w := by
  simp [execOp, hx, hy, go_sem, u32_or_nat a b ha hb]
theorem not32 (a : Nat) (ha : a < 4294967296) (hx : ρ x = .int .u32 (a : Nat)) :
    (execOp ρ ⟨dst, .unOp .xor 62 x, ty, pos, after, gd⟩).run Tryd.prog w = .ok (.value (.int .u32 (4294967295 - a : Nat))) w := by
  have e : bits BinOp.xor IntKind.u32 (if IntKind.u32.signed = true then -1 else IntKind.u32.max) (a : Int) = ((4294967295 - a : Nat) : Int) := by
    rw [show (if IntKind.u32.signed = true then (-1 : Int) else IntKind.u32.max) = ((4294967295 : Nat) : Int) by decide, u32_xor_nat _ _ (by decide) ha, not_form a ha]
  simp [execOp, hx, go_sem, e]
theorem shr32 (a n : Nat) (hn : n ≤ 32) (hx : ρ x = .int .u32 (a : Nat)) (hy : ρ y = .int .u64 (n : Nat)) :
    (execOp ρ ⟨dst, .binOp .shr 62 x y 86, ty, pos, after, gd⟩).run Tryd.prog w = .ok (.value (.int .u32 (a / 2 ^ n : Nat))) w := by
  have e : min n 32 = n := by omega
  simp [execOp, hx, hy, go_sem, e]
theorem shl32 (a n : Nat) (hn : n ≤ 32) (hx : ρ x = .int .u32 (a : Nat)) (hy : ρ y = .int .u64 (n : Nat)) :
    (execOp ρ ⟨dst, .binOp .shl 62 x y 86, ty, pos, after, gd⟩).run Tryd.prog w = .ok (.value (.int .u32 (a * 2 ^ n % 4294967296 : Nat))) w := by
  have e : min n 32 = n := by omega
  simp [execOp, hx, hy, go_sem, e, IntKind.wrap_u32']
theorem sub64 (a b c : Nat) (hc : c + b = a) (ha : a < 9223372036854775808) (hx : ρ x = .int .i64 (a : Nat)) (hy : ρ y = .int .i64 (b : Nat)) :
    (execOp ρ ⟨dst, .binOp .sub 3 x y 3, ty, pos, after, gd⟩).run Tryd.prog w = .ok (.value (.int .i64 (c : Nat))) w := by
  have e : IntKind.i64.wrap ((a : Int) - b) = (c : Int) := by simp [IntKind.wrap, IntKind.bits, IntKind.signed]; omega
  simp [execOp, hx, hy, go_sem, e]
theorem add64 (a b c : Nat) (hc : a + b = c) (ha : c < 9223372036854775808) (hx : ρ x = .int .i64 (a : Nat)) (hy : ρ y = .int .i64 (b : Nat)) :
    (execOp ρ ⟨dst, .binOp .add 3 x y 3, ty, pos, after, gd⟩).run Tryd.prog w = .ok (.value (.int .i64 (c : Nat))) w := by
  have e : IntKind.i64.wrap ((a : Int) + b) = (c : Int) := by simp [IntKind.wrap, IntKind.bits, IntKind.signed]; omega
  simp [execOp, hx, hy, go_sem, e]
theorem mul64 (a b c : Nat) (hc : a * b = c) (ha : c < 9223372036854775808) (hx : ρ x = .int .i64 (a : Nat)) (hy : ρ y = .int .i64 (b : Nat)) :
    (execOp ρ ⟨dst, .binOp .mul 3 x y 3, ty, pos, after, gd⟩).run Tryd.prog w = .ok (.value (.int .i64 (c : Nat))) w := by
  have e : IntKind.i64.wrap ((a : Int) * b) = (c : Int) := by rw [show (a : Int) * b = (c : Int) by rw [← hc, Int.natCast_mul]]; simp [IntKind.wrap, IntKind.bits, IntKind.signed]; omega
  simp [execOp, hx, hy, go_sem, e]
theorem at64 (g k : Nat) (hk : k < 64) (hx : ρ x = .pointer (some ⟨g, 0, none⟩)) (hy : ρ y = .int .i64 (k : Nat)) :
    (execOp ρ ⟨dst, .indexAddr 88 x y, ty, pos, after, gd⟩).run Tryd.prog w = .ok (.value (.pointer (some ⟨g, k, none⟩))) w := by
  have h1 : (k : Int) < 64 := by omega
  simp [execOp, hx, hy, go_sem, h1]
theorem at8 (g k : Nat) (hk : k < 8) (hx : ρ x = .pointer (some ⟨g, 0, none⟩)) (hy : ρ y = .int .i64 (k : Nat)) :
    (execOp ρ ⟨dst, .indexAddr 63 x y, ty, pos, after, gd⟩).run Tryd.prog w = .ok (.value (.pointer (some ⟨g, k, none⟩))) w := by
  have h1 : (k : Int) < 8 := by omega
  simp [execOp, hx, hy, go_sem, h1]
theorem atE (g k : Nat) (hk : k < 8) (hx : ρ x = .pointer (some ⟨g, 0, none⟩)) (hy : ρ y = .int .i64 (k : Nat)) :
    (execOp ρ ⟨dst, .indexAddr 64 x y, ty, pos, after, gd⟩).run Tryd.prog w = .ok (.value (.pointer (some ⟨g, k, none⟩))) w := by
  have h1 : (k : Int) < 8 := by omega
  simp [execOp, hx, hy, go_sem, h1]
theorem idx64 (k : Nat) (hk : k < 64) (xs : Array Value) (u : Value) (hu : xs[k]? = some u) (hx : ρ x = .agg xs) (hy : ρ y = .int .i64 (k : Nat)) :
    (execOp ρ ⟨dst, .index 88 x y, ty, pos, after, gd⟩).run Tryd.prog w = .ok (.value u) w := by
  have h1 : (k : Int) < 64 := by omega
  have u3 := Tryd.underlying62
  have a3 := Tryd.isAgg62
  have z3 := Tryd.sizeOf62
  simp only [execOp, hx, hy, Instr.index, asIntOf, Sem.run_bind, Sem.run_pure, Result.andThen_ok, run_underlying Tryd.underlying88]
  simp [h1, Sem.run_bind, part, a3, z3, hu, go_sem]
theorem idxE (k : Nat) (hk : k < 8) (xs : Array Value) (u : Value) (hu : xs[k]? = some u) (hx : ρ x = .agg xs) (hy : ρ y = .int .i64 (k : Nat)) :
    (execOp ρ ⟨dst, .index 64 x y, ty, pos, after, gd⟩).run Tryd.prog w = .ok (.value u) w := by
  have h1 : (k : Int) < 8 := by omega
  have u3 := Tryd.underlying62
  have a3 := Tryd.isAgg62
  have z3 := Tryd.sizeOf62
  simp only [execOp, hx, hy, Instr.index, asIntOf, Sem.run_bind, Sem.run_pure, Result.andThen_ok, run_underlying Tryd.underlying64]
  simp [h1, Sem.run_bind, part, a3, z3, hu, go_sem]
theorem atSl (g o n c k : Nat) (hk : k < n) (hx : ρ x = .slice (some ⟨g, o, none⟩) n c) (hy : ρ y = .int .i64 (k : Nat)) :
    (execOp ρ ⟨dst, .indexAddr 22 x y, ty, pos, after, gd⟩).run Tryd.prog w = .ok (.value (.pointer (some ⟨g, o + k, none⟩))) w := by
  have h1 : (k : Int) < n := by omega
  simp [execOp, hx, hy, go_sem, h1]
theorem atSw (g o n c k : Nat) (hk : k < n) (hx : ρ x = .slice (some ⟨g, o, none⟩) n c) (hy : ρ y = .int .i64 (k : Nat)) :
    (execOp ρ ⟨dst, .indexAddr 99 x y, ty, pos, after, gd⟩).run Tryd.prog w = .ok (.value (.pointer (some ⟨g, o + k, none⟩))) w := by
  have h1 : (k : Int) < n := by omega
  simp [execOp, hx, hy, go_sem, h1]
theorem load32 (g k : Nat) (u : Value) (hx : ρ x = .pointer (some ⟨g, k, none⟩)) (h : w.cell? ⟨g, k, none⟩ = some u) :
    (execOp ρ ⟨dst, .load 62 x, ty, pos, after, gd⟩).run Tryd.prog w = .ok (.value u) w := by
  simp [execOp, hx, go_sem, h]
theorem load8 (g k : Nat) (u : Value) (hx : ρ x = .pointer (some ⟨g, k, none⟩)) (h : w.cell? ⟨g, k, none⟩ = some u) :
    (execOp ρ ⟨dst, .load 5 x, ty, pos, after, gd⟩).run Tryd.prog w = .ok (.value u) w := by
  simp [execOp, hx, go_sem, h]
theorem conv32 (a : Nat) (ha : a < 256) (hx : ρ x = .int .u8 (a : Nat)) :
    (execOp ρ ⟨dst, .convert 5 62 x, ty, pos, after, gd⟩).run Tryd.prog w = .ok (.value (.int .u32 (a : Nat))) w := by
  have e : IntKind.u32.wrap (a : Int) = (a : Int) := by rw [IntKind.wrap_u32']; omega
  simp [execOp, hx, go_sem, e]
theorem store32 (g k : Nat) (n : Int) (u : Value) (hx : ρ x = .pointer (some ⟨g, k, none⟩)) (hy : ρ y = .int .u32 n) (hc : w.cell? ⟨g, k, none⟩ = some u) (hf : w.frozen? ⟨g, k, none⟩ = false) :
    (execOp ρ ⟨dst, .store 62 x y, ty, pos, after, gd⟩).run Tryd.prog w = .ok .skip (w.setCell ⟨g, k, none⟩ (.int .u32 n)) := by
  simp [execOp, hx, hy, go_sem, hc, hf]
theorem sliceB (g k : Nat) (z : Int) (hk : k < 64) (hz : z = (k : Int)) (hx : ρ x = .pointer (some ⟨g, 0, none⟩)) (hy : ρ y = .int .i64 z) :
    (execOp ρ ⟨dst, .slice 65 x (some y) none none, ty, pos, after, gd⟩).run Tryd.prog w = .ok (.value (.slice (some ⟨g, k, none⟩) (64 - k) (64 - k))) w := by
  subst hz
  have h1 : (k : Int) ≤ 64 := by omega
  have h2 : ¬ (64 : Int) < (k : Int) := by omega
  have h3 : ((64 : Int) - (k : Int)).toNat = 64 - k := by omega
  have h4 : ¬ 64 = k := by omega
  simp [execOp, hx, hy, go_sem, h1, h2, h3, h4]
theorem build2 (a b : Int) (hc : ∀ v, ρ (.const v) = v) :
    (execOp ρ ⟨dst, .buildSlice 110 2 #[(0, .const (.int .i64 a)), (1, .const (.int .i64 b))], ty, pos, after, gd⟩).run Tryd.prog w = .ok (.value (.slice (some ⟨w.heap.size, 0, none⟩) 2 2)) (w.alloc (.cells #[.int .i64 a, .int .i64 b] 3)) := by
  simp [execOp, hc, go_sem]
theorem build3 (a b c : Int) (hc : ∀ v, ρ (.const v) = v) :
    (execOp ρ ⟨dst, .buildSlice 110 3 #[(0, .const (.int .i64 a)), (1, .const (.int .i64 b)), (2, .const (.int .i64 c))], ty, pos, after, gd⟩).run Tryd.prog w = .ok (.value (.slice (some ⟨w.heap.size, 0, none⟩) 3 3)) (w.alloc (.cells #[.int .i64 a, .int .i64 b, .int .i64 c] 3)) := by
  simp [execOp, hc, go_sem]
end

/-- but for the cell q all that was there is as it was -/
def Same (W : World) (q : Addr) (w' : World) : Prop := ∀ p : Addr, p.block < W.heap.size → p ≠ q → w'.cell? p = W.cell? p
theorem Same.of {W w : World} {q : Addr} (h : Below W.heap.size W w) : Same W q w := fun _ hp _ => h.cell hp
theorem Same.drew (W : World) (q : Addr) : Same W q W.drew := fun _ _ _ => rfl
theorem Same.set {W w : World} {q : Addr} (h : Same W q w) (v : Value) : Same W q (w.setCell q v) := fun p hp hne => (World.cell?_setCell_other _ _ _ _ (fun e => hne e.symm)).trans (h p hp hne)
theorem At.rdI {w : World} {g : Nat} {t : TypeId} {cs : Array Value} (h : At w g t cs) (ns : List Nat) (e : cs = (ints ns).toArray := by rfl) : Rd w (some ⟨g, 0, none⟩) ns.length (ints ns) := by
  subst e
  refine ⟨by simp [ints], fun _ => ⟨g, 0, rfl, h.lt, fun j u hu => ?_⟩⟩
  rw [h.cell, Nat.zero_add]
  simpa using hu
theorem known_global {a : Act} {cores : List Core} {pre : List Nat} (g : Nat) : Known a cores pre (.global g) (.pointer (some ⟨g, 0, none⟩)) := fun _ _ _ _ => rfl
section
variable {ops : Array Oper} {Q : Exit → Act → World → Prop} {rest : List Oper} {a : Act} {w : World} {d : Tmp} {ty : TypeId} {pos : String} {after : Array Edge} {x y : Operand}
theorem law_idx64 (k : Nat) (hk : k < 64) (xs : Array Value) (u : Value) (hu : xs[k]? = some u) (hx : a.eval x = .agg xs) (hy : a.eval y = .int .i64 (k : Nat))
    (h : wpList Tryd.prog ops Q rest (a.put (some d) u) w) : wpList Tryd.prog ops Q (⟨some d, .index 88 x y, ty, pos, after, none⟩ :: rest) a w :=
  law_value rfl (idx64 k hk xs u hu hx hy) h
theorem law_idxE (k : Nat) (hk : k < 8) (xs : Array Value) (u : Value) (hu : xs[k]? = some u) (hx : a.eval x = .agg xs) (hy : a.eval y = .int .i64 (k : Nat))
    (h : wpList Tryd.prog ops Q rest (a.put (some d) u) w) : wpList Tryd.prog ops Q (⟨some d, .index 64 x y, ty, pos, after, none⟩ :: rest) a w :=
  law_value rfl (idxE k hk xs u hu hx hy) h
theorem law_sliceB (g k : Nat) (z : Int) (hk : k < 64) (hx : a.eval x = .pointer (some ⟨g, 0, none⟩)) (hy : a.eval y = .int .i64 z) (hz : z = (k : Int))
    (h : wpList Tryd.prog ops Q rest (a.put (some d) (.slice (some ⟨g, k, none⟩) (64 - k) (64 - k))) w) : wpList Tryd.prog ops Q (⟨some d, .slice 65 x (some y) none none, ty, pos, after, none⟩ :: rest) a w :=
  law_value rfl (sliceB g k z hk hz hx hy) h
end
theorem inst64 (k : Nat) (hk : k < 64) (xs : Array Value) (u : Value) (hu : xs[k]? = some u) (w : World) : (Instr.index 88 (.agg xs) (.int .i64 (k : Nat))).run Tryd.prog w = .ok u w := by
  have h1 : (k : Int) < 64 := by omega
  have u3 := Tryd.underlying62
  have a3 := Tryd.isAgg62
  have z3 := Tryd.sizeOf62
  simp only [Instr.index, asIntOf, Sem.run_bind, Sem.run_pure, Result.andThen_ok, run_underlying Tryd.underlying88]
  simp [h1, Sem.run_bind, part, a3, z3, hu, go_sem]
theorem instE (k : Nat) (hk : k < 8) (xs : Array Value) (u : Value) (hu : xs[k]? = some u) (w : World) : (Instr.index 64 (.agg xs) (.int .i64 (k : Nat))).run Tryd.prog w = .ok u w := by
  have h1 : (k : Int) < 8 := by omega
  have u3 := Tryd.underlying62
  have a3 := Tryd.isAgg62
  have z3 := Tryd.sizeOf62
  simp only [Instr.index, asIntOf, Sem.run_bind, Sem.run_pure, Result.andThen_ok, run_underlying Tryd.underlying64]
  simp [h1, Sem.run_bind, part, a3, z3, hu, go_sem]
end Go.Proofs.YtkmjfaaelkmnkaaDoor
