/-
  Lists of a known length, opened. Nothing here speaks of the program.
-/
import Derived.Laws.BitsAllLaws
import Derived.Test.YtfjploahkodekaaMBehind
import Derived.Test.YtfjploahkodekaaMChain
import Derived.Test.YtfjploahkodekaaMSet
namespace Go.Proofs.Ytfjploahkodekaa
set_option maxRecDepth 100000
set_option linter.unusedSimpArgs false
set_option linter.unusedVariables false
theorem len15 (vs : List Value) (h : vs.length = 15) : ∃ v0 v1 v2 v3 v4 v5 v6 v7 v8 v9 v10 v11 v12 v13 v14, vs = [v0, v1, v2, v3, v4, v5, v6, v7, v8, v9, v10, v11, v12, v13, v14] := by
  match vs, h with
  | [v0, v1, v2, v3, v4, v5, v6, v7, v8, v9, v10, v11, v12, v13, v14], _ => exact ⟨v0, v1, v2, v3, v4, v5, v6, v7, v8, v9, v10, v11, v12, v13, v14, rfl⟩
theorem len16 (vs : List Value) (h : vs.length = 16) : ∃ v0 v1 v2 v3 v4 v5 v6 v7 v8 v9 v10 v11 v12 v13 v14 v15, vs = [v0, v1, v2, v3, v4, v5, v6, v7, v8, v9, v10, v11, v12, v13, v14, v15] := by
  match vs, h with
  | [v0, v1, v2, v3, v4, v5, v6, v7, v8, v9, v10, v11, v12, v13, v14, v15], _ => exact ⟨v0, v1, v2, v3, v4, v5, v6, v7, v8, v9, v10, v11, v12, v13, v14, v15, rfl⟩
theorem len17 (vs : List Value) (h : vs.length = 17) : ∃ v0 v1 v2 v3 v4 v5 v6 v7 v8 v9 v10 v11 v12 v13 v14 v15 v16, vs = [v0, v1, v2, v3, v4, v5, v6, v7, v8, v9, v10, v11, v12, v13, v14, v15, v16] := by
  match vs, h with
  | [v0, v1, v2, v3, v4, v5, v6, v7, v8, v9, v10, v11, v12, v13, v14, v15, v16], _ => exact ⟨v0, v1, v2, v3, v4, v5, v6, v7, v8, v9, v10, v11, v12, v13, v14, v15, v16, rfl⟩
theorem len18 (vs : List Value) (h : vs.length = 18) : ∃ v0 v1 v2 v3 v4 v5 v6 v7 v8 v9 v10 v11 v12 v13 v14 v15 v16 v17, vs = [v0, v1, v2, v3, v4, v5, v6, v7, v8, v9, v10, v11, v12, v13, v14, v15, v16, v17] := by
  match vs, h with
  | [v0, v1, v2, v3, v4, v5, v6, v7, v8, v9, v10, v11, v12, v13, v14, v15, v16, v17], _ => exact ⟨v0, v1, v2, v3, v4, v5, v6, v7, v8, v9, v10, v11, v12, v13, v14, v15, v16, v17, rfl⟩
theorem len19 (vs : List Value) (h : vs.length = 19) : ∃ v0 v1 v2 v3 v4 v5 v6 v7 v8 v9 v10 v11 v12 v13 v14 v15 v16 v17 v18, vs = [v0, v1, v2, v3, v4, v5, v6, v7, v8, v9, v10, v11, v12, v13, v14, v15, v16, v17, v18] := by
  match vs, h with
  | [v0, v1, v2, v3, v4, v5, v6, v7, v8, v9, v10, v11, v12, v13, v14, v15, v16, v17, v18], _ => exact ⟨v0, v1, v2, v3, v4, v5, v6, v7, v8, v9, v10, v11, v12, v13, v14, v15, v16, v17, v18, rfl⟩
theorem len20 (vs : List Value) (h : vs.length = 20) : ∃ v0 v1 v2 v3 v4 v5 v6 v7 v8 v9 v10 v11 v12 v13 v14 v15 v16 v17 v18 v19, vs = [v0, v1, v2, v3, v4, v5, v6, v7, v8, v9, v10, v11, v12, v13, v14, v15, v16, v17, v18, v19] := by
  match vs, h with
  | [v0, v1, v2, v3, v4, v5, v6, v7, v8, v9, v10, v11, v12, v13, v14, v15, v16, v17, v18, v19], _ => exact ⟨v0, v1, v2, v3, v4, v5, v6, v7, v8, v9, v10, v11, v12, v13, v14, v15, v16, v17, v18, v19, rfl⟩
theorem len21 (vs : List Value) (h : vs.length = 21) : ∃ v0 v1 v2 v3 v4 v5 v6 v7 v8 v9 v10 v11 v12 v13 v14 v15 v16 v17 v18 v19 v20, vs = [v0, v1, v2, v3, v4, v5, v6, v7, v8, v9, v10, v11, v12, v13, v14, v15, v16, v17, v18, v19, v20] := by
  match vs, h with
  | [v0, v1, v2, v3, v4, v5, v6, v7, v8, v9, v10, v11, v12, v13, v14, v15, v16, v17, v18, v19, v20], _ => exact ⟨v0, v1, v2, v3, v4, v5, v6, v7, v8, v9, v10, v11, v12, v13, v14, v15, v16, v17, v18, v19, v20, rfl⟩
theorem len22 (vs : List Value) (h : vs.length = 22) : ∃ v0 v1 v2 v3 v4 v5 v6 v7 v8 v9 v10 v11 v12 v13 v14 v15 v16 v17 v18 v19 v20 v21, vs = [v0, v1, v2, v3, v4, v5, v6, v7, v8, v9, v10, v11, v12, v13, v14, v15, v16, v17, v18, v19, v20, v21] := by
  match vs, h with
  | [v0, v1, v2, v3, v4, v5, v6, v7, v8, v9, v10, v11, v12, v13, v14, v15, v16, v17, v18, v19, v20, v21], _ => exact ⟨v0, v1, v2, v3, v4, v5, v6, v7, v8, v9, v10, v11, v12, v13, v14, v15, v16, v17, v18, v19, v20, v21, rfl⟩
theorem len23 (vs : List Value) (h : vs.length = 23) : ∃ v0 v1 v2 v3 v4 v5 v6 v7 v8 v9 v10 v11 v12 v13 v14 v15 v16 v17 v18 v19 v20 v21 v22, vs = [v0, v1, v2, v3, v4, v5, v6, v7, v8, v9, v10, v11, v12, v13, v14, v15, v16, v17, v18, v19, v20, v21, v22] := by
  match vs, h with
  | [v0, v1, v2, v3, v4, v5, v6, v7, v8, v9, v10, v11, v12, v13, v14, v15, v16, v17, v18, v19, v20, v21, v22], _ => exact ⟨v0, v1, v2, v3, v4, v5, v6, v7, v8, v9, v10, v11, v12, v13, v14, v15, v16, v17, v18, v19, v20, v21, v22, rfl⟩
theorem len24 (vs : List Value) (h : vs.length = 24) : ∃ v0 v1 v2 v3 v4 v5 v6 v7 v8 v9 v10 v11 v12 v13 v14 v15 v16 v17 v18 v19 v20 v21 v22 v23, vs = [v0, v1, v2, v3, v4, v5, v6, v7, v8, v9, v10, v11, v12, v13, v14, v15, v16, v17, v18, v19, v20, v21, v22, v23] := by
  match vs, h with
  | [v0, v1, v2, v3, v4, v5, v6, v7, v8, v9, v10, v11, v12, v13, v14, v15, v16, v17, v18, v19, v20, v21, v22, v23], _ => exact ⟨v0, v1, v2, v3, v4, v5, v6, v7, v8, v9, v10, v11, v12, v13, v14, v15, v16, v17, v18, v19, v20, v21, v22, v23, rfl⟩
theorem len25 (vs : List Value) (h : vs.length = 25) : ∃ v0 v1 v2 v3 v4 v5 v6 v7 v8 v9 v10 v11 v12 v13 v14 v15 v16 v17 v18 v19 v20 v21 v22 v23 v24, vs = [v0, v1, v2, v3, v4, v5, v6, v7, v8, v9, v10, v11, v12, v13, v14, v15, v16, v17, v18, v19, v20, v21, v22, v23, v24] := by
  match vs, h with
  | [v0, v1, v2, v3, v4, v5, v6, v7, v8, v9, v10, v11, v12, v13, v14, v15, v16, v17, v18, v19, v20, v21, v22, v23, v24], _ => exact ⟨v0, v1, v2, v3, v4, v5, v6, v7, v8, v9, v10, v11, v12, v13, v14, v15, v16, v17, v18, v19, v20, v21, v22, v23, v24, rfl⟩
theorem len26 (vs : List Value) (h : vs.length = 26) : ∃ v0 v1 v2 v3 v4 v5 v6 v7 v8 v9 v10 v11 v12 v13 v14 v15 v16 v17 v18 v19 v20 v21 v22 v23 v24 v25, vs = [v0, v1, v2, v3, v4, v5, v6, v7, v8, v9, v10, v11, v12, v13, v14, v15, v16, v17, v18, v19, v20, v21, v22, v23, v24, v25] := by
  match vs, h with
  | [v0, v1, v2, v3, v4, v5, v6, v7, v8, v9, v10, v11, v12, v13, v14, v15, v16, v17, v18, v19, v20, v21, v22, v23, v24, v25], _ => exact ⟨v0, v1, v2, v3, v4, v5, v6, v7, v8, v9, v10, v11, v12, v13, v14, v15, v16, v17, v18, v19, v20, v21, v22, v23, v24, v25, rfl⟩
theorem len27 (vs : List Value) (h : vs.length = 27) : ∃ v0 v1 v2 v3 v4 v5 v6 v7 v8 v9 v10 v11 v12 v13 v14 v15 v16 v17 v18 v19 v20 v21 v22 v23 v24 v25 v26, vs = [v0, v1, v2, v3, v4, v5, v6, v7, v8, v9, v10, v11, v12, v13, v14, v15, v16, v17, v18, v19, v20, v21, v22, v23, v24, v25, v26] := by
  match vs, h with
  | [v0, v1, v2, v3, v4, v5, v6, v7, v8, v9, v10, v11, v12, v13, v14, v15, v16, v17, v18, v19, v20, v21, v22, v23, v24, v25, v26], _ => exact ⟨v0, v1, v2, v3, v4, v5, v6, v7, v8, v9, v10, v11, v12, v13, v14, v15, v16, v17, v18, v19, v20, v21, v22, v23, v24, v25, v26, rfl⟩
theorem len28 (vs : List Value) (h : vs.length = 28) : ∃ v0 v1 v2 v3 v4 v5 v6 v7 v8 v9 v10 v11 v12 v13 v14 v15 v16 v17 v18 v19 v20 v21 v22 v23 v24 v25 v26 v27, vs = [v0, v1, v2, v3, v4, v5, v6, v7, v8, v9, v10, v11, v12, v13, v14, v15, v16, v17, v18, v19, v20, v21, v22, v23, v24, v25, v26, v27] := by
  match vs, h with
  | [v0, v1, v2, v3, v4, v5, v6, v7, v8, v9, v10, v11, v12, v13, v14, v15, v16, v17, v18, v19, v20, v21, v22, v23, v24, v25, v26, v27], _ => exact ⟨v0, v1, v2, v3, v4, v5, v6, v7, v8, v9, v10, v11, v12, v13, v14, v15, v16, v17, v18, v19, v20, v21, v22, v23, v24, v25, v26, v27, rfl⟩
theorem len29 (vs : List Value) (h : vs.length = 29) : ∃ v0 v1 v2 v3 v4 v5 v6 v7 v8 v9 v10 v11 v12 v13 v14 v15 v16 v17 v18 v19 v20 v21 v22 v23 v24 v25 v26 v27 v28, vs = [v0, v1, v2, v3, v4, v5, v6, v7, v8, v9, v10, v11, v12, v13, v14, v15, v16, v17, v18, v19, v20, v21, v22, v23, v24, v25, v26, v27, v28] := by
  match vs, h with
  | [v0, v1, v2, v3, v4, v5, v6, v7, v8, v9, v10, v11, v12, v13, v14, v15, v16, v17, v18, v19, v20, v21, v22, v23, v24, v25, v26, v27, v28], _ => exact ⟨v0, v1, v2, v3, v4, v5, v6, v7, v8, v9, v10, v11, v12, v13, v14, v15, v16, v17, v18, v19, v20, v21, v22, v23, v24, v25, v26, v27, v28, rfl⟩
end Go.Proofs.Ytfjploahkodekaa

/-
  One cell of a long number among the operations of a region that draws its order: read, written; arithmetic of words.
-/
namespace Go.Proofs.Ytfjploahkodekaa
set_option maxRecDepth 100000
open Go.RowKit
set_option linter.unusedSimpArgs false
set_option linter.unusedVariables false

theorem store64_run (dst : Option Tmp) (ty : TypeId) (pos : String) (after : Array Edge) (gd : Option (Nat × Bool)) (x y : Operand) (ρ : Operand → Value) (w : World) (g k : Nat) (n : Int) (u : Value)
    (hx : ρ x = .pointer (some ⟨g, k, none⟩)) (hy : ρ y = .int .u64 n) (hc : w.cell? ⟨g, k, none⟩ = some u) (hf : w.frozen? ⟨g, k, none⟩ = false) :
    (execOp ρ ⟨dst, .store 22 x y, ty, pos, after, gd⟩).run Try.prog w = .ok .skip (w.setCell ⟨g, k, none⟩ (.int .u64 n)) := by
  simp [execOp, hx, hy, go_sem, hc, hf]
section
variable {P : Program} {ops : Array Oper} {Q : Exit → Act → World → Prop} {md : Region.Mode} {S : World → Prop} {a : Act} {W : World} {cores : List Core}
/-- a store of one word behind all -/
theorem store_word {fuel i : Nat} {listed : Array Bool} {b : Act} {w : World} (x y : Operand) (ty : TypeId) (pos : String) (after : Array Edge) (g k : Nat) (n : Int) (u : Value)
    (hr : Region.ready md ops listed = [i]) (ho : ops[i]? = some ⟨none, .store 22 x y, ty, pos, after, none⟩) (hx : b.eval x = .pointer (some ⟨g, k, none⟩)) (hy : b.eval y = .int .u64 n)
    (hl : g < w.heap.size) (hc : w.cell? ⟨g, k, none⟩ = some u) (hf : w.frozen? ⟨g, k, none⟩ = false) (hS : S (w.setCell ⟨g, k, none⟩ (.int .u64 n)))
    (h : wpAnyH Try.prog md ops Q S fuel (listed.setIfInBounds i true) b (w.setCell ⟨g, k, none⟩ (.int .u64 n))) : wpAnyH Try.prog md ops Q S (fuel + 1) listed b w := by
  exact wpAnyH_one hr ho fun K hK => want_none rfl (wp_of_run_skip (store64_run _ _ _ _ _ _ _ _ _ _ _ _ _ hx hy hc hf) (hK.out _ _ hS h))
/-- an operation that reads memory of which S tells -/
theorem core_heldC (c : Core) (op : Op) (ty : TypeId) (pos : String) (after : Array Edge) (u : Value) (x : Operand) (xv : Value)
    (ho : ops[c.i]? = some ⟨some c.d, op, ty, pos, after, none⟩) (hk : c.kind = Kind.val u) (hx : Known a cores c.pre x xv)
    (h : ∀ (ρ : Operand → Value) (w : World), ρ x = xv → S w → (execOp ρ ⟨some c.d, op, ty, pos, after, none⟩).run P w = .ok (.value u) w) : PureOK P ops S a W cores c := by
  intro _
  refine ⟨by rw [hk]; rfl, fun vs w hl _ hp o ho' => ?_⟩
  rw [ho] at ho'
  obtain rfl := Option.some.inj ho'
  exact ⟨u, by rw [hk]; exact rfl, Or.inl ⟨rfl, fun w' hS => h _ w' (hx vs w hl hp) hS⟩⟩
/-- an operation of two operands that reads memory of which S tells -/
theorem core_held2C (c : Core) (op : Op) (ty : TypeId) (pos : String) (after : Array Edge) (u : Value) (x y : Operand) (xv yv : Value)
    (ho : ops[c.i]? = some ⟨some c.d, op, ty, pos, after, none⟩) (hk : c.kind = Kind.val u) (hx : Known a cores c.pre x xv) (hy : Known a cores c.pre y yv)
    (h : ∀ (ρ : Operand → Value) (w : World), ρ x = xv → ρ y = yv → S w → (execOp ρ ⟨some c.d, op, ty, pos, after, none⟩).run P w = .ok (.value u) w) : PureOK P ops S a W cores c := by
  intro _
  refine ⟨by rw [hk]; rfl, fun vs w hl _ hp o ho' => ?_⟩
  rw [ho] at ho'
  obtain rfl := Option.some.inj ho'
  exact ⟨u, by rw [hk]; exact rfl, Or.inl ⟨rfl, fun w' hS => h _ w' (hx vs w hl hp) (hy vs w hl hp) hS⟩⟩
/-- an operation that reads memory that others may write in the end -/
theorem core_step (c : Core) (op : Op) (ty : TypeId) (pos : String) (after : Array Edge) (u : Value) (x : Operand) (xv : Value)
    (ho : ops[c.i]? = some ⟨some c.d, op, ty, pos, after, none⟩) (hk : c.kind = Kind.val u) (hx : Known a cores c.pre x xv)
    (h : ∀ (ρ : Operand → Value) (w : World), ρ x = xv → Below W.heap.size W w → (execOp ρ ⟨some c.d, op, ty, pos, after, none⟩).run P w = .ok (.value u) w) : StepOK P ops Q a W cores c := by
  intro vs w hl hb hp o ho' K hK
  rw [ho] at ho'
  obtain rfl := Option.some.inj ho'
  refine want_none rfl (wp_of_run_value (h _ w (hx vs w hl hp) hb) ?_)
  exact hK.out _ w (Below.refl _ _) (by rw [hk]; exact rfl) (fun h => by rw [hk] at h; cases h)
end
section
variable (dst : Option Tmp) (ty : TypeId) (pos : String) (after : Array Edge) (gd : Option (Nat × Bool)) (x y : Operand) (ρ : Operand → Value) (w : World)
theorem load64_run (g k : Nat) (u : Value) (hx : ρ x = .pointer (some ⟨g, k, none⟩)) (h : w.cell? ⟨g, k, none⟩ = some u) :
    (execOp ρ ⟨dst, .load 22 x, ty, pos, after, gd⟩).run Try.prog w = .ok (.value u) w := by
  simp [execOp, hx, go_sem, h]
theorem index_run (g k : Nat) (hk : k < 4) (hx : ρ x = .pointer (some ⟨g, 0, none⟩)) (hy : ρ y = .int .i64 (k : Nat)) :
    (execOp ρ ⟨dst, .indexAddr 24 x y, ty, pos, after, gd⟩).run Try.prog w = .ok (.value (.pointer (some ⟨g, k, none⟩))) w := by
  have h1 : (k : Int) < 4 := by omega
  have h0 : (0 : Int) ≤ (k : Int) := by omega
  simp [execOp, hx, hy, go_sem, h1, h0, hk]
theorem quo64_run (a b q : Nat) (hb : b ≠ 0) (hq : q = a / b) (hl : q < 18446744073709551616) (hx : ρ x = .int .u64 (a : Nat)) (hy : ρ y = .int .u64 (b : Nat)) :
    (execOp ρ ⟨dst, .binOp BinOp.quo 22 x y 22, ty, pos, after, gd⟩).run Try.prog w = .ok (.value (.int .u64 (q : Nat))) w := by
  have hb0 : (b : Int) ≠ 0 := by omega
  have e : Int.tdiv (a : Int) (b : Int) = (q : Nat) := by rw [hq, Int.tdiv_eq_ediv_of_nonneg (by omega)]; exact (Int.natCast_ediv _ _).symm
  have e2 : (a : Int) / (b : Int) = (q : Nat) := by rw [hq]; exact (Int.natCast_ediv _ _).symm
  have e3 : IntKind.u64.wrap (q : Int) = (q : Nat) := by rw [IntKind.wrap_u64]; omega
  simp [execOp, hx, hy, go_sem, hb, hb0, e, e2, e3]
theorem rem64_run (a b q : Nat) (hb : b ≠ 0) (hq : q = a % b) (hl : q < 18446744073709551616) (hx : ρ x = .int .u64 (a : Nat)) (hy : ρ y = .int .u64 (b : Nat)) :
    (execOp ρ ⟨dst, .binOp BinOp.rem 22 x y 22, ty, pos, after, gd⟩).run Try.prog w = .ok (.value (.int .u64 (q : Nat))) w := by
  have hb0 : (b : Int) ≠ 0 := by omega
  have e : Int.tmod (a : Int) (b : Int) = (q : Nat) := by rw [hq, Int.tmod_eq_emod_of_nonneg (by omega)]; exact (Int.natCast_emod _ _).symm
  have e2 : (a : Int) % (b : Int) = (q : Nat) := by rw [hq]; exact (Int.natCast_emod _ _).symm
  have e3 : IntKind.u64.wrap (q : Int) = (q : Nat) := by rw [IntKind.wrap_u64]; omega
  simp [execOp, hx, hy, go_sem, hb, hb0, e, e2, e3]
theorem quoI_run (p k : Nat) (hk : k = p / 64) (hp : p < 256) (hx : ρ x = .int .i64 (p : Nat)) (hy : ρ y = .int .i64 64) :
    (execOp ρ ⟨dst, .binOp BinOp.quo 3 x y 3, ty, pos, after, gd⟩).run Try.prog w = .ok (.value (.int .i64 (k : Nat))) w := by
  have e : Int.tdiv (p : Int) 64 = (k : Nat) := by rw [Int.tdiv_eq_ediv_of_nonneg (by omega)]; omega
  have e2 : (p : Int) / 64 = (k : Nat) := by omega
  have e3 : IntKind.i64.wrap (k : Int) = (k : Nat) := by rw [IntKind.wrap_i64]; omega
  simp [execOp, hx, hy, go_sem, e, e2, e3]
theorem remI_run (p j : Nat) (hj : j = p % 64) (hp : p < 256) (hx : ρ x = .int .i64 (p : Nat)) (hy : ρ y = .int .i64 64) :
    (execOp ρ ⟨dst, .binOp BinOp.rem 3 x y 3, ty, pos, after, gd⟩).run Try.prog w = .ok (.value (.int .i64 (j : Nat))) w := by
  have e : Int.tmod (p : Int) 64 = (j : Nat) := by rw [Int.tmod_eq_emod_of_nonneg (by omega)]; omega
  have e2 : (p : Int) % 64 = (j : Nat) := by omega
  have e3 : IntKind.i64.wrap (j : Int) = (j : Nat) := by rw [IntKind.wrap_i64]; omega
  simp [execOp, hx, hy, go_sem, e, e2, e3]
theorem shlI_run (j t : Nat) (hj : j < 64) (ht : t = 2 ^ j) (hx : ρ x = .int .u64 1) (hy : ρ y = .int .i64 (j : Nat)) :
    (execOp ρ ⟨dst, .binOp BinOp.shl 22 x y 3, ty, pos, after, gd⟩).run Try.prog w = .ok (.value (.int .u64 (t : Nat))) w := by
  have h0 : ¬ (j : Int) < 0 := by omega
  have h1 : (0 : Int) ≤ (j : Int) := by omega
  have h64 : (j : Int) < 64 := by omega
  have tl : t < 18446744073709551616 := by
    rw [ht]
    have : (2 : Nat) ^ j ≤ 2 ^ 63 := Nat.pow_le_pow_right (by decide) (by omega)
    omega
  have e : ((2 : Int) ^ j) = (t : Nat) := by rw [ht]; simp
  have e3 : IntKind.u64.wrap (t : Int) = (t : Nat) := by rw [IntKind.wrap_u64]; omega
  simp [execOp, hx, hy, go_sem, h0, h1, h64, hj, e, e3]
theorem addU_run (a b r : Nat) (h : a + b = r) (hl : r < 18446744073709551616) (hx : ρ x = .int .u64 (a : Nat)) (hy : ρ y = .int .u64 (b : Nat)) :
    (execOp ρ ⟨dst, .binOp BinOp.add 22 x y 22, ty, pos, after, gd⟩).run Try.prog w = .ok (.value (.int .u64 (r : Nat))) w := by
  have e : (a : Int) + (b : Int) = (r : Nat) := by omega
  have e3 : IntKind.u64.wrap (r : Int) = (r : Nat) := by rw [IntKind.wrap_u64]; omega
  simp [execOp, hx, hy, go_sem, e, e3]
end
theorem At.word {w : World} {g X k : Nat} {t : TypeId} (hk : k < 4) (h : At w g t #[.int .u64 (wd X 0 : Nat), .int .u64 (wd X 1 : Nat), .int .u64 (wd X 2 : Nat), .int .u64 (wd X 3 : Nat)]) : w.cell? ⟨g, k, none⟩ = some (.int .u64 (wd X k : Nat)) := by
  rw [h.cell k]
  match k, hk with
  | 0, _ => rfl
  | 1, _ => rfl
  | 2, _ => rfl
  | 3, _ => rfl
/-- a bit above which all is set already -/
theorem add_in (Q p k j : Nat) (hp : p < 256) (hk : k = p / 64) (hj : j = p % 64) : wd (Q * 2 ^ (p + 1)) k + 2 ^ j = wd ((2 * Q + 1) * 2 ^ p) k ∧ ∀ i, i ≠ k → wd ((2 * Q + 1) * 2 ^ p) i = wd (Q * 2 ^ (p + 1)) i := by
  obtain ⟨b1, b2, b3⟩ := bit_in Q p 1 (Nat.le_refl _) k j hk hj
  refine ⟨?_, b3⟩
  rw [Nat.one_mul] at b1
  rw [← b1]
  refine (nat_join (j + 1) _ _ ?_ (by rw [Nat.pow_succ]; have := Nat.two_pow_pos j; omega)).symm
  have e : Q * 2 ^ (p + 1) = 18446744073709551616 ^ k * (Q * 2 ^ (j + 1)) := by
    rw [B_pow, show p + 1 = 64 * k + (j + 1) by omega, Nat.pow_add]; ac_rfl
  unfold wd
  rw [e, Nat.mul_div_cancel_left _ (Nat.pow_pos (by decide))]
  have dv : (2 : Nat) ^ (j + 1) ∣ 18446744073709551616 := by
    rw [show (18446744073709551616 : Nat) = 2 ^ 64 from rfl]; exact Nat.pow_dvd_pow 2 (by omega)
  rw [Nat.mod_mod_of_dvd _ dv, Nat.mul_mod_left]
end Go.Proofs.Ytfjploahkodekaa
