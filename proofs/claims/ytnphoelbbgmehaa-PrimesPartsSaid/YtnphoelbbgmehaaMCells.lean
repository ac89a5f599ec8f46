/-
  Reasons in a slice: their cells, among the operations of a region that draws its order.
-/
import Derived.Test.YtnphoelbbgmehaaMRCore2
import Derived.Test.YtnphoelbbgmehaaMWitn
namespace Go.Proofs.Ytnphoelbbgmehaa
set_option maxRecDepth 100000
open Go.RowKit
set_option linter.unusedSimpArgs false
set_option linter.unusedVariables false
attribute [local go_sem ↓] Go.wp_at_zero Go.wp_at_succ

/-- nine cells that tell a reason -/
def C9 (w : World) (g o n y : Nat) (s : Value) : Prop :=
  w.cell? ⟨g, o, none⟩ = some (.int .u64 (wd n 0 : Nat)) ∧ w.cell? ⟨g, o + 1, none⟩ = some (.int .u64 (wd n 1 : Nat)) ∧ w.cell? ⟨g, o + 2, none⟩ = some (.int .u64 (wd n 2 : Nat)) ∧ w.cell? ⟨g, o + 3, none⟩ = some (.int .u64 (wd n 3 : Nat)) ∧
  w.cell? ⟨g, o + 4, none⟩ = some (.int .u64 (wd y 0 : Nat)) ∧ w.cell? ⟨g, o + 5, none⟩ = some (.int .u64 (wd y 1 : Nat)) ∧ w.cell? ⟨g, o + 6, none⟩ = some (.int .u64 (wd y 2 : Nat)) ∧ w.cell? ⟨g, o + 7, none⟩ = some (.int .u64 (wd y 3 : Nat)) ∧ w.cell? ⟨g, o + 8, none⟩ = some s
theorem C9.on {w w' : World} {g o n y : Nat} {s : Value} (h : C9 w g o n y s) (hb : Below w.heap.size w w') : C9 w' g o n y s := by
  obtain ⟨h0, h1, h2, h3, h4, h5, h6, h7, h8⟩ := h
  exact ⟨cell_on hb h0, cell_on hb h1, cell_on hb h2, cell_on hb h3, cell_on hb h4, cell_on hb h5, cell_on hb h6, cell_on hb h7, cell_on hb h8⟩
/-- the i-th part of a slice, for all worlds that have grown -/
theorem Sl.c9 {w : World} {a : Option Addr} {cap : Nat} {ps : List Pr.Rsn} (h : Sl w a cap ps) {i : Nat} (hi : i < ps.length) : ∃ g off a' cap' q y l', a = some ⟨g, off, none⟩ ∧ (ps[i]).n = q ∧ (ps[i]).w = y ∧ (ps[i]).ps.length = l' ∧ q < 2 ^ 256 ∧ y < 2 ^ 256 ∧ Sl w a' cap' (ps[i]).ps ∧
    ∀ u, Below w.heap.size w u → C9 u g (off + i * 9) q y (.slice a' l' cap') := by
  obtain ⟨g, off, a', cap', q, y, l', ha, h1, h2, h3, h4, h5, h6, h7⟩ := h.cells hi
  exact ⟨g, off, a', cap', q, y, l', ha, h1, h2, h3, h4, h5, h6, fun u hb => C9.on h7 hb⟩
section
variable (x y : Operand) (dst : Option Tmp) (ty : TypeId) (pos : String) (after : Array Edge) (guard : Option (Nat × Bool)) (ρ : Operand → Value) (w : World) (g o : Nat)
theorem idxR (i l cap : Nat) (hi : i < l) (hx : ρ x = .slice (some ⟨g, o, none⟩) l cap) (hy : ρ y = .int .i64 (i : Nat)) :
    (execOp ρ ⟨dst, .indexAddr 26 x y, ty, pos, after, guard⟩).run Try.prog w = .ok (.value (.pointer (some ⟨g, o + i * 9, none⟩))) w := by
  have h1 : (i : Int) < (l : Int) := by omega
  simp [execOp, hx, hy, go_sem, h1]
theorem fieldC0 (hx : ρ x = .pointer (some ⟨g, o, none⟩)) : (execOp ρ ⟨dst, .fieldAddr 28 x 0, ty, pos, after, guard⟩).run Try.prog w = .ok (.value (.pointer (some ⟨g, o, none⟩))) w := by
  simp [execOp, hx, go_sem]
theorem loadC0 (n v : Nat) (s : Value) (hx : ρ x = .pointer (some ⟨g, o, none⟩)) (h : C9 w g o n v s) :
    (execOp ρ ⟨dst, .load 25 x, ty, pos, after, guard⟩).run Try.prog w = .ok (.value (num n)) w := by
  obtain ⟨h0, h1, h2, h3, h4, h5, h6, h7, h8⟩ := h
  simp [execOp, hx, go_sem, h0, h1, h2, h3]
theorem loadC (n v : Nat) (s : Value) (hx : ρ x = .pointer (some ⟨g, o, none⟩)) (h : C9 w g o n v s) :
    (execOp ρ ⟨dst, .load 28 x, ty, pos, after, guard⟩).run Try.prog w = .ok (.value (rv n v s)) w := by
  obtain ⟨h0, h1, h2, h3, h4, h5, h6, h7, h8⟩ := h
  simp [execOp, hx, go_sem, h0, h1, h2, h3, h4, h5, h6, h7, h8]
theorem lenR (a : Option Addr) (l cap : Nat) (hx : ρ x = .slice a l cap) :
    (execOp ρ ⟨dst, .call ⟨.builtin .len, #[x], #[26]⟩, ty, pos, after, guard⟩).run Try.prog w = .ok (.value (.int .i64 (l : Nat))) w := by
  simp [execOp, hx, go_sem]
end
section
variable {P : Program} {ops : Array Oper} {Q : Exit → Act → World → Prop} {md : Region.Mode} {S : World → Prop} {a : Act} {W : World} {cores : List Core}
/-- a guarded operation of two operands that may read memory of which S tells -/
theorem coreG_held2 (c : Core) (op : Op) (ty : TypeId) (pos : String) (after : Array Edge) (gd : Option (Nat × Bool)) (u : Value) (x y : Operand) (xv yv : Value)
    (ho : ops[c.i]? = some ⟨some c.d, op, ty, pos, after, gd⟩) (hk : c.kind = Kind.val u) (hg : Wants ops a cores c.pre gd true) (hx : Known a cores c.pre x xv) (hy : Known a cores c.pre y yv)
    (h : ∀ (ρ : Operand → Value) (w : World), ρ x = xv → ρ y = yv → S w → (execOp ρ ⟨some c.d, op, ty, pos, after, gd⟩).run P w = .ok (.value u) w) : PureOK P ops S a W cores c :=
  coreG_pure c _ ty pos after gd u ho hk hg fun vs w hl hp w' hS => h _ w' (hx vs w hl hp) (hy vs w hl hp) hS
end
theorem uncons {n : Nat} (vs : List Value) (h : vs.length = n + 1) : ∃ v t, vs = v :: t ∧ t.length = n := by
  cases vs with
  | nil => simp at h
  | cons v t => exact ⟨v, t, rfl, by simpa using h⟩
theorem len37 (vs : List Value) (h : vs.length = 37) : ∃ v0 v1 v2 v3 v4 v5 v6 v7 v8 v9 v10 v11 v12 v13 v14 v15 v16 v17 v18 v19 v20 v21 v22 v23 v24 v25 v26 v27 v28 v29 v30 v31 v32 v33 v34 v35 v36, vs = [v0, v1, v2, v3, v4, v5, v6, v7, v8, v9, v10, v11, v12, v13, v14, v15, v16, v17, v18, v19, v20, v21, v22, v23, v24, v25, v26, v27, v28, v29, v30, v31, v32, v33, v34, v35, v36] := by
  obtain ⟨v0, t0, e0, h0⟩ := uncons vs (n := 36) h
  obtain ⟨v1, t1, e1, h1⟩ := uncons t0 (n := 35) h0
  obtain ⟨v2, t2, e2, h2⟩ := uncons t1 (n := 34) h1
  obtain ⟨v3, t3, e3, h3⟩ := uncons t2 (n := 33) h2
  obtain ⟨v4, t4, e4, h4⟩ := uncons t3 (n := 32) h3
  obtain ⟨v5, t5, e5, h5⟩ := uncons t4 (n := 31) h4
  obtain ⟨v6, t6, e6, h6⟩ := uncons t5 (n := 30) h5
  obtain ⟨v7, t7, e7, h7⟩ := uncons t6 (n := 29) h6
  obtain ⟨v8, t8, e8, h8⟩ := uncons t7 (n := 28) h7
  obtain ⟨v9, t9, e9, h9⟩ := uncons t8 (n := 27) h8
  obtain ⟨v10, t10, e10, h10⟩ := uncons t9 (n := 26) h9
  obtain ⟨v11, t11, e11, h11⟩ := uncons t10 (n := 25) h10
  obtain ⟨v12, t12, e12, h12⟩ := uncons t11 (n := 24) h11
  obtain ⟨v13, t13, e13, h13⟩ := uncons t12 (n := 23) h12
  obtain ⟨v14, t14, e14, h14⟩ := uncons t13 (n := 22) h13
  obtain ⟨v15, t15, e15, h15⟩ := uncons t14 (n := 21) h14
  obtain ⟨v16, t16, e16, h16⟩ := uncons t15 (n := 20) h15
  obtain ⟨v17, t17, e17, h17⟩ := uncons t16 (n := 19) h16
  obtain ⟨v18, t18, e18, h18⟩ := uncons t17 (n := 18) h17
  obtain ⟨v19, t19, e19, h19⟩ := uncons t18 (n := 17) h18
  obtain ⟨v20, t20, e20, h20⟩ := uncons t19 (n := 16) h19
  obtain ⟨v21, t21, e21, h21⟩ := uncons t20 (n := 15) h20
  obtain ⟨v22, t22, e22, h22⟩ := uncons t21 (n := 14) h21
  obtain ⟨v23, t23, e23, h23⟩ := uncons t22 (n := 13) h22
  obtain ⟨v24, t24, e24, h24⟩ := uncons t23 (n := 12) h23
  obtain ⟨v25, t25, e25, h25⟩ := uncons t24 (n := 11) h24
  obtain ⟨v26, t26, e26, h26⟩ := uncons t25 (n := 10) h25
  obtain ⟨v27, t27, e27, h27⟩ := uncons t26 (n := 9) h26
  obtain ⟨v28, t28, e28, h28⟩ := uncons t27 (n := 8) h27
  obtain ⟨v29, t29, e29, h29⟩ := uncons t28 (n := 7) h28
  obtain ⟨v30, t30, e30, h30⟩ := uncons t29 (n := 6) h29
  obtain ⟨v31, t31, e31, h31⟩ := uncons t30 (n := 5) h30
  obtain ⟨v32, t32, e32, h32⟩ := uncons t31 (n := 4) h31
  obtain ⟨v33, t33, e33, h33⟩ := uncons t32 (n := 3) h32
  obtain ⟨v34, t34, e34, h34⟩ := uncons t33 (n := 2) h33
  obtain ⟨v35, t35, e35, h35⟩ := uncons t34 (n := 1) h34
  obtain ⟨v36, t36, e36, h36⟩ := uncons t35 (n := 0) h35
  obtain rfl := List.eq_nil_of_length_eq_zero h36
  exact ⟨v0, v1, v2, v3, v4, v5, v6, v7, v8, v9, v10, v11, v12, v13, v14, v15, v16, v17, v18, v19, v20, v21, v22, v23, v24, v25, v26, v27, v28, v29, v30, v31, v32, v33, v34, v35, v36, by rw [e0, e1, e2, e3, e4, e5, e6, e7, e8, e9, e10, e11, e12, e13, e14, e15, e16, e17, e18, e19, e20, e21, e22, e23, e24, e25, e26, e27, e28, e29, e30, e31, e32, e33, e34, e35, e36]⟩
end Go.Proofs.Ytnphoelbbgmehaa
