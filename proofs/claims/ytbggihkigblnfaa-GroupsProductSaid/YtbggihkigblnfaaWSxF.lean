/-
 Function values, arrays of them, and reasons, one rule each.
-/
import Derived.Deep.Cut
import Derived.Test.YtbggihkigblnfaaWRng
import Derived.Test.YtbggihkigblnfaaWSxR
import Derived.Test.YtbggihkigblnfaaWTree
namespace Go.Proofs.Ytbggihkigblnfaa
set_option maxRecDepth 100000
open Go.RowKit
set_option linter.unusedSimpArgs false
set_option linter.unusedVariables false
attribute [local go_sem ↓] Go.wp_at_zero Go.wp_at_succ

abbrev rcs (N Y : Nat) (s : Value) : Array Value := #[.int .u64 (wd N 0 : Nat), .int .u64 (wd N 1 : Nat), .int .u64 (wd N 2 : Nat), .int .u64 (wd N 3 : Nat), .int .u64 (wd Y 0 : Nat), .int .u64 (wd Y 1 : Nat), .int .u64 (wd Y 2 : Nat), .int .u64 (wd Y 3 : Nat), s]
theorem ex_thenE {Q : Exit → Act → World → Prop} {K : Act → World → Prop} {i : Nat} {a : Act} {w : World} (h : Q (.exit i) a w) : Exit.then K Q (.exit i) a w := h
theorem ex_blockE {Q : Exit → Act → World → Prop} {i : Nat} {a : Act} {w : World} (h : Q .normal a w) : Exit.inBlock i Q (.exit i) a w := by simp only [Exit.inBlock, if_true]; exact h
theorem ln_round {P : Program} {c : Code} {Q : Exit → Act → World → Prop} {n : Nat} {a : Act} {w : World} (h : c.wp P (Exit.then (Code.rounds P c Q n) Q) a w) : Code.rounds P c Q (n + 1) a w := h
section
variable {x y z : Operand} {dst : Option Tmp} {ty : TypeId} {pos : String} {after : Array Edge} {guard : Option (Nat × Bool)} {ρ : Operand → Value} {w : World} {g o : Nat} {P : Program}
theorem o_mk1 {f : FuncId} {u : Value} (hx : ρ x = u) : (execOp ρ ⟨dst, .makeFunc (.func f) #[] #[x], ty, pos, after, guard⟩).run P w = .ok (.value (.func (.func f) #[] #[u])) w := by simp [execOp, hx, go_sem]
theorem o_mk3 {f : FuncId} {u v t : Value} (hx : ρ x = u) (hy : ρ y = v) (hz : ρ z = t) : (execOp ρ ⟨dst, .makeFunc (.func f) #[] #[x, y, z], ty, pos, after, guard⟩).run P w = .ok (.value (.func (.func f) #[] #[u, v, t])) w := by simp [execOp, hx, hy, hz, go_sem]
theorem o_buildF6 {x0 x1 x2 x3 x4 x5 : Operand} {f0 : FuncId} {c0 : Array Value} {f1 : FuncId} {c1 : Array Value} {f2 : FuncId} {c2 : Array Value} {f3 : FuncId} {c3 : Array Value} {f4 : FuncId} {c4 : Array Value} {f5 : FuncId} {c5 : Array Value} (h0 : ρ x0 = .func (.func f0) #[] c0) (h1 : ρ x1 = .func (.func f1) #[] c1) (h2 : ρ x2 = .func (.func f2) #[] c2) (h3 : ρ x3 = .func (.func f3) #[] c3) (h4 : ρ x4 = .func (.func f4) #[] c4) (h5 : ρ x5 = .func (.func f5) #[] c5) : (execOp ρ ⟨dst, .build 87 #[(0, x0), (1, x1), (2, x2), (3, x3), (4, x4), (5, x5)], ty, pos, after, guard⟩).run Try.prog w = .ok (.value (.agg #[.func (.func f0) #[] c0, .func (.func f1) #[] c1, .func (.func f2) #[] c2, .func (.func f3) #[] c3, .func (.func f4) #[] c4, .func (.func f5) #[] c5])) w := by
 simp [execOp, h0, h1, h2, h3, h4, h5, go_sem]
theorem o_allocF : (execOp ρ ⟨dst, .alloc 87, ty, pos, after, guard⟩).run Try.prog w = .ok (.value (.pointer (some ⟨w.heap.size, 0, none⟩))) (w.alloc (.cells #[.nilFunc, .nilFunc, .nilFunc, .nilFunc, .nilFunc, .nilFunc] 87)) := by simp [execOp, go_sem]
theorem o_storeF {u0 u1 u2 u3 u4 u5 : Value} {f0 : FuncId} {c0 : Array Value} {f1 : FuncId} {c1 : Array Value} {f2 : FuncId} {c2 : Array Value} {f3 : FuncId} {c3 : Array Value} {f4 : FuncId} {c4 : Array Value} {f5 : FuncId} {c5 : Array Value} (hx : ρ x = .pointer (some ⟨g, 0, none⟩)) (hy : ρ y = .agg #[.func (.func f0) #[] c0, .func (.func f1) #[] c1, .func (.func f2) #[] c2, .func (.func f3) #[] c3, .func (.func f4) #[] c4, .func (.func f5) #[] c5]) (h : At w g 87 #[u0, u1, u2, u3, u4, u5]) : (execOp ρ ⟨dst, .store 87 x y, ty, pos, after, guard⟩).run Try.prog w = .ok .skip (puts w g 0 [.func (.func f0) #[] c0, .func (.func f1) #[] c1, .func (.func f2) #[] c2, .func (.func f3) #[] c3, .func (.func f4) #[] c4, .func (.func f5) #[] c5]) := by
 have c0 : w.cell? ⟨g, 0, none⟩ = some u0 := h.cell 0
 have k0 : w.frozen? ⟨g, 0, none⟩ = false := h.frozen 0
 have c1 : w.cell? ⟨g, 1, none⟩ = some u1 := h.cell 1
 have k1 : w.frozen? ⟨g, 1, none⟩ = false := h.frozen 1
 have c2 : w.cell? ⟨g, 2, none⟩ = some u2 := h.cell 2
 have k2 : w.frozen? ⟨g, 2, none⟩ = false := h.frozen 2
 have c3 : w.cell? ⟨g, 3, none⟩ = some u3 := h.cell 3
 have k3 : w.frozen? ⟨g, 3, none⟩ = false := h.frozen 3
 have c4 : w.cell? ⟨g, 4, none⟩ = some u4 := h.cell 4
 have k4 : w.frozen? ⟨g, 4, none⟩ = false := h.frozen 4
 have c5 : w.cell? ⟨g, 5, none⟩ = some u5 := h.cell 5
 have k5 : w.frozen? ⟨g, 5, none⟩ = false := h.frozen 5
 simp [execOp, hx, hy, go_sem, puts, c0, k0, c1, k1, c2, k2, c3, k3, c4, k4, c5, k5]
theorem o_loadF {u0 u1 u2 u3 u4 u5 : Value} (hx : ρ x = .pointer (some ⟨g, 0, none⟩)) (h : At w g 87 #[u0, u1, u2, u3, u4, u5]) : (execOp ρ ⟨dst, .load 87 x, ty, pos, after, guard⟩).run Try.prog w = .ok (.value (.agg #[u0, u1, u2, u3, u4, u5])) w := by
 have c0 : w.cell? ⟨g, 0, none⟩ = some u0 := h.cell 0
 have c1 : w.cell? ⟨g, 1, none⟩ = some u1 := h.cell 1
 have c2 : w.cell? ⟨g, 2, none⟩ = some u2 := h.cell 2
 have c3 : w.cell? ⟨g, 3, none⟩ = some u3 := h.cell 3
 have c4 : w.cell? ⟨g, 4, none⟩ = some u4 := h.cell 4
 have c5 : w.cell? ⟨g, 5, none⟩ = some u5 := h.cell 5
 simp [execOp, hx, go_sem, c0, c1, c2, c3, c4, c5]
theorem o_index {f0 : FuncId} {c0 : Array Value} {f1 : FuncId} {c1 : Array Value} {f2 : FuncId} {c2 : Array Value} {f3 : FuncId} {c3 : Array Value} {f4 : FuncId} {c4 : Array Value} {f5 : FuncId} {c5 : Array Value} {u : Value} {i : Nat} (hx : ρ x = .agg #[.func (.func f0) #[] c0, .func (.func f1) #[] c1, .func (.func f2) #[] c2, .func (.func f3) #[] c3, .func (.func f4) #[] c4, .func (.func f5) #[] c5]) (hy : ρ y = .int .i64 (i : Nat)) (hu : (#[.func (.func f0) #[] c0, .func (.func f1) #[] c1, .func (.func f2) #[] c2, .func (.func f3) #[] c3, .func (.func f4) #[] c4, .func (.func f5) #[] c5] : Array Value)[i]? = some u) : (execOp ρ ⟨dst, .index 87 x y, ty, pos, after, guard⟩).run Try.prog w = .ok (.value u) w := by
 match i, hu with
 | 0, hu => simp at hu; subst hu; simp [execOp, hx, hy, go_sem, Instr.index, part, asIntOf, isAgg]
 | 1, hu => simp at hu; subst hu; simp [execOp, hx, hy, go_sem, Instr.index, part, asIntOf, isAgg]
 | 2, hu => simp at hu; subst hu; simp [execOp, hx, hy, go_sem, Instr.index, part, asIntOf, isAgg]
 | 3, hu => simp at hu; subst hu; simp [execOp, hx, hy, go_sem, Instr.index, part, asIntOf, isAgg]
 | 4, hu => simp at hu; subst hu; simp [execOp, hx, hy, go_sem, Instr.index, part, asIntOf, isAgg]
 | 5, hu => simp at hu; subst hu; simp [execOp, hx, hy, go_sem, Instr.index, part, asIntOf, isAgg]
theorem run_callV {f : FuncId} {fn : Func} {c : Code} {a : Act} {cap : Array Value} (hf : P.funcs[f]? = some fn) (hname : (fn.name == "runtime.NumGoroutine") = false) (hb : fn.body = some c) {tys : Array TypeId} (hx : a.eval x = .func (.func f) #[] cap) (w : World) :
  (execOp a.eval ⟨dst, .call ⟨.value x, #[], tys⟩, ty, pos, after, guard⟩).run P w = .ok (.enter f cap) w := by
 have h := run_enter hf hname hb cap w
 simp only [execOp, resolve, hx]
 simpa [Deferred.ofValue, invoke, go_sem] using h
theorem o_boxR {N Y : Nat} {s : Value} {pa : Option Addr} {l cap : Nat} (hx : ρ x = rv N Y s) (hs : s = .slice pa l cap) : (execOp ρ ⟨dst, .box 27 x, ty, pos, after, guard⟩).run Try.prog w = .ok (.value (.pointer (some ⟨w.heap.size, 0, none⟩))) (w.alloc (.cells (rcs N Y s) 27)) := by subst hs; simp [execOp, hx, go_sem]
theorem o_allocR : (execOp ρ ⟨dst, .alloc 27, ty, pos, after, guard⟩).run Try.prog w = .ok (.value (.pointer (some ⟨w.heap.size, 0, none⟩))) (w.alloc (.cells (rcs 0 0 (.slice none 0 0)) 27)) := by
 have h : (execOp ρ ⟨dst, .alloc 27, ty, pos, after, guard⟩).run Try.prog w = .ok (.value (.pointer (some ⟨w.heap.size, 0, none⟩))) (w.alloc (.cells #[.int .u64 0, .int .u64 0, .int .u64 0, .int .u64 0, .int .u64 0, .int .u64 0, .int .u64 0, .int .u64 0, .slice none 0 0] 27)) := by simp [execOp, go_sem]
 exact h
theorem o_buildR {X : Nat} (hx : ρ x = num X) : (execOp ρ ⟨dst, .build 27 #[(0, x)], ty, pos, after, guard⟩).run Try.prog w = .ok (.value (rv X 0 (.slice none 0 0))) w := by
 have h : (execOp ρ ⟨dst, .build 27 #[(0, x)], ty, pos, after, guard⟩).run Try.prog w = .ok (.value (.agg #[.int .u64 (wd X 0 : Nat), .int .u64 (wd X 1 : Nat), .int .u64 (wd X 2 : Nat), .int .u64 (wd X 3 : Nat), .int .u64 0, .int .u64 0, .int .u64 0, .int .u64 0, .slice none 0 0])) w := by simp [execOp, hx, go_sem]
 exact h
theorem o_buildG {x0 x1 x2 x3 : Operand} {P Q G H : Nat} (h0 : ρ x0 = num P) (h1 : ρ x1 = num Q) (h2 : ρ x2 = num G) (h3 : ρ x3 = num H) : (execOp ρ ⟨dst, .build 35 #[(0, x0), (1, x1), (2, x2), (3, x3)], ty, pos, after, guard⟩).run Try.prog w = .ok (.value (grp P Q G H)) w := by simp [execOp, h0, h1, h2, h3, go_sem]
theorem o_fieldR0 (hx : ρ x = .pointer (some ⟨g, 0, none⟩)) : (execOp ρ ⟨dst, .fieldAddr 27 x 0, ty, pos, after, guard⟩).run Try.prog w = .ok (.value (.pointer (some ⟨g, 0, none⟩))) w := fieldR0 x _ ty pos after guard ρ w g hx
theorem o_loadR0 {N Y : Nat} {s : Value} (hx : ρ x = .pointer (some ⟨g, 0, none⟩)) (h : At w g 27 (rcs N Y s)) : (execOp ρ ⟨dst, .load 24 x, ty, pos, after, guard⟩).run Try.prog w = .ok (.value (num N)) w := loadR0 x _ ty pos after guard ρ w g _ _ _ _ _ _ _ _ _ hx h
theorem o_loadR {N Y : Nat} {s : Value} (hx : ρ x = .pointer (some ⟨g, 0, none⟩)) (h : At w g 27 (rcs N Y s)) : (execOp ρ ⟨dst, .load 27 x, ty, pos, after, guard⟩).run Try.prog w = .ok (.value (rv N Y s)) w := loadR x _ ty pos after guard ρ w g _ _ _ _ _ _ _ _ _ hx h
theorem o_storeR {N Y N1 Y1 : Nat} {s s1 : Value} {pa : Option Addr} {l cap : Nat} (hx : ρ x = .pointer (some ⟨g, 0, none⟩)) (hy : ρ y = rv N Y s) (h : At w g 27 (rcs N1 Y1 s1)) (hs : s = .slice pa l cap) : (execOp ρ ⟨dst, .store 27 x y, ty, pos, after, guard⟩).run Try.prog w = .ok .skip (puts w g 0 [.int .u64 (wd N 0 : Nat), .int .u64 (wd N 1 : Nat), .int .u64 (wd N 2 : Nat), .int .u64 (wd N 3 : Nat), .int .u64 (wd Y 0 : Nat), .int .u64 (wd Y 1 : Nat), .int .u64 (wd Y 2 : Nat), .int .u64 (wd Y 3 : Nat), s]) := by
 subst hs
 have c0 : w.cell? ⟨g, 0, none⟩ = some (.int .u64 (wd N1 0 : Nat)) := h.cell 0
 have k0 : w.frozen? ⟨g, 0, none⟩ = false := h.frozen 0
 have c1 : w.cell? ⟨g, 1, none⟩ = some (.int .u64 (wd N1 1 : Nat)) := h.cell 1
 have k1 : w.frozen? ⟨g, 1, none⟩ = false := h.frozen 1
 have c2 : w.cell? ⟨g, 2, none⟩ = some (.int .u64 (wd N1 2 : Nat)) := h.cell 2
 have k2 : w.frozen? ⟨g, 2, none⟩ = false := h.frozen 2
 have c3 : w.cell? ⟨g, 3, none⟩ = some (.int .u64 (wd N1 3 : Nat)) := h.cell 3
 have k3 : w.frozen? ⟨g, 3, none⟩ = false := h.frozen 3
 have c4 : w.cell? ⟨g, 4, none⟩ = some (.int .u64 (wd Y1 0 : Nat)) := h.cell 4
 have k4 : w.frozen? ⟨g, 4, none⟩ = false := h.frozen 4
 have c5 : w.cell? ⟨g, 5, none⟩ = some (.int .u64 (wd Y1 1 : Nat)) := h.cell 5
 have k5 : w.frozen? ⟨g, 5, none⟩ = false := h.frozen 5
 have c6 : w.cell? ⟨g, 6, none⟩ = some (.int .u64 (wd Y1 2 : Nat)) := h.cell 6
 have k6 : w.frozen? ⟨g, 6, none⟩ = false := h.frozen 6
 have c7 : w.cell? ⟨g, 7, none⟩ = some (.int .u64 (wd Y1 3 : Nat)) := h.cell 7
 have k7 : w.frozen? ⟨g, 7, none⟩ = false := h.frozen 7
 have c8 : w.cell? ⟨g, 8, none⟩ = some (s1) := h.cell 8
 have k8 : w.frozen? ⟨g, 8, none⟩ = false := h.frozen 8
 simp [execOp, hx, hy, go_sem, puts, c0, k0, c1, k1, c2, k2, c3, k3, c4, k4, c5, k5, c6, k6, c7, k7, c8, k8]
end
end Go.Proofs.Ytbggihkigblnfaa
