import Derived.Laws.EntriesVeiled
import Derived.Deep.DeepCutAuto
import Derived.Test.YtodlpmepoakdlaaGreatMCell
import Derived.Test.YtodlpmepoakdlaaGreatMMod1
import Derived.Test.YtodlpmepoakdlaaGreatMPowIn
import Derived.Test.YtodlpmepoakdlaaGreatMSmall
namespace Go.Proofs.YtodlpmepoakdlaaGreat
set_option maxRecDepth 100000
open Go.RowKit
set_option linter.unusedSimpArgs false
set_option linter.unusedVariables false
attribute [local go_sem ↓] Go.wp_at_zero Go.wp_at_succ

section
variable {P : Program} {ops : Array Oper} {Q : Exit → Act → World → Prop} {md : Region.Mode} {S : World → Prop} {a : Act} {W : World} {cores : List Core}
theorem run_value {f : FuncId} {fn : Func} {c : Code} (hf : P.funcs[f]? = some fn) (hname : (fn.name == "runtime.NumGoroutine") = false) (hb : fn.body = some c) (x : Operand) (xs : Array Operand) (tys : Array TypeId) (dst : Option Tmp) (ty : TypeId) (pos : String) (after : Array Edge) (gd : Option (Nat × Bool))
  (cap : Array Value) (ρ : Operand → Value) (hx : ρ x = .func (.func f) #[] cap) (w : World) :
  (execOp ρ ⟨dst, .call ⟨.value x, xs, tys⟩, ty, pos, after, gd⟩).run P w = .ok (.enter f (xs.map ρ ++ cap)) w := by
 have h := Vx hf hname hb (xs.map ρ ++ cap) w
 simp only [execOp, resolve, hx]
 simpa [Deferred.ofValue, invoke, go_sem] using h
theorem Wt (c : Core) (f : FuncId) (fn : Func) (code : Code) (x : Operand) (cap : Array Value) (xs : List Operand) (us : List Value) (tys : Array TypeId) (ty : TypeId) (pos : String) (after : Array Edge) (u : Value) (args : Array Value)
  (ho : ops[c.i]? = some ⟨some c.d, .call ⟨.value x, xs.toArray, tys⟩, ty, pos, after, none⟩) (hf : P.funcs[f]? = some fn) (hn : (fn.name == "runtime.NumGoroutine") = false) (hb : fn.body = some code)
  (hk : c.kind = Kind.val u) (hfx : Ve a cores c.pre x (.func (.func f) #[] cap)) (hx : Args a cores c.pre xs us) (hall : us.toArray ++ cap = args)
  (C : ∀ w, Below W.heap.size W w → Calls P f args w fun e w' => e = .returned u ∧ Below w.heap.size w w') : Vm P ops Q a W cores c := by
 intro vs w hl hbw hp o ho' K hK
 rw [ho] at ho'
 obtain rfl := Option.some.inj ho'
 refine Ui rfl ?_
 have hargs : xs.toArray.map (over a (cores.map (·.d)) vs).eval = us.toArray := by
  rw [List.map_toArray]
  congr 1
  clear ho C ho' hall
  induction hx with
  | nil => rfl
  | cons h _ ih => rw [List.map_cons, h vs w hl hp, ih]
 have hrun := run_value hf hn hb x xs.toArray tys (some c.d) ty pos after none cap (over a (cores.map (·.d)) vs).eval (hfx vs w hl hp) w
 rw [hargs, hall] at hrun
 unfold Oper.wp
 rw [hrun, Oper.upon_enter]
 refine (C w hbw).mono fun e w' ⟨he, hb⟩ => ?_
 subst he
 exact hK.out u w' hb (by rw [hk]; exact rfl) (fun h => by rw [hk] at h; cases h)
theorem Ur (c : Core) (op : Op) (ty : TypeId) (pos : String) (after : Array Edge) (u : Value) (x : Operand) (xv : Value)
  (ho : ops[c.i]? = some ⟨some c.d, op, ty, pos, after, none⟩) (hk : c.kind = Kind.val u) (hx : Ve a cores c.pre x xv)
  (h : ∀ (ρ : Operand → Value) (w : World), ρ x = xv → S w → (execOp ρ ⟨some c.d, op, ty, pos, after, none⟩).run P w = .ok (.value u) w) : Va P ops S a W cores c := by
 intro _
 refine ⟨by rw [hk]; rfl, fun vs w hl _ hp o ho' => ?_⟩
 rw [ho] at ho'
 obtain rfl := Option.some.inj ho'
 exact ⟨u, by rw [hk]; exact rfl, Or.inl ⟨rfl, fun w' hS => h _ w' (hx vs w hl hp) hS⟩⟩
end

structure Kept (g : Nat) (w w' : World) : Prop where
 os : w'.os = w.os
 tape : w'.tape = w.tape
 output : w'.output = w.output
 size : w.heap.size ≤ w'.heap.size
 block : ∀ k, k < w.heap.size → k ≠ g → w'.heap[k]? = w.heap[k]?
theorem Kept.ofBelow {g : Nat} {w w' : World} (h : Below w.heap.size w w') : Kept g w w' := ⟨h.os, h.tape, h.output, h.size, fun k hk _ => h.block k hk⟩
theorem Kept.trans {g : Nat} {a b c : World} (h : Kept g a b) (k : Kept g b c) : Kept g a c :=
 ⟨k.os.trans h.os, k.tape.trans h.tape, k.output.trans h.output, Nat.le_trans h.size k.size, fun i hi hg => (k.block i (Nat.lt_of_lt_of_le hi h.size) hg).trans (h.block i hi hg)⟩
theorem Kept.put4 (w : World) (g : Nat) (a b c d : Value) : Kept g w (put4 w g a b c d) := by
 have one : ∀ (w : World) (i : Nat) (v : Value), Kept g w (w.setCell ⟨g, i, none⟩ v) := fun w i v =>
  ⟨rfl, rfl, rfl, by simp [World.setCell], fun k hk hg => by simp [World.setCell, Array.getElem?_modify, Ne.symm hg]⟩
 unfold Go.Proofs.YtodlpmepoakdlaaGreat.put4
 exact (((one w 0 a).trans (one _ 1 b)).trans (one _ 2 c)).trans (one _ 3 d)
theorem At.kept {w w' : World} {g b : Nat} {t : TypeId} {cs : Array Value} (h : At w b t cs) (k : Kept g w w') (hne : b ≠ g) : At w' b t cs := (k.block b h.lt hne).trans h
theorem Below.kept {n g : Nat} {W w w' : World} (h : Below n W w) (hn : n ≤ W.heap.size) (k : Kept g w w') (hg : n ≤ g) : Below n W w' :=
 ⟨k.os.trans h.os, k.tape.trans h.tape, k.output.trans h.output, Nat.le_trans h.size k.size, fun i hi => (k.block i (Nat.lt_of_lt_of_le hi (Nat.le_trans hn h.size)) (by omega)).trans (h.block i hi)⟩
theorem At.put3 {w : World} {g : Nat} {t : TypeId} {a b c : Value} (h : At w g t #[a, b, c]) (a' b' c' : Value) : At (((w.setCell ⟨g, 0, none⟩ a').setCell ⟨g, 1, none⟩ b').setCell ⟨g, 2, none⟩ c') g t #[a', b', c'] := by
 have := ((h.set 0 a').set 1 b').set 2 c'
 simpa using this
theorem At.far3 {w : World} {g p : Nat} {t : TypeId} {cs : Array Value} (h : At w g t cs) (hne : g ≠ p) (a' b' c' : Value) : At (((w.setCell ⟨p, 0, none⟩ a').setCell ⟨p, 1, none⟩ b').setCell ⟨p, 2, none⟩ c') g t cs :=
 ((h.far (p := ⟨p, 0, none⟩) hne.symm a').far (p := ⟨p, 1, none⟩) hne.symm b').far (p := ⟨p, 2, none⟩) hne.symm c'
theorem At.put8 {w : World} {g : Nat} {t : TypeId} {a b c d e f i j : Value} (h : At w g t #[a, b, c, d, e, f, i, j]) (a' b' c' d' e' f' i' j' : Value) :
  At ((((((((w.setCell ⟨g, 0, none⟩ a').setCell ⟨g, 1, none⟩ b').setCell ⟨g, 2, none⟩ c').setCell ⟨g, 3, none⟩ d').setCell ⟨g, 4, none⟩ e').setCell ⟨g, 5, none⟩ f').setCell ⟨g, 6, none⟩ i').setCell ⟨g, 7, none⟩ j') g t #[a', b', c', d', e', f', i', j'] := by
 have := (((((((h.set 0 a').set 1 b').set 2 c').set 3 d').set 4 e').set 5 f').set 6 i').set 7 j'
 simpa using this
theorem loadF_run (dst : Option Tmp) (ty : TypeId) (pos : String) (after : Array Edge) (gd : Option (Nat × Bool)) (x : Operand) (ρ : Operand → Value) (w : World) (g k : Nat) (u : Value) (hx : ρ x = .pointer (some ⟨g, k, none⟩)) (h : w.cell? ⟨g, k, none⟩ = some u) :
  (execOp ρ ⟨dst, .load 81 x, ty, pos, after, gd⟩).run Tryz.prog w = .ok (.value u) w := by
 simp [execOp, hx, go_sem, h]
theorem Xu (dst : Option Tmp) (ty : TypeId) (pos : String) (after : Array Edge) (gd : Option (Nat × Bool)) (x : Operand) (ρ : Operand → Value) (w : World) (g k : Nat) (u : Value) (hx : ρ x = .pointer (some ⟨g, k, none⟩)) (h : w.cell? ⟨g, k, none⟩ = some u) :
  (execOp ρ ⟨dst, .load 82 x, ty, pos, after, gd⟩).run Tryz.prog w = .ok (.value u) w := by
 simp [execOp, hx, go_sem, h]
theorem Jaw (dst : Option Tmp) (ty : TypeId) (pos : String) (after : Array Edge) (gd : Option (Nat × Bool)) (x : Operand) (ρ : Operand → Value) (w : World) (g : Nat) (hx : ρ x = .pointer (some ⟨g, 0, none⟩)) :
  (execOp ρ ⟨dst, .fieldAddr 84 x 0, ty, pos, after, gd⟩).run Tryz.prog w = .ok (.value (.pointer (some ⟨g, 0, none⟩))) w := by
 simp [execOp, hx, go_sem]
def put8 (w : World) (g : Nat) (a b c d e f i j : Value) : World := ((((((((w.setCell ⟨g, 0, none⟩ a).setCell ⟨g, 1, none⟩ b).setCell ⟨g, 2, none⟩ c).setCell ⟨g, 3, none⟩ d).setCell ⟨g, 4, none⟩ e).setCell ⟨g, 5, none⟩ f).setCell ⟨g, 6, none⟩ i).setCell ⟨g, 7, none⟩ j)
section
variable {P : Program} {ops : Array Oper} {Q : Exit → Act → World → Prop} {md : Region.Mode} {S : World → Prop} {a : Act} {W : World} {cores : List Core}
end
section
variable (x : Operand) (dst : Option Tmp) (ty : TypeId) (pos : String) (after : Array Edge) (guard : Option (Nat × Bool)) (ρ : Operand → Value) (w : World) (g : Nat) (u0 u1 u2 u3 u4 u5 u6 u7 u8 : Value)
theorem Wy (hx : ρ x = .pointer (some ⟨g, 0, none⟩)) : (execOp ρ ⟨dst, .fieldAddr 29 x 0, ty, pos, after, guard⟩).run Tryz.prog w = .ok (.value (.pointer (some ⟨g, 0, none⟩))) w := by
 simp [execOp, hx, go_sem]
theorem Wn (hx : ρ x = .pointer (some ⟨g, 0, none⟩)) : (execOp ρ ⟨dst, .fieldAddr 29 x 1, ty, pos, after, guard⟩).run Tryz.prog w = .ok (.value (.pointer (some ⟨g, 4, none⟩))) w := by
 simp [execOp, hx, go_sem]
theorem Vf (hx : ρ x = .pointer (some ⟨g, 0, none⟩)) : (execOp ρ ⟨dst, .fieldAddr 29 x 2, ty, pos, after, guard⟩).run Tryz.prog w = .ok (.value (.pointer (some ⟨g, 8, none⟩))) w := by
 simp [execOp, hx, go_sem]
theorem Jas (hx : ρ x = .pointer (some ⟨g, 0, none⟩)) (h : At w g 29 #[u0, u1, u2, u3, u4, u5, u6, u7, u8]) :
  (execOp ρ ⟨dst, .load 24 x, ty, pos, after, guard⟩).run Tryz.prog w = .ok (.value (.agg #[u0, u1, u2, u3])) w := by
 have c0 : w.cell? ⟨g, 0, none⟩ = some u0 := h.cell 0
 have c1 : w.cell? ⟨g, 1, none⟩ = some u1 := h.cell 1
 have c2 : w.cell? ⟨g, 2, none⟩ = some u2 := h.cell 2
 have c3 : w.cell? ⟨g, 3, none⟩ = some u3 := h.cell 3
 simp [execOp, hx, go_sem, c0, c1, c2, c3]
theorem Jac (hx : ρ x = .pointer (some ⟨g, 4, none⟩)) (h : At w g 29 #[u0, u1, u2, u3, u4, u5, u6, u7, u8]) :
  (execOp ρ ⟨dst, .load 24 x, ty, pos, after, guard⟩).run Tryz.prog w = .ok (.value (.agg #[u4, u5, u6, u7])) w := by
 have c4 : w.cell? ⟨g, 4, none⟩ = some u4 := h.cell 4
 have c5 : w.cell? ⟨g, 5, none⟩ = some u5 := h.cell 5
 have c6 : w.cell? ⟨g, 6, none⟩ = some u6 := h.cell 6
 have c7 : w.cell? ⟨g, 7, none⟩ = some u7 := h.cell 7
 simp [execOp, hx, go_sem, c4, c5, c6, c7]
theorem We (hx : ρ x = .pointer (some ⟨g, 8, none⟩)) (h : At w g 29 #[u0, u1, u2, u3, u4, u5, u6, u7, u8]) :
  (execOp ρ ⟨dst, .load 27 x, ty, pos, after, guard⟩).run Tryz.prog w = .ok (.value u8) w := by
 have c8 : w.cell? ⟨g, 8, none⟩ = some u8 := h.cell 8
 simp [execOp, hx, go_sem, c8]
theorem loadR (hx : ρ x = .pointer (some ⟨g, 0, none⟩)) (h : At w g 29 #[u0, u1, u2, u3, u4, u5, u6, u7, u8]) :
  (execOp ρ ⟨dst, .load 29 x, ty, pos, after, guard⟩).run Tryz.prog w = .ok (.value (.agg #[u0, u1, u2, u3, u4, u5, u6, u7, u8])) w := by
 have c0 : w.cell? ⟨g, 0, none⟩ = some u0 := h.cell 0
 have c1 : w.cell? ⟨g, 1, none⟩ = some u1 := h.cell 1
 have c2 : w.cell? ⟨g, 2, none⟩ = some u2 := h.cell 2
 have c3 : w.cell? ⟨g, 3, none⟩ = some u3 := h.cell 3
 have c4 : w.cell? ⟨g, 4, none⟩ = some u4 := h.cell 4
 have c5 : w.cell? ⟨g, 5, none⟩ = some u5 := h.cell 5
 have c6 : w.cell? ⟨g, 6, none⟩ = some u6 := h.cell 6
 have c7 : w.cell? ⟨g, 7, none⟩ = some u7 := h.cell 7
 have c8 : w.cell? ⟨g, 8, none⟩ = some u8 := h.cell 8
 simp [execOp, hx, go_sem, c0, c1, c2, c3, c4, c5, c6, c7, c8]
theorem Jeb : (execOp ρ ⟨dst, .build 24 #[], ty, pos, after, guard⟩).run Tryz.prog w = .ok (.value (.agg #[.int .u64 0, .int .u64 0, .int .u64 0, .int .u64 0])) w := by
 simp [execOp, go_sem]
end
section
variable {P : Program} {ops : Array Oper} {Q : Exit → Act → World → Prop} {md : Region.Mode} {S : World → Prop} {a : Act} {W : World} {cores : List Core}
theorem Kg (c : Core) (op : Op) (ty : TypeId) (pos : String) (after : Array Edge) (gd : Option (Nat × Bool)) (u : Value) (x : Operand) (xv : Value)
  (ho : ops[c.i]? = some ⟨some c.d, op, ty, pos, after, gd⟩) (hk : c.kind = Kind.val u) (hg : Jay ops a cores c.pre gd true) (hx : Ve a cores c.pre x xv)
  (h : ∀ (ρ : Operand → Value) (w : World), ρ x = xv → S w → (execOp ρ ⟨some c.d, op, ty, pos, after, gd⟩).run P w = .ok (.value u) w) : Va P ops S a W cores c :=
 Ux c _ ty pos after gd u ho hk hg fun vs w hl hp w' hS => h _ w' (hx vs w hl hp) hS
end
section
variable {P : Program} {ops : Array Oper} {Q : Exit → Act → World → Prop} {md : Region.Mode} {S : World → Prop} {a : Act} {W : World} {cores : List Core}
theorem Us (c : Core) (f : FuncId) (fn : Func) (code : Code) (xs : List Operand) (us : List Value) (tys : Array TypeId) (ty : TypeId) (pos : String) (after : Array Edge) (gd : Option (Nat × Bool)) (u : Value)
  (ho : ops[c.i]? = some ⟨some c.d, .call ⟨.value (.func f), xs.toArray, tys⟩, ty, pos, after, gd⟩) (hf : P.funcs[f]? = some fn) (hn : (fn.name == "runtime.NumGoroutine") = false) (hb : fn.body = some code)
  (hk : c.kind = Kind.val u) (hg : Jay ops a cores c.pre gd true) (hx : Args a cores c.pre xs us)
  (C : ∀ w, Below W.heap.size W w → Calls P f us.toArray w fun e w' => e = .returned u ∧ Below w.heap.size w w') : Vm P ops Q a W cores c := by
 intro vs w hl hbw hp o ho' K hK
 rw [ho] at ho'
 obtain rfl := Option.some.inj ho'
 refine want_if (hg vs w hl hp _ rfl) ?_
 have hargs : xs.toArray.map (over a (cores.map (·.d)) vs).eval = us.toArray := by
  rw [List.map_toArray]
  congr 1
  clear ho C ho'
  induction hx with
  | nil => rfl
  | cons h _ ih => rw [List.map_cons, h vs w hl hp, ih]
 have hrun : ∀ w, (execOp (over a (cores.map (·.d)) vs).eval ⟨some c.d, .call ⟨.value (.func f), xs.toArray, tys⟩, ty, pos, after, gd⟩).run P w = .ok (.enter f us.toArray) w := fun w => by
  have h := Vx hf hn hb us.toArray w
  simp only [execOp, resolve, hargs]
  simpa [Act.eval, Deferred.ofValue, invoke, go_sem] using h
 unfold Oper.wp
 rw [hrun w, Oper.upon_enter]
 refine (C w hbw).mono fun e w' ⟨he, hb⟩ => ?_
 subst he
 exact hK.out u w' hb (by rw [hk]; exact rfl) (fun h => by rw [hk] at h; cases h)
end
end Go.Proofs.YtodlpmepoakdlaaGreat
