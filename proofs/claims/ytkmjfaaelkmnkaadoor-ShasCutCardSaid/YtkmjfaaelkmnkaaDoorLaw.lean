/-
  Blocks made, read and written whole, as a walk meets them; the world behind each has a letter of its own. Nothing here speaks of the program.
-/
import Derived.Test.YtkmjfaaelkmnkaaDoorSha
import Derived.Test.YtkmjfaaelkmnkaaDoorSet
namespace Go.Proofs.YtkmjfaaelkmnkaaDoor
open Go.RowKit
set_option linter.unusedSimpArgs false
set_option linter.unusedVariables false

theorem put_list : ∀ (vs l : List Value) (o : Nat), o + vs.length ≤ l.length → put l.toArray o vs = (l.take o ++ vs ++ l.drop (o + vs.length)).toArray
  | [], l, o, h => by simp [put]
  | v :: vs, l, o, h => by
    have hl : o < l.length := by simp at h; omega
    rw [put, List.setIfInBounds_toArray, put_list vs (l.set o v) (o + 1) (by simp at h ⊢; omega)]
    congr 1
    rw [List.set_eq_take_append_cons_drop, if_pos hl]
    have e1 : (l.take o ++ v :: l.drop (o + 1)).take (o + 1) = l.take o ++ [v] := by
      rw [List.take_append, List.length_take, Nat.min_eq_left (by omega), Nat.add_sub_cancel_left, List.take_of_length_le (by rw [List.length_take]; omega)]; simp
    have e2 : (l.take o ++ v :: l.drop (o + 1)).drop (o + 1 + vs.length) = l.drop (o + (v :: vs).length) := by
      rw [List.drop_append, List.length_take, Nat.min_eq_left (by omega), List.drop_of_length_le (by rw [List.length_take]; omega), show o + 1 + vs.length - o = vs.length + 1 by omega]
      rw [List.drop_succ_cons, List.drop_drop, List.nil_append]; congr 1; simp; omega
    rw [e1, e2]
    simp only [List.append_assoc, List.cons_append, List.nil_append]
theorem put_all (xs ys : List Value) (h : ys.length = xs.length) : put xs.toArray 0 ys = ys.toArray := by
  rw [put_list ys xs 0 (by omega), Nat.zero_add, h]; simp
theorem grown_rf (w : World) (row : Option Nat) : w.grownBy w row := ⟨rfl, rfl, rfl, Nat.le_refl _, fun _ _ _ => rfl⟩
theorem At.sets {g : Nat} {t : TypeId} : ∀ (vs : List Value) (o : Nat) (cs : Array Value) (w : World), At w g t cs → At (w.setCells g o vs) g t (put cs o vs)
  | [], _, _, _, h => h
  | v :: vs, o, cs, w, h => At.sets vs (o + 1) _ _ (h.set o v)
theorem grown_sets {g : Nat} {W : World} : ∀ (vs : List Value) (o : Nat) (w : World), W.grownBy w (some g) → W.grownBy (w.setCells g o vs) (some g)
  | [], _, _, h => h
  | v :: vs, o, w, h => grown_sets vs (o + 1) _ (grown_set h o v)
theorem size_sets (g : Nat) : ∀ (vs : List Value) (o : Nat) (w : World), (w.setCells g o vs).heap.size = w.heap.size
  | [], _, _ => rfl
  | v :: vs, o, w => by rw [World.setCells, size_sets g vs]; simp [World.setCell]

section
variable {P : Program} {ops : Array Oper} {Q : Exit → Act → World → Prop} {rest : List Oper} {a : Act} {w w' : World} {d : Tmp} {ty ty' : TypeId} {pos : String} {after : Array Edge} {o : Oper} {v : Value}

theorem wp_value {K : Act → World → Prop} (h : (execOp a.eval o).run P w = .ok (.value v) w') (hK : K (a.put o.dst v) w') : Oper.wp P o a w K Q := by
  unfold Oper.wp; rw [h]; exact hK
theorem wp_skip {K : Act → World → Prop} (h : (execOp a.eval o).run P w = .ok .skip w') (hK : K (a.put o.dst undef) w') : Oper.wp P o a w K Q := by
  unfold Oper.wp; rw [h]; exact hK
theorem law_value (hgd : o.guard = none) (hrun : (execOp a.eval o).run P w = .ok (.value v) w') (h : wpList P ops Q rest (a.put o.dst v) w') : wpList P ops Q (o :: rest) a w :=
  wpList_plain hgd fun _ hK => wp_value hrun (hK _ _ h)

theorem alloc_run {ρ : Operand → Value} {dst : Option Tmp} {gd : Option (Nat × Bool)} (cs : Array Value) (hz : (P.info? ty).map (·.zero) = some (some (.agg cs))) :
    (execOp ρ ⟨dst, .alloc ty, ty', pos, after, gd⟩).run P w = .ok (.value (.pointer (some ⟨w.heap.size, 0, none⟩))) (w.alloc (.cells cs ty)) := by
  cases hq : P.info? ty with
  | none => simp [hq] at hz
  | some i =>
    simp [hq] at hz
    simp [execOp, Instr.alloc, zeroValue, typeInfo, hq, hz, newVar, go_sem, Value.cells]
theorem box_run {ρ : Operand → Value} {dst : Option Tmp} {gd : Option (Nat × Bool)} (x : Operand) (cs : Array Value) (hx : ρ x = .agg cs) :
    (execOp ρ ⟨dst, .box ty x, ty', pos, after, gd⟩).run P w = .ok (.value (.pointer (some ⟨w.heap.size, 0, none⟩))) (w.alloc (.cells cs ty)) := by
  simp [execOp, hx, Instr.box, newVar, go_sem, Value.cells]

/-- what a new block leaves -/
structure New (w w' : World) (t : TypeId) (cs : Array Value) : Prop where
  at_ : At w' w.heap.size t cs
  bel : Below w.heap.size w w'
  size : w'.heap.size = w.heap.size + 1
theorem New.mk' (w : World) (t : TypeId) (cs : Array Value) : New w (w.alloc (.cells cs t)) t cs := ⟨At.new _ _ _, (Below.refl _ _).alloc (Nat.le_refl _) _, by simp⟩

theorem law_alloc (cs : Array Value) (hz : (P.info? ty).map (·.zero) = some (some (.agg cs)))
    (h : ∀ w', New w w' ty cs → wpList P ops Q rest (a.put (some d) (.pointer (some ⟨w.heap.size, 0, none⟩))) w') : wpList P ops Q (⟨some d, .alloc ty, ty', pos, after, none⟩ :: rest) a w :=
  law_value rfl (alloc_run cs hz) (h _ (New.mk' _ _ _))
theorem law_box {x : Operand} (cs : Array Value) (hx : a.eval x = .agg cs)
    (h : ∀ w', New w w' ty cs → wpList P ops Q rest (a.put (some d) (.pointer (some ⟨w.heap.size, 0, none⟩))) w') : wpList P ops Q (⟨some d, .box ty x, ty', pos, after, none⟩ :: rest) a w :=
  law_value rfl (box_run x cs hx) (h _ (New.mk' _ _ _))

/-- what a store leaves -/
structure Put (w w' : World) (g : Nat) (t : TypeId) (cs : Array Value) : Prop where
  at_ : At w' g t cs
  grown : w.grownBy w' (some g)
  size : w'.heap.size = w.heap.size

theorem load_run {ρ : Operand → Value} {dst : Option Tmp} {gd : Option (Nat × Bool)} (x : Operand) (b o : Nat) (xs : List Value) (td : TypeDesc) (hx : ρ x = .pointer (some ⟨b, o, none⟩)) (hc : w.rangeAt b o xs)
    (hu : P.underlying ty = some td) (hd : td.isRow = true) (hi : (P.info? ty).map (·.size) = some xs.length) :
    (execOp ρ ⟨dst, .load ty x, ty', pos, after, gd⟩).run P w = .ok (.value (.agg xs.toArray)) w := by
  simp only [execOp, hx, Instr.loadAt, Instr.sureAddr, Sem.run_bind, Sem.run_pure, Result.andThen_ok, run_loadVar_mid w b o ty xs td hc hu hd hi]
theorem law_load {x : Operand} (b o : Nat) (xs : List Value) (td : TypeDesc) (hx : a.eval x = .pointer (some ⟨b, o, none⟩)) (hc : w.rangeAt b o xs)
    (hu : P.underlying ty = some td) (hd : td.isRow = true) (hi : (P.info? ty).map (·.size) = some xs.length)
    (h : wpList P ops Q rest (a.put (some d) (.agg xs.toArray)) w) : wpList P ops Q (⟨some d, .load ty x, ty', pos, after, none⟩ :: rest) a w :=
  law_value rfl (load_run x b o xs td hx hc hu hd hi) h
theorem store_run {ρ : Operand → Value} {dst : Option Tmp} {gd : Option (Nat × Bool)} (x y : Operand) (b o : Nat) (xs : List Value) (hx : ρ x = .pointer (some ⟨b, o, none⟩)) (hy : ρ y = .agg xs.toArray)
    (ht : w.there b o xs.length) (hi : (P.info? ty).map (·.size) = some xs.length) (h1 : ∀ u ∈ xs, u.oneCell' = true) :
    (execOp ρ ⟨dst, .store ty x y, ty', pos, after, gd⟩).run P w = .ok .skip (w.setCells b o xs) := by
  have := run_storeVar_mid (P := P) w b o ty xs.toArray (by simpa using ht) (by simpa using hi) (all_oneCell_toArray h1)
  simp only [execOp, hx, hy, Instr.storeAt, Instr.sureAddr, Sem.run_bind, Sem.run_pure, Result.andThen_ok, this]
theorem law_store {x y : Operand} {dst : Option Tmp} (g o : Nat) (t : TypeId) (cs : Array Value) (xs : List Value) (hx : a.eval x = .pointer (some ⟨g, o, none⟩)) (hy : a.eval y = .agg xs.toArray) (hat : At w g t cs)
    (hn : o + xs.length ≤ cs.size) (hi : (P.info? ty).map (·.size) = some xs.length) (h1 : ∀ u ∈ xs, u.oneCell' = true)
    (h : ∀ w', Put w w' g t (put cs o xs) → wpList P ops Q rest (a.put dst undef) w') : wpList P ops Q (⟨dst, .store ty x y, ty', pos, after, none⟩ :: rest) a w :=
  wpList_plain rfl fun _ hK => wp_skip (store_run x y g o xs hx hy (hat.there hn) hi h1) (hK _ _ (h _ ⟨hat.sets xs o cs w, grown_sets xs o w (grown_rf _ _), size_sets _ _ _ _⟩))

/-- the end of a function whose result is a block's cells -/
theorem ret_cell {fn : Func} {R : Ending → World → Prop} {p : Tmp} (h : fn.results = #[.cell p ty]) (g : Nat) (t : TypeId) (xs : List Value) (td : TypeDesc)
    (hp : a.tmps.getD p undef = .pointer (some ⟨g, 0, none⟩)) (hg : At w g t xs.toArray) (hu : P.underlying ty = some td) (hd : td.isRow = true) (hi : (P.info? ty).map (·.size) = some xs.length)
    (hdf : a.defers = []) (hR : R (.returned (.agg xs.toArray)) w) : bodyPost P fn R .ret a w :=
  bodyPost_ret (results_cell_row h a.tmps w g t xs.toArray (0, 0) td hp hg hu (by cases td <;> first | rfl | cases hd) (by simpa using hi)) hdf hR
end
end Go.Proofs.YtkmjfaaelkmnkaaDoor
