/-
  Blocks made, read and written whole, as a walk meets them; the world behind each has a letter of its own. Nothing here speaks of the program.
-/
import Derived.Test.YtkmjfaaelkmnkaaDoorProg
import Derived.Laws.BitsAllLaws
import Derived.Deep.QuietTactic
import Derived.BigQuiet
import Derived.Outline
import Derived.Laws.AppendOwnNone
import Derived.Test.YtkmjfaaelkmnkaaDoorMBkWords
import Derived.Test.YtkmjfaaelkmnkaaDoorMSet
import Derived.Test.YtkmjfaaelkmnkaaDoorMTurn
namespace Go.Proofs.YtkmjfaaelkmnkaaDoor
open Go.RowKit
set_option linter.unusedSimpArgs false
set_option linter.unusedVariables false

theorem put_list : ∀ (vs l : List Value) (o : Nat), o + vs.length ≤ l.length → put l.toArray o vs = (l.take o ++ vs ++ l.drop (o + vs.length)).toArray
  | [], l, o, h => by simp [put]
  | v :: vs, l, o, h => by
    have hl : o < l.length := by simp at h; omega
    rw [put, List.setIfInBounds_toArray, put_list vs (l.set o v) (o + 1) (by simp at h ⊢; omega)]
    congr 1
    rw [List.set_eq_take_append_cons_drop, if_pos hl]
    have e1 : (l.take o ++ v :: l.drop (o + 1)).take (o + 1) = l.take o ++ [v] := by
      rw [List.take_append, List.length_take, Nat.min_eq_left (by omega), Nat.add_sub_cancel_left, List.take_of_length_le (by rw [List.length_take]; omega)]; simp
    have e2 : (l.take o ++ v :: l.drop (o + 1)).drop (o + 1 + vs.length) = l.drop (o + (v :: vs).length) := by
      rw [List.drop_append, List.length_take, Nat.min_eq_left (by omega), List.drop_of_length_le (by rw [List.length_take]; omega), show o + 1 + vs.length - o = vs.length + 1 by omega]
      rw [List.drop_succ_cons, List.drop_drop, List.nil_append]; congr 1; simp; omega
    rw [e1, e2]
    simp only [List.append_assoc, List.cons_append, List.nil_append]
theorem put_all (xs ys : List Value) (h : ys.length = xs.length) : put xs.toArray 0 ys = ys.toArray := by
  rw [put_list ys xs 0 (by omega), Nat.zero_add, h]; simp
theorem grown_rf (w : World) (row : Option Nat) : w.grownBy w row := ⟨rfl, rfl, rfl, Nat.le_refl _, fun _ _ _ => rfl⟩
theorem At.sets {g : Nat} {t : TypeId} : ∀ (vs : List Value) (o : Nat) (cs : Array Value) (w : World), At w g t cs → At (w.setCells g o vs) g t (put cs o vs)
  | [], _, _, _, h => h
  | v :: vs, o, cs, w, h => At.sets vs (o + 1) _ _ (h.set o v)
theorem grown_sets {g : Nat} {W : World} : ∀ (vs : List Value) (o : Nat) (w : World), W.grownBy w (some g) → W.grownBy (w.setCells g o vs) (some g)
  | [], _, _, h => h
  | v :: vs, o, w, h => grown_sets vs (o + 1) _ (grown_set h o v)
theorem size_sets (g : Nat) : ∀ (vs : List Value) (o : Nat) (w : World), (w.setCells g o vs).heap.size = w.heap.size
  | [], _, _ => rfl
  | v :: vs, o, w => by rw [World.setCells, size_sets g vs]; simp [World.setCell]

section
variable {P : Program} {ops : Array Oper} {Q : Exit → Act → World → Prop} {rest : List Oper} {a : Act} {w w' : World} {d : Tmp} {ty ty' : TypeId} {pos : String} {after : Array Edge} {o : Oper} {v : Value}

theorem wp_value {K : Act → World → Prop} (h : (execOp a.eval o).run P w = .ok (.value v) w') (hK : K (a.put o.dst v) w') : Oper.wp P o a w K Q := by
  unfold Oper.wp; rw [h]; exact hK
theorem wp_skip {K : Act → World → Prop} (h : (execOp a.eval o).run P w = .ok .skip w') (hK : K (a.put o.dst undef) w') : Oper.wp P o a w K Q := by
  unfold Oper.wp; rw [h]; exact hK
theorem law_value (hgd : o.guard = none) (hrun : (execOp a.eval o).run P w = .ok (.value v) w') (h : wpList P ops Q rest (a.put o.dst v) w') : wpList P ops Q (o :: rest) a w :=
  wpList_plain hgd fun _ hK => wp_value hrun (hK _ _ h)

theorem alloc_run {ρ : Operand → Value} {dst : Option Tmp} {gd : Option (Nat × Bool)} (cs : Array Value) (hz : (P.info? ty).map (·.zero) = some (some (.agg cs))) :
    (execOp ρ ⟨dst, .alloc ty, ty', pos, after, gd⟩).run P w = .ok (.value (.pointer (some ⟨w.heap.size, 0, none⟩))) (w.alloc (.cells cs ty)) := by
  cases hq : P.info? ty with
  | none => simp [hq] at hz
  | some i =>
    simp [hq] at hz
    simp [execOp, Instr.alloc, zeroValue, typeInfo, hq, hz, newVar, go_sem, Value.cells]
theorem box_run {ρ : Operand → Value} {dst : Option Tmp} {gd : Option (Nat × Bool)} (x : Operand) (cs : Array Value) (hx : ρ x = .agg cs) :
    (execOp ρ ⟨dst, .box ty x, ty', pos, after, gd⟩).run P w = .ok (.value (.pointer (some ⟨w.heap.size, 0, none⟩))) (w.alloc (.cells cs ty)) := by
  simp [execOp, hx, Instr.box, newVar, go_sem, Value.cells]

/-- what a new block leaves -/
structure New (w w' : World) (t : TypeId) (cs : Array Value) : Prop where
  at_ : At w' w.heap.size t cs
  bel : Below w.heap.size w w'
  size : w'.heap.size = w.heap.size + 1
theorem New.mk' (w : World) (t : TypeId) (cs : Array Value) : New w (w.alloc (.cells cs t)) t cs := ⟨At.new _ _ _, (Below.refl _ _).alloc (Nat.le_refl _) _, by simp⟩

theorem law_alloc (cs : Array Value) (hz : (P.info? ty).map (·.zero) = some (some (.agg cs)))
    (h : ∀ w', New w w' ty cs → wpList P ops Q rest (a.put (some d) (.pointer (some ⟨w.heap.size, 0, none⟩))) w') : wpList P ops Q (⟨some d, .alloc ty, ty', pos, after, none⟩ :: rest) a w :=
  law_value rfl (alloc_run cs hz) (h _ (New.mk' _ _ _))
theorem law_box {x : Operand} (cs : Array Value) (hx : a.eval x = .agg cs)
    (h : ∀ w', New w w' ty cs → wpList P ops Q rest (a.put (some d) (.pointer (some ⟨w.heap.size, 0, none⟩))) w') : wpList P ops Q (⟨some d, .box ty x, ty', pos, after, none⟩ :: rest) a w :=
  law_value rfl (box_run x cs hx) (h _ (New.mk' _ _ _))

/-- what a store leaves -/
structure Put (w w' : World) (g : Nat) (t : TypeId) (cs : Array Value) : Prop where
  at_ : At w' g t cs
  grown : w.grownBy w' (some g)
  size : w'.heap.size = w.heap.size

theorem load_run {ρ : Operand → Value} {dst : Option Tmp} {gd : Option (Nat × Bool)} (x : Operand) (b o : Nat) (xs : List Value) (td : TypeDesc) (hx : ρ x = .pointer (some ⟨b, o, none⟩)) (hc : w.rangeAt b o xs)
    (hu : P.underlying ty = some td) (hd : td.isRow = true) (hi : (P.info? ty).map (·.size) = some xs.length) :
    (execOp ρ ⟨dst, .load ty x, ty', pos, after, gd⟩).run P w = .ok (.value (.agg xs.toArray)) w := by
  simp only [execOp, hx, Instr.loadAt, Instr.sureAddr, Sem.run_bind, Sem.run_pure, Result.andThen_ok, run_loadVar_mid w b o ty xs td hc hu hd hi]
theorem law_load {x : Operand} (b o : Nat) (xs : List Value) (td : TypeDesc) (hx : a.eval x = .pointer (some ⟨b, o, none⟩)) (hc : w.rangeAt b o xs)
    (hu : P.underlying ty = some td) (hd : td.isRow = true) (hi : (P.info? ty).map (·.size) = some xs.length)
    (h : wpList P ops Q rest (a.put (some d) (.agg xs.toArray)) w) : wpList P ops Q (⟨some d, .load ty x, ty', pos, after, none⟩ :: rest) a w :=
  law_value rfl (load_run x b o xs td hx hc hu hd hi) h
theorem store_run {ρ : Operand → Value} {dst : Option Tmp} {gd : Option (Nat × Bool)} (x y : Operand) (b o : Nat) (xs : List Value) (hx : ρ x = .pointer (some ⟨b, o, none⟩)) (hy : ρ y = .agg xs.toArray)
    (ht : w.there b o xs.length) (hi : (P.info? ty).map (·.size) = some xs.length) (h1 : ∀ u ∈ xs, u.oneCell' = true) :
    (execOp ρ ⟨dst, .store ty x y, ty', pos, after, gd⟩).run P w = .ok .skip (w.setCells b o xs) := by
  have := run_storeVar_mid (P := P) w b o ty xs.toArray (by simpa using ht) (by simpa using hi) (all_oneCell_toArray h1)
  simp only [execOp, hx, hy, Instr.storeAt, Instr.sureAddr, Sem.run_bind, Sem.run_pure, Result.andThen_ok, this]
theorem law_store {x y : Operand} {dst : Option Tmp} (g o : Nat) (t : TypeId) (cs : Array Value) (xs : List Value) (hx : a.eval x = .pointer (some ⟨g, o, none⟩)) (hy : a.eval y = .agg xs.toArray) (hat : At w g t cs)
    (hn : o + xs.length ≤ cs.size) (hi : (P.info? ty).map (·.size) = some xs.length) (h1 : ∀ u ∈ xs, u.oneCell' = true)
    (h : ∀ w', Put w w' g t (put cs o xs) → wpList P ops Q rest (a.put dst undef) w') : wpList P ops Q (⟨dst, .store ty x y, ty', pos, after, none⟩ :: rest) a w :=
  wpList_plain rfl fun _ hK => wp_skip (store_run x y g o xs hx hy (hat.there hn) hi h1) (hK _ _ (h _ ⟨hat.sets xs o cs w, grown_sets xs o w (grown_rf _ _), size_sets _ _ _ _⟩))

/-- the end of a function whose result is a block's cells -/
theorem ret_cell {fn : Func} {R : Ending → World → Prop} {p : Tmp} (h : fn.results = #[.cell p ty]) (g : Nat) (t : TypeId) (xs : List Value) (td : TypeDesc)
    (hp : a.tmps.getD p undef = .pointer (some ⟨g, 0, none⟩)) (hg : At w g t xs.toArray) (hu : P.underlying ty = some td) (hd : td.isRow = true) (hi : (P.info? ty).map (·.size) = some xs.length)
    (hdf : a.defers = []) (hR : R (.returned (.agg xs.toArray)) w) : bodyPost P fn R .ret a w :=
  bodyPost_ret (results_cell_row h a.tmps w g t xs.toArray (0, 0) td hp hg hu (by cases td <;> first | rfl | cases hd) (by simpa using hi)) hdf hR
end
end Go.Proofs.YtkmjfaaelkmnkaaDoor

/-
  A hash is equal to itself.
-/
namespace Go.Proofs.YtkmjfaaelkmnkaaDoor
open Go.RowKit
set_option linter.unusedSimpArgs false
set_option linter.unusedVariables false

set_option maxRecDepth 10000 in
theorem eqRaw (x0 x1 x2 x3 x4 x5 x6 x7 x8 x9 x10 x11 x12 x13 x14 x15 x16 x17 x18 x19 x20 x21 x22 x23 x24 x25 x26 x27 x28 x29 x30 x31 : Nat) (w : World) : (Op.equalIn 10000 28 (.agg #[.int .u8 (x0 : Int), .int .u8 (x1 : Int), .int .u8 (x2 : Int), .int .u8 (x3 : Int), .int .u8 (x4 : Int), .int .u8 (x5 : Int), .int .u8 (x6 : Int), .int .u8 (x7 : Int), .int .u8 (x8 : Int), .int .u8 (x9 : Int), .int .u8 (x10 : Int), .int .u8 (x11 : Int), .int .u8 (x12 : Int), .int .u8 (x13 : Int), .int .u8 (x14 : Int), .int .u8 (x15 : Int), .int .u8 (x16 : Int), .int .u8 (x17 : Int), .int .u8 (x18 : Int), .int .u8 (x19 : Int), .int .u8 (x20 : Int), .int .u8 (x21 : Int), .int .u8 (x22 : Int), .int .u8 (x23 : Int), .int .u8 (x24 : Int), .int .u8 (x25 : Int), .int .u8 (x26 : Int), .int .u8 (x27 : Int), .int .u8 (x28 : Int), .int .u8 (x29 : Int), .int .u8 (x30 : Int), .int .u8 (x31 : Int)]) (.agg #[.int .u8 (x0 : Int), .int .u8 (x1 : Int), .int .u8 (x2 : Int), .int .u8 (x3 : Int), .int .u8 (x4 : Int), .int .u8 (x5 : Int), .int .u8 (x6 : Int), .int .u8 (x7 : Int), .int .u8 (x8 : Int), .int .u8 (x9 : Int), .int .u8 (x10 : Int), .int .u8 (x11 : Int), .int .u8 (x12 : Int), .int .u8 (x13 : Int), .int .u8 (x14 : Int), .int .u8 (x15 : Int), .int .u8 (x16 : Int), .int .u8 (x17 : Int), .int .u8 (x18 : Int), .int .u8 (x19 : Int), .int .u8 (x20 : Int), .int .u8 (x21 : Int), .int .u8 (x22 : Int), .int .u8 (x23 : Int), .int .u8 (x24 : Int), .int .u8 (x25 : Int), .int .u8 (x26 : Int), .int .u8 (x27 : Int), .int .u8 (x28 : Int), .int .u8 (x29 : Int), .int .u8 (x30 : Int), .int .u8 (x31 : Int)])).run Tryd.prog w = .ok true w := by
  have u3 := Tryd.underlying5
  have a3 := Tryd.isAgg5
  have z3 := Tryd.sizeOf5
  rw [show (10000 : Nat) = 9999 + 1 from rfl, Op.equalIn]
  simp only [Sem.run_bind, run_underlying Tryd.underlying28, Result.andThen_ok]
  simp only [Std.Legacy.Range.forIn_eq_forIn_range', Std.Legacy.Range.size, Nat.sub_zero, Nat.add_sub_cancel, Nat.div_one, List.range'_succ, List.range'_zero, List.forIn_cons, List.forIn_nil]
  go_simp
theorem eqH (l : List Nat) (h : l.length = 32) (w : World) : (Op.equalIn 10000 28 (.agg (bs l).toArray) (.agg (bs l).toArray)).run Tryd.prog w = .ok true w := by
  match l, h with
  | [x0, x1, x2, x3, x4, x5, x6, x7, x8, x9, x10, x11, x12, x13, x14, x15, x16, x17, x18, x19, x20, x21, x22, x23, x24, x25, x26, x27, x28, x29, x30, x31], _ => exact eqRaw x0 x1 x2 x3 x4 x5 x6 x7 x8 x9 x10 x11 x12 x13 x14 x15 x16 x17 x18 x19 x20 x21 x22 x23 x24 x25 x26 x27 x28 x29 x30 x31 w
end Go.Proofs.YtkmjfaaelkmnkaaDoor

/-
  nums.Get: what it answers, whatever bytes it is given.
-/
namespace Go.Proofs.YtkmjfaaelkmnkaaDoor
open Go.RowKit

theorem val_step (l : List Nat) (j : Nat) (hj : j < 8) (hl : j < l.length) (hb : ∀ y ∈ l, y < 256) :
    bits BinOp.or IntKind.u64 (IntKind.u64.wrap (↑(val (List.take j l)) * 256)) (IntKind.u64.wrap ↑(l[j]?.getD 0)) = ((val (l.take (j + 1)) : Nat) : Int) := by
  have h1 := val_lt (l.take j) fun y hy => hb y (List.mem_of_mem_take hy)
  have h2 : (l.take j).length = j := by rw [List.length_take]; omega
  have h3 : 256 ^ j ≤ 256 ^ 7 := Nat.pow_le_pow_right (by decide) (by omega)
  rw [h2] at h1
  have h4 : (256 : Nat) ^ 7 = 72057594037927936 := by decide
  have h5 : l[j] < 256 := hb _ (List.getElem_mem hl)
  rw [List.take_succ_eq_append_getElem hl, val_snoc, IntKind.wrap_u64, IntKind.wrap_u64]
  generalize val (l.take j) = P at *
  have e1 : ((P : Int) * 256) % 18446744073709551616 = ((P * 256 : Nat) : Int) := by omega
  have e2 : (((l[j]?.getD 0 : Nat) : Int)) % 18446744073709551616 = ((l[j] : Nat) : Int) := by rw [List.getElem?_eq_getElem hl]; simp; omega
  rw [e1, e2, u64_or_nat _ _ (by omega) (by omega), nat_join 8 _ _ (by omega) h5]

theorem get_low (A : Option Addr) (n c : Nat) (k : Int) (w : World) (h : k < 0) :
    Calls Tryd.prog 50 #[.slice A n c, .int .i64 k] w fun e w' => e = .returned (.tuple #[.int .u64 0, .int .i64 1]) ∧ w = w' := by
  go_enter Tryd.func50, Tryd.ntmps50
  go_wp2
  go_ret2
  exact ⟨rfl, rfl⟩

theorem get_high (A : Option Addr) (n c : Nat) (k : Int) (w : World) (h : 8 < k) :
    Calls Tryd.prog 50 #[.slice A n c, .int .i64 k] w fun e w' => e = .returned (.tuple #[.int .u64 0, .int .i64 1]) ∧ w = w' := by
  have h0 : decide (k < 0) = false := by simp; omega
  go_enter Tryd.func50, Tryd.ntmps50
  go_wp2
  go_ret2
  exact ⟨rfl, rfl⟩

theorem get_short (A : Option Addr) (n c k : Nat) (w : World) (h8 : k ≤ 8) (h : n < k) :
    Calls Tryd.prog 50 #[.slice A n c, .int .i64 k] w fun e w' => e = .returned (.tuple #[.int .u64 0, .int .i64 5]) ∧ w = w' := by
  have h0 : decide ((k : Int) < 0) = false := by simp
  have h1 : decide ((8 : Int) < (k : Int)) = false := by simp; omega
  go_enter Tryd.func50, Tryd.ntmps50
  go_wp2
  go_ret2
  exact ⟨rfl, rfl⟩

theorem get_ok (A : Option Addr) (n c k : Nat) (l : List Nat) (w : World) (h8 : k ≤ 8) (h : k ≤ n) (hc : n ≤ c) (hm : c ≤ 9223372036854775807) (hr : Rd w A n (bs l)) (hb : ∀ y ∈ l, y < 256) :
    Calls Tryd.prog 50 #[.slice A n c, .int .i64 k] w fun e w' => e = .returned (.tuple #[.int .u64 (val (l.take k) : Nat), .int .i64 0]) ∧ w = w' := by
  have h0 : decide ((k : Int) < 0) = false := by simp
  have h1 : decide ((8 : Int) < (k : Int)) = false := by simp; omega
  have h2 : decide (n < k) = false := by simp; omega
  go_enter Tryd.func50, Tryd.ntmps50
  go_wp2
  go_loop [6, 23] (fun t i => ∃ j : Nat, j ≤ k ∧ i = .int .i64 j ∧ t = .int .u64 (val (l.take j) : Nat)) (fun _ i => k - (intOf i).toNat)
  case atStart => exact ⟨0, Nat.zero_le _, rfl, rfl⟩
  case round =>
    obtain ⟨j, hj, rfl, rfl⟩ := hrel
    by_cases hlt : j < k
    · obtain ⟨b, off, rfl, hbs, hcell⟩ := hr.spot (show j < n by omega)
      have hln : l.length = n := by have := hr.1; rw [bs_len] at this; exact this
      have hx : w.cell? ⟨b, off + j, none⟩ = some (.int .u8 (l.getD j 0 : Nat)) := hcell j _ (bs_at l j (by omega))
      have hv := Lib.hid (val_step l j (by omega) (by omega) hb)
      clear hcell hr hln hb
      go_wp2
      go_round
      case rel => exact ⟨j + 1, by omega, by go_num, by rw [hv.out]⟩
      case measure => simp [intOf]; omega
    · obtain rfl : j = k := by omega
      go_wp2
      go_ret2
      exact ⟨rfl, rfl⟩
end Go.Proofs.YtkmjfaaelkmnkaaDoor

/-
  nums.Put, PutLong, PutBytes, GetLong, GetBytes: what they answer.
-/
namespace Go.Proofs.YtkmjfaaelkmnkaaDoor
set_option linter.unusedSimpArgs false
set_option linter.unusedVariables false
open Go.RowKit

/-- a row of words that a call has just built -/
theorem Rd.built (w : World) (t : TypeId) (xs : List Value) (h : 0 < xs.length) : Rd (w.alloc (.cells xs.toArray t)) (some ⟨w.heap.size, 0, none⟩) xs.length xs := by
  refine ⟨rfl, fun _ => ⟨_, 0, rfl, by simp, fun j u hu => ?_⟩⟩
  rw [Nat.zero_add, cell_of_row _ w.heap.size j xs.toArray t (0, 0) (heap_alloc_new w _)]
  simpa using hu

theorem put_any (A : Option Addr) (n c k x : Nat) (kk : Int) (l : List Nat) (w : World) (hk : (kk < 0 ∧ k = 0) ∨ (0 ≤ kk ∧ kk ≤ 8 ∧ kk = k) ∨ (8 < kk ∧ k = 8)) (hn : n ≤ 4194304) (hc : n ≤ c) (hnil : A = none → n = 0 ∧ c = 0)
    (hr : Rd w A n (bs l)) (hx : x < 18446744073709551616) :
    Calls Tryd.prog 43 #[.slice A n c, .int .u64 x, .int .i64 kk] w fun e w' => e = .returned (.slice (some ⟨w.heap.size + 1, 0, none⟩) (n + k) (n + k)) ∧
      w'.ownsRow (w.heap.size + 1) 5 1 (.slice (some ⟨w.heap.size + 1, 0, none⟩) (n + k) (n + k)) (n + k) (bs (l ++ be k x)) ∧ Below w.heap.size w w' := by
  have hk8 : k ≤ 8 := by omega
  have hrw : Rd (w.alloc (.cells #[.int .u64 (x : Int)] 35)) (some ⟨w.heap.size, 0, none⟩) 1 (ws [x]) := Rd.built w 35 (ws [x]) (by simp [ws])
  have H := Lib.hid ((putWords_ok A _ n c 1 1 k k l [x] _ hk8 (by omega) hn hc hnil (hr.alloc _) hrw (by simpa using hx) (by simp)).mono (R' := fun e w' => e = .returned (.slice (some ⟨w.heap.size + 1, 0, none⟩) (n + k) (n + k)) ∧
      w'.ownsRow (w.heap.size + 1) 5 1 (.slice (some ⟨w.heap.size + 1, 0, none⟩) (n + k) (n + k)) (n + k) (bs (l ++ be k x)) ∧ Below w.heap.size w w')
      (fun e w' h => by
        obtain ⟨he, ho, hb⟩ := h
        simp at he ho
        exact ⟨he, ho, ((Below.refl _ _).alloc (Nat.le_refl _) _).trans (hb.mono (by simp))⟩))
  clear hrw hr hx
  rcases hk with ⟨h1, rfl⟩ | ⟨h1, h2, rfl⟩ | ⟨h1, rfl⟩
  · have e1 : (if kk < 0 then (0 : Int) else kk) = 0 := if_pos h1
    go_enter Tryd.func43, Tryd.ntmps43
    go_wp2_with (go_at_call 62; refine H.out.mono ?_; rintro e w' ⟨rfl, hown, hb⟩)
    go_ret
    exact ⟨rfl, hown, hb⟩
  · have e1 : (if (k : Int) < 0 then (0 : Int) else k) = k := if_neg (by omega)
    go_enter Tryd.func43, Tryd.ntmps43
    go_wp2_with (go_at_call 62; refine H.out.mono ?_; rintro e w' ⟨rfl, hown, hb⟩)
    go_ret
    exact ⟨rfl, hown, hb⟩
  · have e1 : (if kk < 0 then (0 : Int) else kk) = kk := if_neg (by omega)
    go_enter Tryd.func43, Tryd.ntmps43
    go_wp2_with (go_at_call 62; refine H.out.mono ?_; rintro e w' ⟨rfl, hown, hb⟩)
    go_ret
    exact ⟨rfl, hown, hb⟩

end Go.Proofs.YtkmjfaaelkmnkaaDoor

/-
  The statements' helpers TwinBytes (a copy with one byte of spare room behind it) and LeftBytes (it is as it was).
-/
namespace Go.Proofs.YtkmjfaaelkmnkaaDoor
set_option linter.unusedSimpArgs false
set_option linter.unusedVariables false
open Go.RowKit

/-- a twin of l: its bytes, and 77 behind them, in a block of their own -/
theorem below_drewN {B : Nat} {a w : World} (h : Below B a w) (n : Nat) : Below B a (w.drewN n) := ⟨h.os, h.tape, h.output, h.size, h.block⟩

def Twin (w : World) (g : Nat) (l : List Nat) : Prop := At w g 5 (bs (l ++ [77])).toArray

theorem Twin.rd {w : World} {g : Nat} {l : List Nat} (h : Twin w g l) : Rd w (some ⟨g, 0, none⟩) l.length (bs l) := by
  refine ⟨bs_len l, fun _ => ⟨g, 0, rfl, h.lt, fun j u hu => ?_⟩⟩
  rw [Nat.zero_add, At.cell h j, bs_append]
  have hj : j < (bs l).length := (List.getElem?_eq_some_iff.1 hu).1
  simp only [List.getElem?_toArray]
  rw [List.getElem?_append_left hj]
  exact hu
theorem Twin.last {w : World} {g : Nat} {l : List Nat} (h : Twin w g l) : w.cell? ⟨g, l.length, none⟩ = some (.int .u8 77) := by
  rw [At.cell h, bs_append]
  simp only [List.getElem?_toArray]
  rw [List.getElem?_append_right (by rw [bs_len]; exact Nat.le_refl _), bs_len, Nat.sub_self]
  rfl
theorem Twin.own {w : World} {g N : Nat} {l : List Nat} (h : Twin w g l) (hN : N ≤ g) (hl : l.length + 1 ≤ maxLen) : w.ownsRow N 5 1 (.slice (some ⟨g, 0, none⟩) l.length (l.length + 1)) l.length (bs l) := by
  have := at_own (base := N) (n := l.length) (c := l.length + 1) h hN (by omega) hl (by simp [bs])
  rwa [show (bs (l ++ [77])).toArray.toList.take l.length = bs l by simp [bs]] at this

theorem bs_step (l : List Nat) (k : Nat) (h : k < l.length) : bs (l.take k) ++ [Value.int .u8 ((l[k]?.getD 0 : Nat) : Int)] = bs (l.take (k + 1)) := by
  rw [List.take_succ_eq_append_getElem h, bs_append]
  simp [bs, h]

set_option maxHeartbeats 1000000 in
theorem twin_ok (A : Option Addr) (n c : Nat) (l : List Nat) (w : World) (hn : n ≤ 4194304) (hr : Rd w A n (bs l)) :
    Calls Tryd.prog 36 #[.slice A n c] w fun e w' => e = .returned (.slice (some ⟨w.heap.size, 0, none⟩) n (n + 1)) ∧ Twin w' w.heap.size l ∧ Below w.heap.size w w' := by
  obtain ⟨i0, hi, hz0, hz1, hz2⟩ := info_parts Tryd.info5
  have hln : l.length = n := by have := hr.1; rwa [bs_len] at this
  have HL := Lib.hid hln
  clear hln
  go_enter Tryd.func36, Tryd.ntmps36
  go_wp2_with (at_make; refine wpList_make_own _ rfl _ _ 22 rfl w.heap.size 5 i0 (.int .u8 0) 1 Tryd.underlying22 hi hz0 hz1 _ _ _ (n + 1) rfl rfl (by omega) ?b2 ?b3 (Nat.le_refl _) ?_)
  case b2 => rw [hz2]; omega
  case b3 => unfold maxLen; omega
  intro w0 hown0 hgrow0
  have hb0 : Below w.heap.size w w0 := (Below.refl _ _).grown hgrow0 (Nat.le_refl _) (by simp)
  clear hgrow0
  go_wp2
  go_loopw [3, 4] (fun v s wr => ∃ k : Nat, k ≤ n ∧ s = .int .i64 k ∧ v = .slice (some ⟨w.heap.size, 0, none⟩) k (n + 1) ∧ wr.ownsRow w.heap.size 5 1 (.slice (some ⟨w.heap.size, 0, none⟩) k (n + 1)) k (bs (l.take k)) ∧ Below w.heap.size w wr) (fun _ s _ => n - (intOf s).toNat)
  case atStart => exact ⟨0, Nat.zero_le _, rfl, rfl, by simpa [bs] using hown0, hb0⟩
  case round =>
    obtain ⟨k, hk, rfl, rfl, hown, hbr⟩ := hrel
    clear hown0 hb0
    by_cases hlt : k < n
    · obtain ⟨b, off, rfl, hbs, hcell⟩ := hr.spot hlt
      have hx : wr.cell? ⟨b, off + k, none⟩ = some (.int .u8 (l.getD k 0 : Nat)) := (hbr.cell (by exact hbs)).trans (hcell k _ (bs_at l k (by have := HL.out; omega)))
      have hst := Lib.hid (bs_step l k (by have := HL.out; omega))
      clear hcell hr
      go_wp2_with (at_builtin; refine wpList_append_fits _ rfl (.tmp 15) (.tmp 20) 22 rfl w.heap.size 5 i0 1 Tryd.underlying22 hi hz1 w.heap.size k (n + 1) _ rfl (hown.alloc _) ⟨wr.heap.size, 0, none⟩ 1 1 [.int .u8 ((l[k]?.getD 0 : Nat) : Int)] rfl rfl (one_new _ _ _) (one_cell _ _) (by omega) ?_; intro w2 hown2 hgrow2)
      rw [hst.out] at hown2
      have hbr2 : Below w.heap.size w w2 := (hbr.alloc hbr.size _).grown hgrow2 (by have := hbr.size; simp; omega) (by simp)
      clear hown hgrow2 hbr
      go_wp2
      go_roundw
      case rel => exact ⟨k + 1, by omega, by go_num, rfl, hown2, hbr2⟩
      case measure => simp [intOf]; omega
    · obtain rfl : k = n := by omega
      clear hr
      rw [List.take_of_length_le (by have := HL.out; omega)] at hown
      go_wp2_with (at_builtin; refine wpList_append_fits _ rfl (.tmp 22) (.tmp 23) 22 rfl w.heap.size 5 i0 1 Tryd.underlying22 hi hz1 w.heap.size k (k + 1) _ rfl (hown.alloc _) ⟨wr.heap.size, 0, none⟩ 1 1 [.int .u8 77] rfl rfl (one_new _ _ _) (one_cell _ _) (by omega) ?_; intro w2 hown2 hgrow2)
      have hbr2 : Below w.heap.size w w2 := (hbr.alloc hbr.size _).grown hgrow2 (by have := hbr.size; simp; omega) (by simp)
      clear hown hgrow2 hbr
      go_ret
      refine ⟨rfl, ?_, hbr2⟩
      obtain ⟨cur, hat, _, _, _, hs, ht⟩ := own_at hown2
      have e : cur = (bs (l ++ [77])).toArray := by
        apply Array.ext'
        rw [bs_append]
        have := ht
        rw [List.take_of_length_le (by simp; omega)] at this
        simpa [bs] using this
      unfold Twin
      rw [← e]
      exact hat

theorem left_ok (A : Option Addr) (n c g : Nat) (l : List Nat) (w : World) (hn : n ≤ 4194304) (hr : Rd w A n (bs l)) (ht : Twin w g l) :
    Calls Tryd.prog 46 #[.slice (some ⟨g, 0, none⟩) n (n + 1), .slice A n c] w fun e w' => e = .returned (.bool true) ∧ Below w.heap.size w w' := by
  have hln : l.length = n := by have := hr.1; rwa [bs_len] at this
  have hT := ht.rd
  have h77 := ht.last
  rw [hln] at hT h77
  have HL := Lib.hid hln
  clear hln ht
  go_enter Tryd.func46, Tryd.ntmps46
  go_wp2
  go_loopw [5] (fun s wr => ∃ k q : Nat, k ≤ n ∧ s = .int .i64 k ∧ wr = w.drewN q) (fun s _ => n - (intOf s).toNat)
  case atStart => exact ⟨0, 0, Nat.zero_le _, rfl, rfl⟩
  case round =>
    obtain ⟨k, q, hk, rfl, rfl⟩ := hrel
    by_cases hlt : k < n
    · obtain ⟨b, off, rfl, hbs, hcell⟩ := hr.spot hlt
      obtain ⟨b', off', e', hbs', hcell'⟩ := hT.spot hlt
      injection e' with e'
      injection e' with e1 e2
      subst e1 e2
      have h1 : w.cell? ⟨b, off + k, none⟩ = some (.int .u8 (l.getD k 0 : Nat)) := hcell k _ (bs_at l k (by have := HL.out; omega))
      have h2 : w.cell? ⟨g, k, none⟩ = some (.int .u8 (l.getD k 0 : Nat)) := by have := hcell' k _ (bs_at l k (by have := HL.out; omega)); rwa [Nat.zero_add] at this
      have hi1 : (k : Int) < (n : Int) := by omega
      clear hcell hcell' hr hT
      go_wp2
      go_quiet (fail)
      go_wp2
      go_roundw
      case rel => exact ⟨k + 1, q + nq, by omega, by go_num, rfl⟩
      case measure => simp [intOf]; omega
    · obtain rfl : k = n := by omega
      have hi1 : (k : Int) + 1 ≤ ((k + 1 : Nat) : Int) := by omega
      go_wp2
      go_ret
      exact ⟨rfl, below_drewN (Below.refl _ _) q⟩
end Go.Proofs.YtkmjfaaelkmnkaaDoor

/-
  A sum that is not there, or that New did not make: Write and Hash.
-/
namespace Go.Proofs.YtkmjfaaelkmnkaaDoor
open Go.RowKit
set_option linter.unusedSimpArgs false
set_option linter.unusedVariables false

/-- there is none, or its first cell says so -/
def Gone (w : World) (v : Value) : Prop := v = .pointer none ∨ ∃ g, v = .pointer (some ⟨g, 0, none⟩) ∧ w.cell? ⟨g, 0, none⟩ = some (.bool false)
theorem absent_yes (v : Value) (w : World) (h : Gone w v) :
    Calls Tryd.prog 31 #[v] w fun e w' => e = .returned (.bool true) ∧ w = w' := by
  rcases h with rfl | ⟨g, rfl, h⟩
  · go_enter Tryd.func31, Tryd.ntmps31
    go_wp2
    go_ret
    exact ⟨rfl, rfl⟩
  · go_enter Tryd.func31, Tryd.ntmps31
    go_wp2
    go_ret
    exact ⟨rfl, rfl⟩
theorem absent_no (g : Nat) (w : World) (h : w.cell? ⟨g, 0, none⟩ = some (.bool true)) :
    Calls Tryd.prog 31 #[.pointer (some ⟨g, 0, none⟩)] w fun e w' => e = .returned (.bool false) ∧ w = w' := by
  go_enter Tryd.func31, Tryd.ntmps31
  go_wp2
  go_ret
  exact ⟨rfl, rfl⟩
theorem write_gone (v : Value) (A : Option Addr) (n c : Nat) (w : World) (h : Gone w v) :
    Calls Tryd.prog 11 #[v, .slice A n c] w fun e w' => e = .returned (.int .i64 2) ∧ w = w' := by
  have C := Lib.hid (absent_yes v w h)
  clear h
  go_enter Tryd.func11, Tryd.ntmps11
  go_wp2_with (go_at_call 31; refine C.out.mono ?_; rintro e w' ⟨rfl, rfl⟩)
  go_ret
  exact ⟨rfl, rfl⟩
theorem Gone.on {v : Value} {w w' : World} (h : Gone w v) (hb : Below w.heap.size w w') : Gone w' v := by
  rcases h with rfl | ⟨g, rfl, h⟩
  · exact .inl rfl
  · exact .inr ⟨g, rfl, cell_on hb h⟩
theorem zero_hash : (Tryd.prog.info? 28).map (·.zero) = some (some (.agg (bs (List.replicate 32 0)).toArray)) := by kernel_rfl
theorem size_hash : (Tryd.prog.info? 28).map (·.size) = some 32 := by kernel_rfl
theorem under_hash : Tryd.prog.underlying 28 = some (.array 32 5) := by kernel_rfl
set_option maxRecDepth 100000 in
theorem hash_gone (v : Value) (w : World) (h : Gone w v) :
    Calls Tryd.prog 10 #[v] w fun e w' => e = .returned (.agg (bs (List.replicate 32 0)).toArray) ∧ Below w.heap.size w w' := by
  go_enter Tryd.func10, Tryd.ntmps10
  go_wp2_with (refine law_alloc (ty := 28) _ zero_hash ?_; intro w1 N1)
  refine (absent_yes v w1 (h.on N1.bel)).mono ?_
  rintro e w' ⟨rfl, rfl⟩
  have L1 := N1.at_
  have B1 := N1.bel
  clear N1 h
  go_wp2_with (refine law_store (ty := 28) w.heap.size 0 28 (bs (List.replicate 32 0)).toArray (bs (List.replicate 32 0)) (by rfl) (by rfl) L1 (by simp [bs]) (by rw [size_hash]; simp [bs]) (bs_one _) ?_; intro w2 P2)
  have L2 := P2.at_
  rw [put_all _ _ rfl] at L2
  refine ret_cell (ty := 28) rfl w.heap.size _ (bs (List.replicate 32 0)) _ rfl L2 under_hash rfl (by rw [size_hash]; simp [bs]) rfl ⟨rfl, B1.grown P2.grown (by have := B1.size; omega) (by simp)⟩
end Go.Proofs.YtkmjfaaelkmnkaaDoor


/-
  Small laws of rows: append onto a row of the call's own; a byte of a block; a block that is made and written.
-/
namespace Go.Proofs.YtkmjfaaelkmnkaaDoor
open Go.RowKit
set_option linter.unusedSimpArgs false
set_option linter.unusedVariables false

/-- append onto a row of the call's own, from a slice that reads as a list, nil too -/
theorem wpList_append_rd {P : Program} (w : World) {ops : Array Oper} {rest : List Oper} {o : Oper} {a : Act} {Q : Exit → Act → World → Prop} (hgd : o.guard = none) (s x : Operand) (t : TypeId)
    (ho : o.op = .call { callee := .builtin .append, args := #[s, x], argTypes := #[t, t] })
    (base : Nat) (e : TypeId) (i : TypeInfo) (z : Value) (bytes : Nat) (ht : P.underlying t = some (.slice e)) (hi : P.info? e = some i) (hz : i.zero = some z)
    (hsize : i.size = 1) (hby : i.bytes = bytes) (hzs : z.cells.size = 1)
    (v : Value) (n : Nat) (xs : List Value) (hs : a.eval s = v) (hown : w.ownsRow base e 1 v n xs)
    (A : Option Addr) (m c : Nat) (news : List Value) (hx : a.eval x = .slice A m c) (hnil : A = none → m = 0 ∧ c = 0) (hr : Rd w A m news) (h1 : ∀ u ∈ news, u.oneCell' = true)
    (h63 : n + m ≤ maxLen) (hbytes : (n + m) * bytes ≤ 140737488355328) (hbase : base ≤ w.heap.size)
    (h : ∀ v' w', w'.ownsRow base e 1 v' (n + m) (xs ++ news) → w.grownBy w' v.ownBlock → wpList P ops Q rest (a.put o.dst v') w') :
    wpList P ops Q (o :: rest) a w := by
  cases A with
  | none =>
    obtain ⟨rfl, rfl⟩ := hnil rfl
    have hn : news = [] := List.eq_nil_of_length_eq_zero hr.1
    subst hn
    exact wpList_append_own_none hgd s x t ho base e i 1 ht hi v n xs hs hown hx (h v w (by simpa using hown) (World.grownBy.refl _ _))
  | some ad => exact wpList_append_own w hgd s x t ho base e i z 1 bytes ht hi hz hsize hby hzs (by decide) v n xs hs hown ad m c news hx (by rw [hr.1, Nat.mul_one]) (hr.src ad rfl) h1 h63 hbytes hbase fun v' w' h2 h3 _ => h v' w' h2 h3

theorem At.byte {w : World} {g : Nat} {t : TypeId} {l : List Nat} (h : At w g t (bs l).toArray) (k : Nat) (hk : k < l.length) : w.cell? ⟨g, k, none⟩ = some (.int .u8 (l.getD k 0 : Nat)) := by
  rw [h.cell, List.getElem?_toArray]; exact bs_at l k hk
theorem Twin.on {w w' : World} {g : Nat} {l : List Nat} (h : Twin w g l) (hb : Below w.heap.size w w') : Twin w' g l := At.on h hb
theorem New.put {w w1 w2 : World} {t : TypeId} {cs cs' : Array Value} (h : New w w1 t cs) (p : Put w1 w2 w.heap.size t cs') : Below w.heap.size w w2 :=
  h.bel.grown p.grown (by rw [h.size]; omega) (fun k e => by injection e with e; omega)
theorem Put.hash {w w' : World} {g : Nat} (h : List Nat) (hl : h.length = 32) (p : Put w w' g 28 (put (bs (List.replicate 32 0)).toArray 0 (bs h))) : At w' g 28 (bs h).toArray := by
  have := p.at_
  rwa [put_all _ _ (by simp [bs, hl])] at this

end Go.Proofs.YtkmjfaaelkmnkaaDoor

/-
  ShasNone: a sum that is not there, or that no call made, takes nothing, and has noughts.
-/
namespace Go.Proofs.YtkmjfaaelkmnkaaDoor
open Go.RowKit
set_option linter.unusedSimpArgs false
set_option linter.unusedVariables false

/-- a sum's cells: made, how many bytes, the numbers, the block -/
def sumC (m : Bool) (n : Nat) (S B : List Nat) : List Value := .bool m :: .int .u64 (n : Nat) :: (hs S ++ bs B)
theorem build_none (ρ : Operand → Value) (w : World) (dst : Option Tmp) (ty : TypeId) (pos : String) (after : Array Edge) (gd : Option (Nat × Bool)) :
    (execOp ρ ⟨dst, .build 67 #[], ty, pos, after, gd⟩).run Tryd.prog w = .ok (.value (.agg (sumC false 0 (List.replicate 8 0) (List.replicate 64 0)).toArray)) w := by kernel_rfl
theorem law_buildNone {ops : Array Oper} {Q : Exit → Act → World → Prop} {rest : List Oper} {a : Act} {w : World} {d : Tmp} {ty : TypeId} {pos : String} {after : Array Edge}
    (h : wpList Tryd.prog ops Q rest (a.put (some d) (.agg (sumC false 0 (List.replicate 8 0) (List.replicate 64 0)).toArray)) w) : wpList Tryd.prog ops Q (⟨some d, .build 67 #[], ty, pos, after, none⟩ :: rest) a w :=
  law_value rfl (build_none _ _ _ _ _ _ _) h

theorem eqZero (w : World) : (Op.equalIn 10000 28 (.agg #[.int .u8 0, .int .u8 0, .int .u8 0, .int .u8 0, .int .u8 0, .int .u8 0, .int .u8 0, .int .u8 0, .int .u8 0, .int .u8 0, .int .u8 0, .int .u8 0, .int .u8 0, .int .u8 0, .int .u8 0, .int .u8 0, .int .u8 0, .int .u8 0, .int .u8 0, .int .u8 0, .int .u8 0, .int .u8 0, .int .u8 0, .int .u8 0, .int .u8 0, .int .u8 0, .int .u8 0, .int .u8 0, .int .u8 0, .int .u8 0, .int .u8 0, .int .u8 0]) (.agg #[.int .u8 0, .int .u8 0, .int .u8 0, .int .u8 0, .int .u8 0, .int .u8 0, .int .u8 0, .int .u8 0, .int .u8 0, .int .u8 0, .int .u8 0, .int .u8 0, .int .u8 0, .int .u8 0, .int .u8 0, .int .u8 0, .int .u8 0, .int .u8 0, .int .u8 0, .int .u8 0, .int .u8 0, .int .u8 0, .int .u8 0, .int .u8 0, .int .u8 0, .int .u8 0, .int .u8 0, .int .u8 0, .int .u8 0, .int .u8 0, .int .u8 0, .int .u8 0])).run Tryd.prog w = .ok true w := eqRaw 0 0 0 0 0 0 0 0 0 0 0 0 0 0 0 0 0 0 0 0 0 0 0 0 0 0 0 0 0 0 0 0 w
theorem hash_zero (v : Value) (w : World) (h : Gone w v) :
    Calls Tryd.prog 10 #[v] w fun e w' => e = .returned (.agg #[.int .u8 0, .int .u8 0, .int .u8 0, .int .u8 0, .int .u8 0, .int .u8 0, .int .u8 0, .int .u8 0, .int .u8 0, .int .u8 0, .int .u8 0, .int .u8 0, .int .u8 0, .int .u8 0, .int .u8 0, .int .u8 0, .int .u8 0, .int .u8 0, .int .u8 0, .int .u8 0, .int .u8 0, .int .u8 0, .int .u8 0, .int .u8 0, .int .u8 0, .int .u8 0, .int .u8 0, .int .u8 0, .int .u8 0, .int .u8 0, .int .u8 0, .int .u8 0]) ∧ Below w.heap.size w w' := hash_gone v w h

end Go.Proofs.YtkmjfaaelkmnkaaDoor
