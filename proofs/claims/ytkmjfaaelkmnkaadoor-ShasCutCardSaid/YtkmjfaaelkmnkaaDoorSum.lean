/-
  shas.New: a sum of no bytes so far; how a sum lies in memory; the operations on its fields.
-/
import Derived.Test.YtkmjfaaelkmnkaaDoorEnding
import Derived.Test.YtkmjfaaelkmnkaaDoorNone
namespace Go.Proofs.YtkmjfaaelkmnkaaDoor
open Go.RowKit
set_option linter.unusedSimpArgs false
set_option linter.unusedVariables false

/-- block g is a sum of the bytes l so far -/
def SumAt (w : World) (g : Nat) (l : List Nat) : Prop :=
  ∃ B : List Nat, B.length = 64 ∧ (∀ y ∈ B, y < 256) ∧ At w g 67 (sumC true l.length (run init l (l.length / 64)).list B).toArray ∧ B.take (l.length % 64) = l.drop (64 * (l.length / 64))
theorem SumAt.on {w w' : World} {g : Nat} {l : List Nat} (h : SumAt w g l) (hb : Below w.heap.size w w') : SumAt w' g l := by
  obtain ⟨B, h1, h2, h3, h4⟩ := h
  exact ⟨B, h1, h2, h3.on hb, h4⟩
theorem SumAt.lt {w : World} {g : Nat} {l : List Nat} (h : SumAt w g l) : g < w.heap.size := by
  obtain ⟨B, h1, h2, h3, h4⟩ := h
  exact h3.lt
theorem SumAt.grown {w w' : World} {g k : Nat} {l : List Nat} (h : SumAt w g l) (hg : w.grownBy w' (some k)) (hne : g ≠ k) : SumAt w' g l := by
  obtain ⟨B, h1, h2, h3, h4⟩ := h
  exact ⟨B, h1, h2, h3.grown hg (by simpa using hne), h4⟩
theorem Tabs.grown {w w' : World} {g : Nat} (h : Tabs w) (hg : w.grownBy w' (some g)) (h0 : g ≠ 0) (h1 : g ≠ 1) : Tabs w' := by
  refine ⟨fun i hi => ?_, fun j v hv => ?_⟩
  · have := h.k i hi
    have hb := hg.block 1 h.lt1 (by simpa using fun e => h1 e.symm)
    simpa [World.cell?, hb] using this
  · have := h.h j v hv
    have hb := hg.block 0 (by have := h.lt1; omega) (by simpa using fun e => h0 e.symm)
    simpa [World.cell?, hb] using this
/-- a block's new bytes -/
theorem block_step (B L x : List Nat) (r : Nat) (hB : B.length = 64) (hr : r = L.length % 64) (hx : r + x.length ≤ 64) (h : B.take r = L.drop (64 * (L.length / 64))) :
    (B.take r ++ x ++ B.drop (r + x.length)).length = 64 ∧ (B.take r ++ x ++ B.drop (r + x.length)).take (r + x.length) = (L ++ x).drop (64 * (L.length / 64)) := by
  have hl : (B.take r).length = r := by rw [List.length_take]; omega
  refine ⟨by simp; omega, ?_⟩
  rw [List.take_append_of_le_length (by simp; omega), List.take_of_length_le (by simp; omega), h, List.drop_append_of_le_length (by omega)]
theorem size_sum : (Tryd.prog.info? 67).map (·.size) = some 74 := by kernel_rfl
theorem sumC_len (m : Bool) (n : Nat) (S B : List Nat) (hS : S.length = 8) (hB : B.length = 64) : (sumC m n S B).length = 74 := by simp [sumC, hs_len, bs_len, hS, hB]
theorem build_sum (w : World) : (Instr.build 67 #[(0, .bool true), (2, .agg (hs init.list).toArray)]).run Tryd.prog w = .ok (.agg (sumC true 0 init.list (List.replicate 64 0)).toArray) w := by kernel_rfl
section
variable {ops : Array Oper} {Q : Exit → Act → World → Prop} {rest : List Oper} {a : Act} {w : World} {d : Tmp} {ty : TypeId} {pos : String} {after : Array Edge} {x y : Operand}
theorem law_buildSum (hx : a.eval x = .agg (hs init.list).toArray)
    (h : wpList Tryd.prog ops Q rest (a.put (some d) (.agg (sumC true 0 init.list (List.replicate 64 0)).toArray)) w) : wpList Tryd.prog ops Q (⟨some d, .build 67 #[(0, .const (.bool true)), (2, x)], ty, pos, after, none⟩ :: rest) a w := by
  refine law_value rfl ?_ h
  have e : (#[(0, Operand.const (.bool true)), (2, x)] : Array (Nat × Operand)).map (fun p => (p.1, a.eval p.2)) = #[(0, .bool true), (2, .agg (hs init.list).toArray)] := by simp only [List.map_toArray, List.map_cons, List.map_nil, hx]; rfl
  simp only [execOp]
  rw [show (#[(0, Operand.const (.bool true)), (2, x)] : Array (Nat × Operand)).map (fun (i, x) => (i, a.eval x)) = #[(0, .bool true), (2, .agg (hs init.list).toArray)] from e]
  simp only [Sem.run_bind, build_sum, Result.andThen_ok, Sem.run_pure]
end
set_option maxRecDepth 100000 in
theorem new_ok (w : World) (T : Tabs w) : Calls Tryd.prog 9 #[] w fun e w' => e = .returned (.pointer (some ⟨w.heap.size, 0, none⟩)) ∧ SumAt w' w.heap.size [] ∧ Below w.heap.size w w' := by
  have TT := Lib.hid T
  clear T
  go_enter Tryd.func9, Tryd.ntmps9
  go_wp2_with (first | (refine law_load (ty := 64) 0 0 (hs init.list) _ rfl TT.out.h under_eight rfl (by rw [size_eight]; rfl) ?_) | (refine law_buildSum rfl ?_) | (refine law_box (ty := 67) (sumC true 0 init.list (List.replicate 64 0)).toArray rfl ?_; intro w1 N1))
  go_ret
  exact ⟨rfl, ⟨List.replicate 64 0, by simp, by intro y hy; rw [(List.mem_replicate.1 hy).2]; decide, N1.at_, rfl⟩, N1.bel⟩
end Go.Proofs.YtkmjfaaelkmnkaaDoor
