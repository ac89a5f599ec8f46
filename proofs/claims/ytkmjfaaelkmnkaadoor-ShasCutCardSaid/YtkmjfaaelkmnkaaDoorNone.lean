/-
  ShasNone: a sum that is not there, or that no call made, takes nothing, and has noughts.
-/
import Derived.Test.YtkmjfaaelkmnkaaDoorAbsent
import Derived.Test.YtkmjfaaelkmnkaaDoorEqH
namespace Go.Proofs.YtkmjfaaelkmnkaaDoor
open Go.RowKit
set_option linter.unusedSimpArgs false
set_option linter.unusedVariables false

/-- a sum's cells: made, how many bytes, the numbers, the block -/
def sumC (m : Bool) (n : Nat) (S B : List Nat) : List Value := .bool m :: .int .u64 (n : Nat) :: (hs S ++ bs B)
theorem build_none (ρ : Operand → Value) (w : World) (dst : Option Tmp) (ty : TypeId) (pos : String) (after : Array Edge) (gd : Option (Nat × Bool)) :
    (execOp ρ ⟨dst, .build 67 #[], ty, pos, after, gd⟩).run Tryd.prog w = .ok (.value (.agg (sumC false 0 (List.replicate 8 0) (List.replicate 64 0)).toArray)) w := by kernel_rfl
theorem law_buildNone {ops : Array Oper} {Q : Exit → Act → World → Prop} {rest : List Oper} {a : Act} {w : World} {d : Tmp} {ty : TypeId} {pos : String} {after : Array Edge}
    (h : wpList Tryd.prog ops Q rest (a.put (some d) (.agg (sumC false 0 (List.replicate 8 0) (List.replicate 64 0)).toArray)) w) : wpList Tryd.prog ops Q (⟨some d, .build 67 #[], ty, pos, after, none⟩ :: rest) a w :=
  law_value rfl (build_none _ _ _ _ _ _ _) h

theorem eqZero (w : World) : (Op.equalIn 10000 28 (.agg #[.int .u8 0, .int .u8 0, .int .u8 0, .int .u8 0, .int .u8 0, .int .u8 0, .int .u8 0, .int .u8 0, .int .u8 0, .int .u8 0, .int .u8 0, .int .u8 0, .int .u8 0, .int .u8 0, .int .u8 0, .int .u8 0, .int .u8 0, .int .u8 0, .int .u8 0, .int .u8 0, .int .u8 0, .int .u8 0, .int .u8 0, .int .u8 0, .int .u8 0, .int .u8 0, .int .u8 0, .int .u8 0, .int .u8 0, .int .u8 0, .int .u8 0, .int .u8 0]) (.agg #[.int .u8 0, .int .u8 0, .int .u8 0, .int .u8 0, .int .u8 0, .int .u8 0, .int .u8 0, .int .u8 0, .int .u8 0, .int .u8 0, .int .u8 0, .int .u8 0, .int .u8 0, .int .u8 0, .int .u8 0, .int .u8 0, .int .u8 0, .int .u8 0, .int .u8 0, .int .u8 0, .int .u8 0, .int .u8 0, .int .u8 0, .int .u8 0, .int .u8 0, .int .u8 0, .int .u8 0, .int .u8 0, .int .u8 0, .int .u8 0, .int .u8 0, .int .u8 0])).run Tryd.prog w = .ok true w := eqRaw 0 0 0 0 0 0 0 0 0 0 0 0 0 0 0 0 0 0 0 0 0 0 0 0 0 0 0 0 0 0 0 0 w
theorem hash_zero (v : Value) (w : World) (h : Gone w v) :
    Calls Tryd.prog 10 #[v] w fun e w' => e = .returned (.agg #[.int .u8 0, .int .u8 0, .int .u8 0, .int .u8 0, .int .u8 0, .int .u8 0, .int .u8 0, .int .u8 0, .int .u8 0, .int .u8 0, .int .u8 0, .int .u8 0, .int .u8 0, .int .u8 0, .int .u8 0, .int .u8 0, .int .u8 0, .int .u8 0, .int .u8 0, .int .u8 0, .int .u8 0, .int .u8 0, .int .u8 0, .int .u8 0, .int .u8 0, .int .u8 0, .int .u8 0, .int .u8 0, .int .u8 0, .int .u8 0, .int .u8 0, .int .u8 0]) ∧ Below w.heap.size w w' := hash_gone v w h

end Go.Proofs.YtkmjfaaelkmnkaaDoor
