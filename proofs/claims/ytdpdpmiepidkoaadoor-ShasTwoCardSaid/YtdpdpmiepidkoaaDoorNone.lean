/-
  ShasNone: a sum that is not there, or that no call made, takes nothing, and has noughts.
-/
import Derived.Test.YtdpdpmiepidkoaaDoorAbsent
import Derived.Test.YtdpdpmiepidkoaaDoorEqH
namespace Go.Proofs.YtdpdpmiepidkoaaDoor
open Go.RowKit
set_option linter.unusedSimpArgs false
set_option linter.unusedVariables false

/-- a sum's cells: made, how many bytes, the numbers, the block -/
def sumC (m : Bool) (n : Nat) (S B : List Nat) : List Value := .bool m :: .int .u64 (n : Nat) :: (hs S ++ bs B)
theorem build_none (ρ : Operand → Value) (w : World) (dst : Option Tmp) (ty : TypeId) (pos : String) (after : Array Edge) (gd : Option (Nat × Bool)) :
    (execOp ρ ⟨dst, .build 44 #[], ty, pos, after, gd⟩).run Tryd.prog w = .ok (.value (.agg (sumC false 0 (List.replicate 8 0) (List.replicate 64 0)).toArray)) w := by kernel_rfl
theorem law_buildNone {ops : Array Oper} {Q : Exit → Act → World → Prop} {rest : List Oper} {a : Act} {w : World} {d : Tmp} {ty : TypeId} {pos : String} {after : Array Edge}
    (h : wpList Tryd.prog ops Q rest (a.put (some d) (.agg (sumC false 0 (List.replicate 8 0) (List.replicate 64 0)).toArray)) w) : wpList Tryd.prog ops Q (⟨some d, .build 44 #[], ty, pos, after, none⟩ :: rest) a w :=
  law_value rfl (build_none _ _ _ _ _ _ _) h

theorem eqZero (w : World) : (Op.equalIn 10000 25 (.agg #[.int .u8 0, .int .u8 0, .int .u8 0, .int .u8 0, .int .u8 0, .int .u8 0, .int .u8 0, .int .u8 0, .int .u8 0, .int .u8 0, .int .u8 0, .int .u8 0, .int .u8 0, .int .u8 0, .int .u8 0, .int .u8 0, .int .u8 0, .int .u8 0, .int .u8 0, .int .u8 0, .int .u8 0, .int .u8 0, .int .u8 0, .int .u8 0, .int .u8 0, .int .u8 0, .int .u8 0, .int .u8 0, .int .u8 0, .int .u8 0, .int .u8 0, .int .u8 0]) (.agg #[.int .u8 0, .int .u8 0, .int .u8 0, .int .u8 0, .int .u8 0, .int .u8 0, .int .u8 0, .int .u8 0, .int .u8 0, .int .u8 0, .int .u8 0, .int .u8 0, .int .u8 0, .int .u8 0, .int .u8 0, .int .u8 0, .int .u8 0, .int .u8 0, .int .u8 0, .int .u8 0, .int .u8 0, .int .u8 0, .int .u8 0, .int .u8 0, .int .u8 0, .int .u8 0, .int .u8 0, .int .u8 0, .int .u8 0, .int .u8 0, .int .u8 0, .int .u8 0])).run Tryd.prog w = .ok true w := eqRaw 0 0 0 0 0 0 0 0 0 0 0 0 0 0 0 0 0 0 0 0 0 0 0 0 0 0 0 0 0 0 0 0 w
theorem hash_zero (v : Value) (w : World) (h : Gone w v) :
    Calls Tryd.prog 16 #[v] w fun e w' => e = .returned (.agg #[.int .u8 0, .int .u8 0, .int .u8 0, .int .u8 0, .int .u8 0, .int .u8 0, .int .u8 0, .int .u8 0, .int .u8 0, .int .u8 0, .int .u8 0, .int .u8 0, .int .u8 0, .int .u8 0, .int .u8 0, .int .u8 0, .int .u8 0, .int .u8 0, .int .u8 0, .int .u8 0, .int .u8 0, .int .u8 0, .int .u8 0, .int .u8 0, .int .u8 0, .int .u8 0, .int .u8 0, .int .u8 0, .int .u8 0, .int .u8 0, .int .u8 0, .int .u8 0]) ∧ Below w.heap.size w w' := hash_gone v w h

theorem none_walk (A : Option Addr) (n c : Nat) (w : World) :
    Calls Tryd.prog 5 #[.slice A n c] w fun e w' => e = .returned (.bool true) ∧ Below w.heap.size w w' := by
  go_enter Tryd.func5, Tryd.ntmps5
  go_wp2_with (first | refine law_buildNone ?_ | (refine law_box (ty := 44) (sumC false 0 (List.replicate 8 0) (List.replicate 64 0)).toArray rfl ?_; intro w1 N1))
  have L1 := N1.at_
  have B1 := N1.bel
  clear N1
  have NS : At (w1.alloc (.cells #[.pointer none, .pointer (some ⟨w.heap.size, 0, none⟩)] 32)) w1.heap.size 32 #[.pointer none, .pointer (some ⟨w.heap.size, 0, none⟩)] := At.new _ _ _
  have L2 := L1.alloc (.cells #[.pointer none, .pointer (some ⟨w.heap.size, 0, none⟩)] 32)
  have B2 := gr_alloc B1 (.cells #[.pointer none, .pointer (some ⟨w.heap.size, 0, none⟩)] 32)
  generalize (w1.alloc (.cells #[.pointer none, .pointer (some ⟨w.heap.size, 0, none⟩)] 32)) = W at *
  generalize w1.heap.size = gs at *
  generalize hgb : w.heap.size = gb at *
  have g0 : W.cell? ⟨gs, 0, none⟩ = some (.pointer none) := NS.cell 0
  have g1 : W.cell? ⟨gs, 1, none⟩ = some (.pointer (some ⟨gb, 0, none⟩)) := NS.cell 1
  have g2 : W.cell? ⟨gb, 0, none⟩ = some (.bool false) := L2.cell 0
  clear NS L2 L1 B1
  go_loopw [4] (fun s wr => ∃ k : Nat, k ≤ 2 ∧ s = .int .i64 k ∧ Below W.heap.size W wr) (fun s _ => 2 - (intOf s).toNat)
  case atStart => exact ⟨0, by omega, rfl, Below.refl _ _⟩
  case round =>
    obtain ⟨k, hk, rfl, hb⟩ := hrel
    have EQ := eqZero
    have HB := Lib.hid hb
    by_cases hlt : k < 2
    · obtain ⟨v, hv, hg⟩ : ∃ v, wr.cell? ⟨gs, k, none⟩ = some v ∧ Gone wr v := by
        obtain rfl | rfl : k = 0 ∨ k = 1 := by omega
        · exact ⟨_, cell_on hb g0, .inl rfl⟩
        · exact ⟨_, cell_on hb g1, .inr ⟨gb, rfl, cell_on hb g2⟩⟩
      have G := Lib.hid hg
      clear g0 g1 g2 hg hb
      have C1 := Lib.hid (write_gone v A n c wr G.out)
      have C2 := Lib.hid (hash_zero v wr G.out)
      go_wp2_with (first | (go_at_call 15; refine C1.out.mono ?_; rintro e w' ⟨rfl, rfl⟩) | (go_at_call 16; refine C2.out.mono ?_; rintro e w3 ⟨rfl, B3⟩) | simp only [EQ])
      go_roundw
      case rel => exact ⟨k + 1, by omega, by go_num, bel_tr HB.out B3⟩
      case measure => simp [intOf]; omega
    · obtain rfl : k = 2 := by omega
      clear g0 g1 g2 hb
      go_wp2
      go_ret
      exact ⟨rfl, by rw [← hgb] at *; exact bel_tr B2 HB.out⟩
end Go.Proofs.YtdpdpmiepidkoaaDoor
