/-
  The same rules inside a round of a range over a function.
-/
import Derived.RangeFuncNested
import Derived.RangeFuncLeaves
import Derived.TacticsIn
import Derived.OwnWalkIn
import Derived.Deep.Cut
import Derived.Test.YtodlpmepoakdlaaVSmall
import Derived.Test.YtodlpmepoakdlaaVSxD
import Derived.Test.YtodlpmepoakdlaaVSxF
namespace Go.Proofs.Ytodlpmepoakdlaa
set_option maxRecDepth 100000
open Go.RowKit
set_option linter.unusedSimpArgs false
set_option linter.unusedVariables false

/-- the fence of a round -/
abbrev RW (l : Nat) : Fence := Fence.wide.inRound l
section
variable {P : Program} {ops : Array Oper} {Q : Exit → Act → World → Prop} {a : Act} {n0 : Nat} {w w0 : World} {rest : List Oper} {o : Oper} {N : Nat} {L : List (Nat × Value)} {df : List Deferred} {M : List (Nat × TypeId × Array Value)} {l n : Nat}
/-- blocks stay behind the turn of a block that is no cells -/
theorem Mem.grown {w' : World} {row : Option Nat} (H : Mem n0 w0 w M) (hg : w.grownBy w' row) (hr : ∀ r, row = some r → w0.heap.size ≤ r ∧ ∃ o : Obj, w.heap[r]? = some o ∧ o.isCells = false) : Mem n0 w0 w' M := by
  have far : ∀ k, k < w.heap.size → (∀ r, row = some r → k ≠ r) → w'.heap[k]? = w.heap[k]? := fun k hk hn => hg.block k hk (fun e => hn k e.symm rfl)
  refine ⟨H.le, H.bel.grown hg (Nat.le_trans H.le H.bel.size) (fun r e => Nat.le_trans H.le (hr r e).1), ?_, fun x hx => ?_, H.own, H.nd⟩
  · refine ⟨Nat.le_trans H.oth.size hg.size, fun k o hk ho => ?_⟩
    have hlt := (Array.getElem?_eq_some_iff.1 hk).1
    have := H.oth.same k o hk ho
    rw [far k (Array.getElem?_eq_some_iff.1 this).1 (fun r e => by have := (hr r e).1; omega)]
    exact this
  · have h := H.at_ x hx
    show w'.heap[x.1]? = _
    rw [far x.1 h.lt (fun r e hx => ?_)]
    · exact h
    · obtain ⟨_, o, ho, hc⟩ := hr r e
      have h' : w.heap[r]? = some (.cells x.2.2 x.2.1 (0, 0)) := by rw [← hx]; exact h
      rw [h'] at ho; cases ho; cases hc
end
end Go.Proofs.Ytodlpmepoakdlaa

/-
  Further rules: arrays of four numbers, closures that take arguments, regions of steps alone; whole numbers.
-/
namespace Go.Proofs.Ytodlpmepoakdlaa
set_option maxRecDepth 100000
open Go.RowKit
set_option linter.unusedSimpArgs false
set_option linter.unusedVariables false
attribute [local go_sem ↓] Go.wp_at_zero Go.wp_at_succ

abbrev a4cs (X Y Z V : Nat) : Array Value := #[.int .u64 (wd X 0 : Nat), .int .u64 (wd X 1 : Nat), .int .u64 (wd X 2 : Nat), .int .u64 (wd X 3 : Nat), .int .u64 (wd Y 0 : Nat), .int .u64 (wd Y 1 : Nat), .int .u64 (wd Y 2 : Nat), .int .u64 (wd Y 3 : Nat), .int .u64 (wd Z 0 : Nat), .int .u64 (wd Z 1 : Nat), .int .u64 (wd Z 2 : Nat), .int .u64 (wd Z 3 : Nat), .int .u64 (wd V 0 : Nat), .int .u64 (wd V 1 : Nat), .int .u64 (wd V 2 : Nat), .int .u64 (wd V 3 : Nat)]
abbrev arr4 (X Y Z V : Nat) : Value := .agg #[.int .u64 (wd X 0 : Nat), .int .u64 (wd X 1 : Nat), .int .u64 (wd X 2 : Nat), .int .u64 (wd X 3 : Nat), .int .u64 (wd Y 0 : Nat), .int .u64 (wd Y 1 : Nat), .int .u64 (wd Y 2 : Nat), .int .u64 (wd Y 3 : Nat), .int .u64 (wd Z 0 : Nat), .int .u64 (wd Z 1 : Nat), .int .u64 (wd Z 2 : Nat), .int .u64 (wd Z 3 : Nat), .int .u64 (wd V 0 : Nat), .int .u64 (wd V 1 : Nat), .int .u64 (wd V 2 : Nat), .int .u64 (wd V 3 : Nat)]
section
variable {x y z : Operand} {dst : Option Tmp} {ty : TypeId} {pos : String} {after : Array Edge} {guard : Option (Nat × Bool)} {ρ : Operand → Value} {w : World} {g o : Nat} {P : Program}
end
section
variable {P : Program} {ops : Array Oper} {Q : Exit → Act → World → Prop} {a : Act} {n0 : Nat} {w w0 : World} {rest : List Oper} {o : Oper} {N : Nat} {L : List (Nat × Value)} {df : List Deferred} {M : List (Nat × TypeId × Array Value)}
variable {W : World} {cores : List Core}
end
end Go.Proofs.Ytodlpmepoakdlaa
