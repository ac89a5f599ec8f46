/-
  Function values among the operations of a region that draws its order; a call that writes one block that was there.
-/
import Derived.Laws.EntriesVeiled
import Derived.Test.YtodlpmepoakdlaaWChain
import Derived.Test.YtodlpmepoakdlaaWLens
import Derived.Test.YtodlpmepoakdlaaWMod1
namespace Go.Proofs.Ytodlpmepoakdlaa
set_option maxRecDepth 100000
open Go.RowKit
set_option linter.unusedSimpArgs false
set_option linter.unusedVariables false
attribute [local go_sem ↓] Go.wp_at_zero Go.wp_at_succ

section
variable {P : Program} {ops : Array Oper} {Q : Exit → Act → World → Prop} {md : Region.Mode} {S : World → Prop} {a : Act} {W : World} {cores : List Core}
/-- an operation that reads memory of which S tells -/
theorem core_held (c : Core) (op : Op) (ty : TypeId) (pos : String) (after : Array Edge) (u : Value) (x : Operand) (xv : Value)
    (ho : ops[c.i]? = some ⟨some c.d, op, ty, pos, after, none⟩) (hk : c.kind = Kind.val u) (hx : Known a cores c.pre x xv)
    (h : ∀ (ρ : Operand → Value) (w : World), ρ x = xv → S w → (execOp ρ ⟨some c.d, op, ty, pos, after, none⟩).run P w = .ok (.value u) w) : PureOK P ops S a W cores c := by
  intro _
  refine ⟨by rw [hk]; rfl, fun vs w hl _ hp o ho' => ?_⟩
  rw [ho] at ho'
  obtain rfl := Option.some.inj ho'
  exact ⟨u, by rw [hk]; exact rfl, Or.inl ⟨rfl, fun w' hS => h _ w' (hx vs w hl hp) hS⟩⟩
end

/-- all that was there stays, but block g; the world may have grown -/
structure Kept (g : Nat) (w w' : World) : Prop where
  os : w'.os = w.os
  tape : w'.tape = w.tape
  output : w'.output = w.output
  size : w.heap.size ≤ w'.heap.size
  block : ∀ k, k < w.heap.size → k ≠ g → w'.heap[k]? = w.heap[k]?
theorem Kept.trans {g : Nat} {a b c : World} (h : Kept g a b) (k : Kept g b c) : Kept g a c :=
  ⟨k.os.trans h.os, k.tape.trans h.tape, k.output.trans h.output, Nat.le_trans h.size k.size, fun i hi hg => (k.block i (Nat.lt_of_lt_of_le hi h.size) hg).trans (h.block i hi hg)⟩
theorem Kept.put4 (w : World) (g : Nat) (a b c d : Value) : Kept g w (put4 w g a b c d) := by
  have one : ∀ (w : World) (i : Nat) (v : Value), Kept g w (w.setCell ⟨g, i, none⟩ v) := fun w i v =>
    ⟨rfl, rfl, rfl, by simp [World.setCell], fun k hk hg => by simp [World.setCell, Array.getElem?_modify, Ne.symm hg]⟩
  unfold Go.Proofs.Ytodlpmepoakdlaa.put4
  exact (((one w 0 a).trans (one _ 1 b)).trans (one _ 2 c)).trans (one _ 3 d)
theorem At.put8 {w : World} {g : Nat} {t : TypeId} {a b c d e f i j : Value} (h : At w g t #[a, b, c, d, e, f, i, j]) (a' b' c' d' e' f' i' j' : Value) :
    At ((((((((w.setCell ⟨g, 0, none⟩ a').setCell ⟨g, 1, none⟩ b').setCell ⟨g, 2, none⟩ c').setCell ⟨g, 3, none⟩ d').setCell ⟨g, 4, none⟩ e').setCell ⟨g, 5, none⟩ f').setCell ⟨g, 6, none⟩ i').setCell ⟨g, 7, none⟩ j') g t #[a', b', c', d', e', f', i', j'] := by
  have := (((((((h.set 0 a').set 1 b').set 2 c').set 3 d').set 4 e').set 5 f').set 6 i').set 7 j'
  simpa using this
theorem At.far8 {w : World} {g p : Nat} {t : TypeId} {cs : Array Value} (h : At w g t cs) (hne : g ≠ p) (a' b' c' d' e' f' i' j' : Value) :
    At ((((((((w.setCell ⟨p, 0, none⟩ a').setCell ⟨p, 1, none⟩ b').setCell ⟨p, 2, none⟩ c').setCell ⟨p, 3, none⟩ d').setCell ⟨p, 4, none⟩ e').setCell ⟨p, 5, none⟩ f').setCell ⟨p, 6, none⟩ i').setCell ⟨p, 7, none⟩ j') g t cs :=
  (((((((h.far (p := ⟨p, 0, none⟩) hne.symm a').far (p := ⟨p, 1, none⟩) hne.symm b').far (p := ⟨p, 2, none⟩) hne.symm c').far (p := ⟨p, 3, none⟩) hne.symm d').far (p := ⟨p, 4, none⟩) hne.symm e').far (p := ⟨p, 5, none⟩) hne.symm f').far (p := ⟨p, 6, none⟩) hne.symm i').far (p := ⟨p, 7, none⟩) hne.symm j'
end Go.Proofs.Ytodlpmepoakdlaa
