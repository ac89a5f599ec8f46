/-
  How the statements' arguments are read: bytes.
-/
import Derived.Test.YtkmjfaaelkmnkaaDoorRows
import Derived.Test.YtkmjfaaelkmnkaaDoorWords
import Derived.ProofKit
import Derived.OpenShut
import Derived.ShutString
import Derived.ChangeOld
import Derived.SizedLaws
import Derived.Below
namespace Go.Proofs.YtkmjfaaelkmnkaaDoor
open Go.ChangeShapes Go.WideShapes Go.ChangeAt Go.RowKit

theorem own : ownKnob Tryd.prog.godebug = none := by kernel_rfl
theorem laidOut : laidOutB Tryd.prog = true := by kernel_rfl
theorem cellsSl : Tryd.prog.cellsOf 22 = 1 := by kernel_rfl
theorem cellsBy : Tryd.prog.cellsOf 5 = 1 := by kernel_rfl
theorem bytesBy : Tryd.prog.bytesOf 5 = 1 := by kernel_rfl

/-- bytes that came in -/
def InB (w : World) (A : Option Addr) (n c : Nat) (l : List Nat) : Prop := n ≤ c ∧ c ≤ 9223372036854775807 ∧ (A = none → n = 0 ∧ c = 0) ∧ Rd w A n (bs l) ∧ ∀ y ∈ l, y < 256

theorem weigh {H : Type} {ts : List TypeId} {ds : List (DataW H)} (h : (DataW.weightsEach Tryd.prog ts ds).all (· ≤ reachBytes) = true) {j : Nat} {t : TypeId} {d : DataW H} (ht : ts[j]? = some t) (hd : ds[j]? = some d) :
    ∀ n ∈ d.weights Tryd.prog t, n ≤ 140737488351232 := by
  intro n hn
  have := List.all_eq_true.1 h n (DataW.weights_mem_each ht hd n hn)
  have h2 : n ≤ reachBytes := of_decide_eq_true this
  exact h2

section
variable {H : Type} {enc : TypeId × Value → H} {w : World} {held : Bool}

theorem open_bytes {fuel : Nat} {cs : List Value} {x : DataW H × List MemPlace} (h : DataW.trod enc Tryd.prog w 0 (fun _ => true) held fuel 22 cs = some x) :
    ∃ A n c l, cs = [.slice A n c] ∧ InB w A n c l ∧ ((∀ m ∈ x.1.weights Tryd.prog 22, m ≤ 140737488351232) → n ≤ 140737488351232) := by
  rcases open_ints Tryd.underlying22 Tryd.underlying5 cellsBy h with ⟨hcs, hx⟩ | ⟨a, len, cap, zs, hcs, _, hl, hm, hz, hx, hcell, hwz⟩
  · exact ⟨none, 0, 0, [], hcs, ⟨Nat.le_refl _, Nat.zero_le _, fun _ => ⟨rfl, rfl⟩, Rd.nil _ _, by simp⟩, fun _ => Nat.zero_le _⟩
  · simp only [if_true] at hz
    have hb : ∀ z ∈ zs, 0 ≤ z ∧ z ≤ 255 := fun z hz => bounds_u8 (hwz z hz)
    have hg : ∀ i, i < len → (((zs.take len).map Int.toNat).getD i 0 : Nat) = zs.getD i 0 := by
      intro i hi
      have h1 : i < zs.length := by omega
      have := hb zs[i] (List.getElem_mem h1)
      simp [hi, h1]
      omega
    refine ⟨some a, len, cap, (zs.take len).map Int.toNat, hcs, ⟨hl, by unfold maxLen at hm; omega, by simp, ⟨by simp [bs]; omega, fun hp => ?_⟩, ?_⟩, fun hw => ?_⟩
    · obtain ⟨b, off, spot⟩ := a
      have hc := hcell 0 (by omega)
      have hspot : spot = none := by simpa [Addr.add] using World.cell?_spot hc
      subst hspot
      refine ⟨b, off, rfl, World.block_lt_of_cell? w _ (hcell 0 (by omega)), fun j u hu => ?_⟩
      have hj : j < len := by
        have := (List.getElem?_eq_some_iff.1 hu).1
        simp [bs] at this
        omega
      rw [bs_at _ j (by simp; omega)] at hu
      obtain rfl := Option.some.inj hu
      have := hcell j (by omega)
      rw [Addr.add_lit] at this
      rw [this, hg j hj]
    · intro y hy
      obtain ⟨z, hz1, rfl⟩ := List.mem_map.1 hy
      have := hb z (List.mem_of_mem_take hz1)
      omega
    · have := hw ((lits .u8 (zs.take len) : List (DataW H)).length + (lits .u8 (zs.drop len) : List (DataW H)).length) (by
        rw [hx]
        simp [DataW.weights, Tryd.underlying22, bytesBy])
      simp [lits] at this
      omega
end

/-- a table's cells, off what the row says that it holds -/
def tabCells : DataW Unit → Array Value
  | .agg ds => (ds.map fun | .lit (.int k z) => Value.int k z | _ => undef).toArray
  | _ => #[]
def lay (c : Array Value) : Obj → Obj
  | .cells _ t frozen => .cells c t frozen
  | o => o
/-- a world for the witness: the settled one, the tables holding what their initialisers lay -/
noncomputable def laidWorld (os : Os) : World :=
  { World.holding Tryd.prog os ⟨#[], #[], []⟩ with heap := (((World.holding Tryd.prog os ⟨#[], #[], []⟩).heap.modify 0 (lay (tabCells Rows.laid_balefire_shas_squares))).modify 1 (lay (tabCells Rows.laid_balefire_shas_cubes))) }

set_option maxRecDepth 100000 in
theorem sl_of {w : World} {base : Nat} {v : Value} {A : Option Addr} {n c : Nat} (h : v.cells.toList = [Value.slice A n c]) (hv : Value.okWide Tryd.prog w .any base 22 v) : v = .slice A n c := by
  obtain ⟨a, len, cap, rfl⟩ := okWide_slice (P := Tryd.prog) Tryd.underlying22 hv
  simpa [Value.cells] using h
end Go.Proofs.YtkmjfaaelkmnkaaDoor
