/-
  How the statements' arguments are read: bytes, and two lists of bytes in an array.
-/
import Derived.Test.YtjleelpnkkeakaaRows
import Derived.Test.YtjleelpnkkeakaaWords
import Derived.ProofKit
import Derived.OpenShut
import Derived.ShutString
import Derived.ChangeOld
import Derived.SizedLaws
import Derived.Below
namespace Go.Proofs.Ytjleelpnkkeakaa
open Go.ChangeShapes Go.WideShapes Go.ChangeAt Go.RowKit

theorem own : ownKnob Try.prog.godebug = none := by kernel_rfl
theorem laidOut : laidOutB Try.prog = true := by kernel_rfl
theorem Try.cells27 : Try.prog.cellsOf 27 = 1 := by kernel_rfl
theorem Try.cells5 : Try.prog.cellsOf 5 = 1 := by kernel_rfl
theorem Try.cells28 : Try.prog.cellsOf 28 = 2 := by kernel_rfl
theorem Try.bytes5 : Try.prog.bytesOf 5 = 1 := by kernel_rfl

/-- bytes that came in -/
def InB (w : World) (A : Option Addr) (n c : Nat) (l : List Nat) : Prop := n ≤ c ∧ c ≤ 9223372036854775807 ∧ (A = none → n = 0 ∧ c = 0) ∧ Rd w A n (bs l) ∧ ∀ y ∈ l, y < 256

theorem weigh {H : Type} {ts : List TypeId} {ds : List (DataW H)} (h : (DataW.weightsEach Try.prog ts ds).all (· ≤ reachBytes) = true) {j : Nat} {t : TypeId} {d : DataW H} (ht : ts[j]? = some t) (hd : ds[j]? = some d) :
    ∀ n ∈ d.weights Try.prog t, n ≤ 140737488351232 := by
  intro n hn
  have := List.all_eq_true.1 h n (DataW.weights_mem_each ht hd n hn)
  have h2 : n ≤ reachBytes := of_decide_eq_true this
  exact h2

section
variable {H : Type} {enc : TypeId × Value → H} {w : World} {held : Bool}

theorem open_bytes {fuel : Nat} {cs : List Value} {x : DataW H × List MemPlace} (h : DataW.trod enc Try.prog w 0 (fun _ => true) held fuel 27 cs = some x) :
    ∃ A n c l, cs = [.slice A n c] ∧ InB w A n c l ∧ ((∀ m ∈ x.1.weights Try.prog 27, m ≤ 140737488351232) → n ≤ 140737488351232) := by
  rcases open_ints Try.underlying27 Try.underlying5 Try.cells5 h with ⟨hcs, hx⟩ | ⟨a, len, cap, zs, hcs, _, hl, hm, hz, hx, hcell, hwz⟩
  · exact ⟨none, 0, 0, [], hcs, ⟨Nat.le_refl _, Nat.zero_le _, fun _ => ⟨rfl, rfl⟩, Rd.nil _ _, by simp⟩, fun _ => Nat.zero_le _⟩
  · simp only [if_true] at hz
    have hb : ∀ z ∈ zs, 0 ≤ z ∧ z ≤ 255 := fun z hz => bounds_u8 (hwz z hz)
    have hg : ∀ i, i < len → (((zs.take len).map Int.toNat).getD i 0 : Nat) = zs.getD i 0 := by
      intro i hi
      have h1 : i < zs.length := by omega
      have := hb zs[i] (List.getElem_mem h1)
      simp [hi, h1]
      omega
    refine ⟨some a, len, cap, (zs.take len).map Int.toNat, hcs, ⟨hl, by unfold maxLen at hm; omega, by simp, ⟨by simp [bs]; omega, fun hp => ?_⟩, ?_⟩, fun hw => ?_⟩
    · obtain ⟨b, off, spot⟩ := a
      have hc := hcell 0 (by omega)
      have hspot : spot = none := by simpa [Addr.add] using World.cell?_spot hc
      subst hspot
      refine ⟨b, off, rfl, World.block_lt_of_cell? w _ (hcell 0 (by omega)), fun j u hu => ?_⟩
      have hj : j < len := by
        have := (List.getElem?_eq_some_iff.1 hu).1
        simp [bs] at this
        omega
      rw [bs_at _ j (by simp; omega)] at hu
      obtain rfl := Option.some.inj hu
      have := hcell j (by omega)
      rw [Addr.add_lit] at this
      rw [this, hg j hj]
    · intro y hy
      obtain ⟨z, hz1, rfl⟩ := List.mem_map.1 hy
      have := hb z (List.mem_of_mem_take hz1)
      omega
    · have := hw ((lits .u8 (zs.take len) : List (DataW H)).length + (lits .u8 (zs.drop len) : List (DataW H)).length) (by
        rw [hx]
        simp [DataW.weights, Try.underlying27, Try.bytes5])
      simp [lits] at this
      omega

theorem okWide_arr {base n : Nat} {t e : TypeId} {v : Value} (ht : Try.prog.underlying t = some (.array n e)) (h : Value.okWide Try.prog w .any base t v) : ∃ cs, v = .agg cs ∧ cs.size = Try.prog.cellsOf t := by
  simp only [Value.okWide, ht] at h
  obtain ⟨cs, h1, h2, _⟩ := h
  exact ⟨cs, h1, h2⟩

/-- two lists of bytes in an array -/
theorem open_two {base : Nat} {v : Value} {d : DataW H} {p : List MemPlace} (hv : Value.okWide Try.prog w .any base 28 v) (h : DataW.Trod enc Try.prog w 0 (fun _ => true) held 28 v d p) :
    ∃ A0 n0 c0 l0 A1 n1 c1 l1, v = .agg #[.slice A0 n0 c0, .slice A1 n1 c1] ∧ InB w A0 n0 c0 l0 ∧ InB w A1 n1 c1 l1 ∧
      ((∀ m ∈ d.weights Try.prog 28, m ≤ 140737488351232) → n0 ≤ 140737488351232 ∧ n1 ≤ 140737488351232) := by
  obtain ⟨cs, rfl, hsz⟩ := okWide_arr Try.underlying28 hv
  obtain ⟨fuel, hf⟩ := h
  obtain ⟨xs, m, rfl, hx, hl, hn, he⟩ := DataW.trod_array Try.underlying28 hf
  rw [Try.cells28] at hsz
  rw [Try.cells27] at he
  have e0 := he 0 (by omega)
  have e1 := he 1 (by omega)
  match xs, hn with
  | [x0, x1], _ =>
    obtain ⟨cs⟩ := cs
    match cs, hsz with
    | [a, b], _ =>
      simp [Value.cells] at e0 e1
      obtain ⟨A0, n0, c0, l0, g0, i0, k0⟩ := open_bytes e0
      obtain ⟨A1, n1, c1, l1, g1, i1, k1⟩ := open_bytes e1
      simp at g0 g1
      subst g0 g1
      refine ⟨A0, n0, c0, l0, A1, n1, c1, l1, rfl, i0, i1, fun hw => ?_⟩
      have hd : d = .agg [x0.1, x1.1] := by injection hx
      subst hd
      exact ⟨k0 fun m hm => hw m (by simp [DataW.weights, Try.underlying28, DataW.weightsAll, hm]), k1 fun m hm => hw m (by simp [DataW.weights, Try.underlying28, DataW.weightsAll, hm])⟩
end
end Go.Proofs.Ytjleelpnkkeakaa
