/-
  How an argument [][]byte is read.
-/
import Derived.Test.YtdpdpmiepidkoaaDoorOpen
import Derived.Test.YtdpdpmiepidkoaaDoorSize
import Derived.Deep.Matrix
namespace Go.Proofs.YtdpdpmiepidkoaaDoor
set_option linter.unusedSimpArgs false
set_option linter.unusedVariables false
open Go.ChangeShapes Go.WideShapes Go.ChangeAt Go.RowKit Go.Deep

theorem mem_weightsAll {H : Type} {P : Program} {e : TypeId} {m : Nat} {d : DataW H} : ∀ {l : List (DataW H)}, d ∈ l → m ∈ d.weights P e → m ∈ DataW.weightsAll P e l
  | [], h, _ => by cases h
  | x :: l, h, hm => by
    rw [DataW.weightsAll]
    rcases List.mem_cons.1 h with rfl | h
    · exact List.mem_append_left _ hm
    · exact List.mem_append_right _ (mem_weightsAll h hm)
theorem cellsSS : Tryd.prog.cellsOf 29 = 1 := by kernel_rfl
section
variable {H : Type} {enc : TypeId × Value → H} {w : World} {held : Bool}
theorem open_rows {fuel : Nat} {cs : List Value} {x : DataW H × List MemPlace} (h : DataW.trod enc Tryd.prog w 0 (fun _ => true) held fuel 29 cs = some x)
    (hw : ∀ m ∈ x.1.weights Tryd.prog 29, m ≤ 140737488351232) :
    ∃ A n c RA RL RC RB, cs = [.slice A n c] ∧ Rows2 w A n c RA RL RC RB ∧ n ≤ 9223372036854775807 := by
  rcases open_int_rows Tryd.underlying29 Tryd.underlying22 Tryd.underlying5 cellsSl cellsBy h with ⟨hcs, hx⟩ | ⟨a, len, cap, A, L, C, Z, hcs, _, hl, hm, hx, hrow⟩
  · exact ⟨none, 0, 0, fun _ => none, fun _ => 0, fun _ => 0, fun _ => [], hcs, ⟨Nat.le_refl _, Nat.zero_le _, fun j hj => absurd hj (Nat.not_lt_zero _), fun j hj => absurd hj (Nat.not_lt_zero _), fun j hj => absurd hj (Nat.not_lt_zero _), fun j hj => absurd hj (Nat.not_lt_zero _), fun j hj => absurd hj (Nat.not_lt_zero _)⟩, Nat.zero_le _⟩
  · unfold maxLen at hm
    refine ⟨some a, len, cap, A, L, C, fun r => ((Z r).take (L r)).map Int.toNat, hcs, ⟨hl, by omega, fun j hj => ?_, fun j hj => ?_, fun j hj => ?_, fun j hj => ?_, fun j hj => ?_⟩, by omega⟩
    · obtain ⟨b, off, spot⟩ := a
      have hc := (hrow j (by omega)).1
      have hspot : spot = none := by
        have h0 := (hrow 0 (by omega)).1
        simpa [Addr.add] using World.cell?_spot h0
      subst hspot
      rw [Addr.add_lit] at hc
      exact ⟨b, off, rfl, World.block_lt_of_cell? w _ hc, hc⟩
    · obtain ⟨_, h1, h2, h3, h4, h5, h6⟩ := hrow j (by omega)
      have hb : ∀ z ∈ Z j, 0 ≤ z ∧ z ≤ 255 := fun z hz => bounds_u8 (h4 z hz)
      have hg : ∀ i, i < L j → ((((Z j).take (L j)).map Int.toNat).getD i 0 : Nat) = (Z j).getD i 0 := by
        intro i hi
        have h1 : i < (Z j).length := by omega
        have := hb (Z j)[i] (List.getElem_mem h1)
        simp [hi, h1]
        omega
      refine ⟨by simp [bs]; omega, fun hp => ?_⟩
      cases hA : A j with
      | none => have := h5 hA; omega
      | some a' =>
        obtain ⟨b, off, spot⟩ := a'
        have hcell := (h6 _ hA).2
        have hspot : spot = none := by simpa [Addr.add] using World.cell?_spot (hcell 0 (by omega))
        subst hspot
        refine ⟨b, off, rfl, World.block_lt_of_cell? w _ (hcell 0 (by omega)), fun k u hu => ?_⟩
        have hk : k < L j := by
          have := (List.getElem?_eq_some_iff.1 hu).1
          simp [bs] at this
          omega
        rw [bs_at _ k (by simp; omega)] at hu
        obtain rfl := Option.some.inj hu
        have := hcell k (by omega)
        rw [Addr.add_lit] at this
        rw [this, hg k hk]
    · obtain ⟨_, h1, h2, h3, h4, h5, h6⟩ := hrow j (by omega)
      unfold maxLen at h2
      refine ⟨h1, by omega, ?_⟩
      cases hA : A j with
      | none => have := h5 hA; omega
      | some a' =>
        have hmem : ((lits .u8 ((Z j).take (L j)) : List (DataW H)).length + (lits .u8 ((Z j).drop (L j)) : List (DataW H)).length) ∈ (intRow .u8 (A j) (L j) (Z j) : DataW H).weights Tryd.prog 22 := by
          rw [hA]
          simp [intRow, DataW.weights, Tryd.underlying22, bytesBy]
        have h7 : ∀ m ∈ (intRow .u8 (A j) (L j) (Z j) : DataW H).weights Tryd.prog 22, m ≤ 140737488351232 := fun m hm => hw m (by
          rw [hx]
          simp only [DataW.weights, Tryd.underlying29]
          exact List.mem_cons_of_mem _ (List.mem_append_left _ (mem_weightsAll (List.mem_map.2 ⟨j, List.mem_range.2 hj, rfl⟩) hm)))
        have := h7 _ hmem
        simp [lits] at this
        omega
    · obtain ⟨_, h1, h2, h3, h4, h5, h6⟩ := hrow j (by omega)
      intro hA
      have := h5 hA
      omega
    · obtain ⟨_, h1, h2, h3, h4, h5, h6⟩ := hrow j (by omega)
      intro y hy
      obtain ⟨z, hz1, rfl⟩ := List.mem_map.1 hy
      have := bounds_u8 (h4 z (List.mem_of_mem_take hz1))
      omega
end
set_option maxRecDepth 100000 in
theorem slr_of {w : World} {base : Nat} {v : Value} {A : Option Addr} {n c : Nat} (h : v.cells.toList = [Value.slice A n c]) (hv : Value.okWide Tryd.prog w .any base 29 v) : v = .slice A n c := by
  obtain ⟨a, len, cap, rfl⟩ := okWide_slice (P := Tryd.prog) Tryd.underlying29 hv
  simpa [Value.cells] using h
end Go.Proofs.YtdpdpmiepidkoaaDoor
