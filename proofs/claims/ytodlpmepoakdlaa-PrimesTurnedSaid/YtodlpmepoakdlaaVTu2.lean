/-
  PrimesTurned: the lists that come of it, and that no reason with them holds.
-/
import Derived.Deep.Cut
import Derived.Test.YtodlpmepoakdlaaVSmall
import Derived.Test.YtodlpmepoakdlaaVTu1
namespace Go.Proofs.Ytodlpmepoakdlaa
set_option maxRecDepth 100000
open Go.RowKit
set_option linter.unusedSimpArgs false
set_option linter.unusedVariables false
attribute [local go_sem ↓] Go.wp_at_zero Go.wp_at_succ

open Pr (Rsn)
/-! ### cells of a list -/
theorem RsAt.copy {w w' : World} {r : Rsn} {g off g2 off2 : Nat} (h : RsAt w r g off) (hb : Below w.heap.size w w') (hc : ∀ t, t < 9 → ∀ v, w.cell? ⟨g, off + t, none⟩ = some v → w'.cell? ⟨g2, off2 + t, none⟩ = some v) : RsAt w' r g2 off2 := by
  obtain ⟨⟨h1, h1'⟩, ⟨h2, h2'⟩, a, cap, hcell, hs⟩ := rsAt_iff.mp h
  refine rsAt_iff.mpr ⟨⟨h1, fun k hk => hc k (by omega) _ (h1' k hk)⟩, ⟨h2, fun k hk => ?_⟩, a, cap, hc 8 (by omega) _ hcell, hs.on hb⟩
  have := h2' k hk
  rw [Nat.add_assoc] at this ⊢
  exact hc (4 + k) (by omega) _ this
theorem RsAt.some {w : World} {r : Rsn} {g off : Nat} (h : RsAt w r g off) : ∀ t, t < 9 → ∃ v, w.cell? ⟨g, off + t, none⟩ = some v ∧ v.oneCell' = true := by
  obtain ⟨⟨h1, h1'⟩, ⟨h2, h2'⟩, a, cap, hcell, hs⟩ := rsAt_iff.mp h
  intro t ht
  by_cases h4 : t < 4
  · exact ⟨_, h1' t h4, rfl⟩
  · by_cases h8 : t < 8
    · have := h2' (t - 4) (by omega)
      rw [Nat.add_assoc, show 4 + (t - 4) = t by omega] at this
      exact ⟨_, this, rfl⟩
    · obtain rfl : t = 8 := by omega
      exact ⟨_, hcell, rfl⟩
theorem Sl.all {w : World} {a : Option Addr} {cap : Nat} {ps : List Rsn} (h : Sl w a cap ps) (hp : ps ≠ []) : ∃ g off, a = some ⟨g, off, none⟩ ∧ ∀ i (hi : i < ps.length), RsAt w ps[i] g (off + 9 * i) := by
  rcases h.2.2.2 with h | ⟨g, off, e, h⟩
  · exact absurd h hp
  · exact ⟨g, off, e, fun i hi => h.get hi⟩
/-- n cells of a block, as a list -/
def rowC (w : World) (g off n : Nat) : List Value := (List.range n).map fun j => (w.cell? ⟨g, off + j, none⟩).getD undef
theorem rowC_len (w : World) (g off n : Nat) : (rowC w g off n).length = n := by simp [rowC]
theorem rowC_get {w : World} {g off n j : Nat} (hj : j < n) {v : Value} (h : w.cell? ⟨g, off + j, none⟩ = some v) : (rowC w g off n)[j]? = some v := by simp [rowC, hj, h]
theorem rowC_of {w : World} {g off n : Nat} (hs : ∀ j, j < n → ∃ v, w.cell? ⟨g, off + j, none⟩ = some v ∧ v.oneCell' = true) {j : Nat} {u : Value} (h : (rowC w g off n)[j]? = some u) : j < n ∧ w.cell? ⟨g, off + j, none⟩ = some u ∧ u.oneCell' = true := by
  have hj : j < n := by have := (List.getElem?_eq_some_iff.1 h).1; rwa [rowC_len] at this
  obtain ⟨v, hv, h1⟩ := hs j hj
  rw [rowC_get hj hv] at h
  cases h
  exact ⟨hj, hv, h1⟩
/-! ### a row with a part twice -/
def twiceC (C : List Value) (k : Nat) (ns : List Value) : List Value := C.take (9 * (k + 1)) ++ ns ++ C.drop (9 * (k + 1))
def twiceL (ps : List Rsn) (k : Nat) (p : Rsn) : List Rsn := ps.take (k + 1) ++ p :: ps.drop (k + 1)
theorem twiceL_len {ps : List Rsn} {k : Nat} (hk : k < ps.length) (p : Rsn) : (twiceL ps k p).length = ps.length + 1 := by simp [twiceL]; omega
theorem twiceL_get {ps : List Rsn} {k : Nat} (hk : k < ps.length) (p : Rsn) (j : Nat) (hj : j < (twiceL ps k p).length) : (∃ h : j ≤ k, (twiceL ps k p)[j] = ps[j]) ∨ (j = k + 1 ∧ (twiceL ps k p)[j] = p) ∨ (∃ h : k + 1 < j ∧ j - 1 < ps.length, (twiceL ps k p)[j] = ps[j - 1]'h.2) := by
  have hl := twiceL_len hk p
  rw [hl] at hj
  have ht : (ps.take (k + 1)).length = k + 1 := by rw [List.length_take]; omega
  rcases Nat.lt_trichotomy j (k + 1) with h | h | h
  · left
    refine ⟨by omega, ?_⟩
    simp only [twiceL]
    rw [List.getElem_append_left (by omega), List.getElem_take]
  · right; left
    refine ⟨h, ?_⟩
    subst h
    simp only [twiceL]
    rw [List.getElem_append_right (by omega)]
    simp [ht]
  · right; right
    refine ⟨⟨h, by omega⟩, ?_⟩
    simp only [twiceL]
    rw [List.getElem_append_right (by omega), List.getElem_cons]
    rw [dif_neg (by omega), List.getElem_drop]
    congr 1
    omega
/-- the slice that holds them tells the list -/
theorem twice_sl {w w' : World} {g off k cap base : Nat} {ps : List Rsn} {v : Value} {q y : Nat} {s : Value} (hk : k < ps.length) (hb : Below w.heap.size w w')
    (hall : ∀ i (hi : i < ps.length), RsAt w ps[i] g (off + 9 * i)) (hns : ∀ t, t < 9 → w.cell? ⟨g, off + 9 * k + t, none⟩ = (nine q y s)[t]?)
    (hv : NR9 base w' v (ps.length + 1) (twiceC (rowC w g off (9 * ps.length)) k (nine q y s))) : ∃ gv cv, v = .slice (some ⟨gv, 0, none⟩) (ps.length + 1) cv ∧ Sl w' (some ⟨gv, 0, none⟩) cv (twiceL ps k ps[k]) := by
  rcases hv.2 with ⟨_, h0⟩ | ⟨gv, cv, cur, rfl, hg, hc, hle, hmx, hsz, htk⟩
  · omega
  refine ⟨gv, cv, rfl, by rw [twiceL_len hk]; exact hle, by unfold maxLen at hmx; omega, (fun e => by cases e), Or.inr ⟨gv, 0, rfl, RsLs.of fun j hj => ?_⟩⟩
  have hj2 := hj
  rw [twiceL_len hk] at hj2
  have hat : At w' gv 27 cur := hc
  have cell : ∀ i u, i < (ps.length + 1) * 9 → (twiceC (rowC w g off (9 * ps.length)) k (nine q y s))[i]? = some u → w'.cell? ⟨gv, i, none⟩ = some u := fun i u hi h => by
    rw [← htk, List.getElem?_take, if_pos hi] at h
    rw [hat.cell i]; simpa using h
  have hlC := rowC_len w g off (9 * ps.length)
  have htake : ((rowC w g off (9 * ps.length)).take (9 * (k + 1))).length = 9 * (k + 1) := by rw [List.length_take, hlC]; omega
  rw [Nat.zero_add]
  rcases twiceL_get hk ps[k] j hj with ⟨h, e⟩ | ⟨rfl, e⟩ | ⟨⟨h, h'⟩, e⟩
  · rw [e]
    refine (hall j (by omega)).copy hb fun t ht v hv => cell _ _ (by omega) ?_
    rw [Nat.add_assoc] at hv
    unfold twiceC
    rw [List.append_assoc, List.getElem?_append_left (by omega), List.getElem?_take, if_pos (by omega)]
    exact rowC_get (by omega) hv
  · rw [e]
    refine (hall k hk).copy hb fun t ht v hv => cell _ _ (by omega) ?_
    rw [hns t ht] at hv
    unfold twiceC
    rw [List.append_assoc, List.getElem?_append_right (by omega), htake, Nat.add_sub_cancel_left, List.getElem?_append_left (by simp [nine]; omega)]
    exact hv
  · rw [e]
    refine (hall (j - 1) h').copy hb fun t ht v hv => cell _ _ (by omega) ?_
    rw [Nat.add_assoc] at hv
    unfold twiceC
    rw [List.getElem?_append_right (by rw [List.length_append, htake]; simp [nine]; omega), List.length_append, htake, List.getElem?_drop]
    simp only [nine, List.length_cons, List.length_nil]
    rw [show 9 * (k + 1) + (9 * j + t - (9 * (k + 1) + (0 + 1 + 1 + 1 + 1 + 1 + 1 + 1 + 1 + 1))) = 9 * (j - 1) + t by omega]
    exact rowC_get (by omega) hv
/-! ### stores into a row -/
theorem sets_get : ∀ (vs : List Value) (cs : Array Value) (o i : Nat), (sets cs o vs)[i]? = if o ≤ i ∧ i < o + vs.length ∧ i < cs.size then vs[i - o]? else cs[i]?
  | [], cs, o, i => by rw [if_neg (by simp; omega)]; rfl
  | v :: vs, cs, o, i => by
    show (sets (cs.setIfInBounds o v) (o + 1) vs)[i]? = _
    rw [sets_get vs _ (o + 1) i, Array.size_setIfInBounds]
    by_cases h1 : o + 1 ≤ i ∧ i < o + 1 + vs.length ∧ i < cs.size
    · rw [if_pos h1, if_pos ⟨by omega, by simp; omega, h1.2.2⟩, show i - o = (i - (o + 1)) + 1 by omega, List.getElem?_cons_succ]
    · rw [if_neg h1]
      by_cases h2 : i = o
      · subst h2
        by_cases h3 : i < cs.size
        · rw [if_pos ⟨Nat.le_refl _, by simp, h3⟩, Nat.sub_self, Array.getElem?_setIfInBounds_self_of_lt h3]; rfl
        · rw [if_neg (by omega), Array.getElem?_eq_none (by simp; omega), Array.getElem?_eq_none (by omega)]
      · rw [if_neg (by simp; omega), Array.getElem?_setIfInBounds_ne (by omega)]
theorem puts_far : ∀ (vs : List Value) (w : World) (g o : Nat) (q : Addr), q.block ≠ g → (puts w g o vs).cell? q = w.cell? q
  | [], _, _, _, _, _ => rfl
  | v :: vs, w, g, o, q, h => by
    show (puts (w.setCell ⟨g, o, none⟩ v) g (o + 1) vs).cell? q = _
    rw [puts_far vs _ g (o + 1) q h, World.cell?_setCell_other _ _ _ _ (fun e => h (by rw [← e]))]
theorem puts_at : ∀ (vs : List Value) {w : World} {g o : Nat} {t : TypeId} {cs : Array Value} (h : At w g t cs), At (puts w g o vs) g t (sets cs o vs)
  | [], _, _, _, _, _, h => h
  | v :: vs, w, g, o, t, cs, h => puts_at vs (o := o + 1) (h.set o v)
theorem mem_putsFar {n0 : Nat} {w0 : World} {M : List (Nat × TypeId × Array Value)} {g : Nat} (hg : n0 ≤ g) (hM : ∀ x ∈ M, x.1 ≠ g) : ∀ (vs : List Value) {w : World} (o : Nat) (H : Mem n0 w0 w M), Mem n0 w0 (puts w g o vs) M
  | [], _, _, H => H
  | v :: vs, w, o, H => mem_putsFar hg hM vs (o + 1) ⟨H.le, H.bel.setCell (p := ⟨g, o, none⟩) hg v, H.oth.trans (KeepsOthers.setCell _ _ _), fun x hx => (H.at_ x hx).far (p := ⟨g, o, none⟩) (fun e => hM x hx e.symm) v, H.own, H.nd⟩
/-- an element of a row of twins, its nest above the row -/
def TE (w : World) (g off : Nat) (p : Rsn) : Prop := W4 w g off p.n ∧ W4 w g (off + 4) p.w ∧ ∃ g', g + 1 ≤ g' ∧ w.cell? ⟨g, off + 8, none⟩ = some (.slice (some ⟨g', 0, none⟩) p.ps.length (p.ps.length + 1)) ∧ TwLs w (g + 1) p.ps g' 0
theorem TwR.te {w : World} {g : Nat} {ps : List Rsn} (h : TwR w g ps) : (∃ cur, At w g 27 cur ∧ cur.size = (ps.length + 1) * 9) ∧ ∀ j (hj : j < ps.length), TE w g (9 * j) ps[j] := by
  obtain ⟨xs, hr, he, hs⟩ := h
  obtain ⟨cur, h1, h2, _⟩ := id hr
  refine ⟨⟨cur, h1, h2⟩, fun j hj => ?_⟩
  obtain ⟨g', hg, hn, hy, hc, hl, _⟩ := he j hj
  refine ⟨⟨hn, fun k hk => hr.cell ?_⟩, ⟨hy, fun k hk => ?_⟩, g', by omega, hr.cell ?_, hl⟩
  · rw [hc k (by omega)]
    match k, hk with
    | 0, _ | 1, _ | 2, _ | 3, _ => rfl
  · rw [Nat.add_assoc]
    refine hr.cell ?_
    rw [hc (4 + k) (by omega)]
    match k, hk with
    | 0, _ | 1, _ | 2, _ | 3, _ => rfl
  · rw [hc 8 (by omega)]; rfl
theorem TE.keep {w w' : World} {g off : Nat} {p : Rsn} (h : TE w g off p) (hk : ∀ (q : Addr) v, g + 1 ≤ q.block → w.cell? q = some v → w'.cell? q = some v) (hc : ∀ t, t < 9 → w'.cell? ⟨g, off + t, none⟩ = w.cell? ⟨g, off + t, none⟩) : TE w' g off p := by
  obtain ⟨⟨h1, h1'⟩, ⟨h2, h2'⟩, g', hg, hcell, hl⟩ := h
  refine ⟨⟨h1, fun k hk => (hc k (by omega)).trans (h1' k hk)⟩, ⟨h2, fun k hk => ?_⟩, g', hg, (hc 8 (by omega)).trans hcell, TwLs.keep (Nat.le_refl _) hk p.ps hg hl⟩
  have := h2' k hk
  rw [Nat.add_assoc] at this ⊢
  exact (hc (4 + k) (by omega)).trans this
theorem TE.rs {w : World} {g off : Nat} {p : Rsn} (h : TE w g off p) (hL : Lens p) : RsAt w p g off := by
  obtain ⟨h1, h2, g', hg, hcell, hl⟩ := h
  obtain ⟨l1, l2⟩ := lens_iff.mp hL
  exact rsAt_iff.mpr ⟨h1, h2, _, _, hcell, by omega, by omega, (fun e => by cases e), Or.inr ⟨g', 0, rfl, TwLs.rs p.ps l2 hl⟩⟩
/-- two parts turned -/
def turnL (ps : List Rsn) (k : Nat) (p q : Rsn) : List Rsn := (ps.set k p).set (k - 1) q
/-! ### no reason with them holds -/
theorem tholds_great {N Y : Nat} {ps : List Rsn} (h : (Rsn.mk N Y ps).holds = true) (hp : ps ≠ []) : ¬ N < 4294967296 ∧ 1 < Y ∧ Y < N ∧ ∀ i (hi : i + 1 < ps.length), (ps[i]).n < (ps[i + 1]).n := by
  have hs : ¬ N < 4294967296 := fun hs => hp ((Pr.ok_small hs).mp (Pr.holds_ok h).1).2.2
  have h1 := ((Pr.ok_great hs).mp (Pr.holds_ok h).1).2
  refine ⟨hs, (Pr.great_w h1).1, (Pr.great_w h1).2, fun i hi => ?_⟩
  have := Pr.rises_at (Pr.great_rises h1) i (by simpa using hi)
  simpa [show i < ps.length by omega, hi] using this
theorem twice_no {N Y k : Nat} {ps : List Rsn} (hk : k < ps.length) : (Rsn.mk N Y (twiceL ps k ps[k])).holds = false := by
  rcases hb : (Rsn.mk N Y (twiceL ps k ps[k])).holds with _ | _
  · rfl
  · have hl := twiceL_len hk ps[k]
    have h := (tholds_great hb (fun e => by rw [e] at hl; simp at hl)).2.2.2 k (by omega)
    rcases twiceL_get hk ps[k] k (by omega) with ⟨_, e1⟩ | ⟨e, _⟩ | ⟨⟨e, _⟩, _⟩
    · rcases twiceL_get hk ps[k] (k + 1) (by omega) with ⟨e, _⟩ | ⟨_, e2⟩ | ⟨⟨e, _⟩, _⟩
      · omega
      · rw [e1, e2] at h; omega
      · omega
    · omega
    · omega
theorem turn_no {N Y Y0 k : Nat} {ps : List Rsn} (hk : 0 < k) (hkl : k < ps.length) (h0 : (Rsn.mk N Y0 ps).holds = true) : (Rsn.mk N Y (turnL ps k (ps[k - 1]'(by omega)) ps[k])).holds = false := by
  rcases hb : (Rsn.mk N Y (turnL ps k (ps[k - 1]'(by omega)) ps[k])).holds with _ | _
  · rfl
  · have hl : (turnL ps k (ps[k - 1]'(by omega)) ps[k]).length = ps.length := by simp [turnL]
    have h := (tholds_great hb (fun e => by rw [e] at hl; simp at hl; omega)).2.2.2 (k - 1) (by omega)
    have h2 := (tholds_great h0 (fun e => by rw [e] at hkl; simp at hkl)).2.2.2 (k - 1) (by omega)
    have e1 : (turnL ps k (ps[k - 1]'(by omega)) ps[k])[k - 1] = ps[k] := by simp [turnL]
    have e2 : (turnL ps k (ps[k - 1]'(by omega)) ps[k])[k - 1 + 1]'(by omega) = ps[k - 1]'(by omega) := by
      simp only [turnL, show k - 1 + 1 = k by omega]; rw [List.getElem_set_ne (by omega), List.getElem_set_self]
    have e3 : ps[k - 1 + 1]'(by omega) = ps[k] := by congr 1; omega
    rw [e1, e2] at h
    rw [e3] at h2
    omega
theorem wit_no {N Y Y' : Nat} {ps : List Rsn} (hp : ps ≠ []) (hY : Y' ≤ 1 ∨ N ≤ Y') : (Rsn.mk N Y' ps).holds = false := by
  rcases hb : (Rsn.mk N Y' ps).holds with _ | _
  · rfl
  · have := tholds_great hb hp; omega
end Go.Proofs.Ytodlpmepoakdlaa
