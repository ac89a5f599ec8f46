/-
  Reasons in memory: a reason as a value, a list of reasons as a slice; what stays while the world grows. How the statements' reasons are read.
-/
import Derived.ChangeArms
import Derived.Deep.Slices
import Derived.Test.YtodlpmepoakdlaaVAdd
import Derived.Test.YtodlpmepoakdlaaVRsn
import Derived.Test.YtodlpmepoakdlaaVSmall
namespace Go.Proofs.Ytodlpmepoakdlaa
set_option maxRecDepth 100000
open Go.RowKit
set_option linter.unusedSimpArgs false
set_option linter.unusedVariables false

open Pr (Rsn)
/-- a reason, as a value -/
abbrev rv (n y : Nat) (s : Value) : Value := .agg #[.int .u64 (wd n 0 : Nat), .int .u64 (wd n 1 : Nat), .int .u64 (wd n 2 : Nat), .int .u64 (wd n 3 : Nat), .int .u64 (wd y 0 : Nat), .int .u64 (wd y 1 : Nat), .int .u64 (wd y 2 : Nat), .int .u64 (wd y 3 : Nat), s]

/-- the words of a number, in four cells -/
def W4 (w : World) (g off X : Nat) : Prop := X < 2 ^ 256 ∧ ∀ k, k < 4 → w.cell? ⟨g, off + k, none⟩ = some (.int .u64 (wd X k : Nat))

mutual
/-- a reason lies in nine cells -/
def RsAt (w : World) : Rsn → Nat → Nat → Prop
  | .mk n y ps, g, off => W4 w g off n ∧ W4 w g (off + 4) y ∧ ∃ a cap, w.cell? ⟨g, off + 8, none⟩ = some (.slice a ps.length cap) ∧ ps.length ≤ cap ∧ cap ≤ 9223372036854775807 ∧ (a = none → cap = 0) ∧
      (ps = [] ∨ ∃ g' off', a = some ⟨g', off', none⟩ ∧ RsLs w ps g' off')
/-- reasons lie one behind the other -/
def RsLs (w : World) : List Rsn → Nat → Nat → Prop
  | [], _, _ => True
  | r :: rs, g, off => RsAt w r g off ∧ RsLs w rs g (off + 9)
end
/-- a slice tells a list of reasons -/
def Sl (w : World) (a : Option Addr) (cap : Nat) (ps : List Rsn) : Prop :=
  ps.length ≤ cap ∧ cap ≤ 9223372036854775807 ∧ (a = none → cap = 0) ∧ (ps = [] ∨ ∃ g off, a = some ⟨g, off, none⟩ ∧ RsLs w ps g off)

theorem rsAt_iff {w : World} {r : Rsn} {g off : Nat} : RsAt w r g off ↔ W4 w g off r.n ∧ W4 w g (off + 4) r.w ∧ ∃ a cap, w.cell? ⟨g, off + 8, none⟩ = some (.slice a r.ps.length cap) ∧ Sl w a cap r.ps := by
  cases r with
  | mk n y ps => simp only [RsAt, Sl, Rsn.n, Rsn.w, Rsn.ps]

theorem W4.keep {w w' : World} (hk : ∀ p v, w.cell? p = some v → w'.cell? p = some v) {g off X : Nat} (h : W4 w g off X) : W4 w' g off X := ⟨h.1, fun k hk' => hk _ _ (h.2 k hk')⟩
mutual
theorem RsAt.keep {w w' : World} (hk : ∀ p v, w.cell? p = some v → w'.cell? p = some v) : ∀ (r : Rsn) {g off : Nat}, RsAt w r g off → RsAt w' r g off
  | .mk n y ps, g, off, h => by
      simp only [RsAt] at h ⊢
      obtain ⟨h1, h2, a, cap, hc, hl, hm, hn, hp⟩ := h
      refine ⟨h1.keep hk, h2.keep hk, a, cap, hk _ _ hc, hl, hm, hn, ?_⟩
      rcases hp with h | ⟨g', off', e, h⟩
      · exact Or.inl h
      · exact Or.inr ⟨g', off', e, RsLs.keep hk ps h⟩
theorem RsLs.keep {w w' : World} (hk : ∀ p v, w.cell? p = some v → w'.cell? p = some v) : ∀ (ps : List Rsn) {g off : Nat}, RsLs w ps g off → RsLs w' ps g off
  | [], _, _, _ => by simp only [RsLs]
  | r :: rs, g, off, h => by
      simp only [RsLs] at h ⊢
      exact ⟨RsAt.keep hk r h.1, RsLs.keep hk rs h.2⟩
end
theorem Sl.keep {w w' : World} (hk : ∀ p v, w.cell? p = some v → w'.cell? p = some v) {a : Option Addr} {cap : Nat} {ps : List Rsn} (h : Sl w a cap ps) : Sl w' a cap ps := by
  obtain ⟨hl, hm, hn, hp⟩ := h
  refine ⟨hl, hm, hn, ?_⟩
  rcases hp with h | ⟨g', off', e, h⟩
  · exact Or.inl h
  · exact Or.inr ⟨g', off', e, RsLs.keep hk ps h⟩
theorem Sl.on {w w' : World} {a : Option Addr} {cap : Nat} {ps : List Rsn} (h : Sl w a cap ps) (hb : Below w.heap.size w w') : Sl w' a cap ps := h.keep fun _ _ => cell_on hb

theorem RsLs.get {w : World} : ∀ {ps : List Rsn} {g off i : Nat} (h : RsLs w ps g off) (hi : i < ps.length), RsAt w ps[i] g (off + 9 * i)
  | r :: rs, g, off, 0, h, _ => by simp only [RsLs] at h; exact h.1
  | r :: rs, g, off, i + 1, h, hi => by
      simp only [RsLs] at h
      have := RsLs.get (i := i) h.2 (by simpa using hi)
      rw [show off + 9 + 9 * i = off + 9 * (i + 1) by omega] at this
      exact this
theorem RsLs.of {w : World} : ∀ {ps : List Rsn} {g off : Nat}, (∀ i (hi : i < ps.length), RsAt w ps[i] g (off + 9 * i)) → RsLs w ps g off
  | [], _, _, _ => by simp only [RsLs]
  | r :: rs, g, off, h => by
      simp only [RsLs]
      refine ⟨h 0 (by simp), RsLs.of fun i hi => ?_⟩
      have := h (i + 1) (by simpa using hi)
      rw [show off + 9 + 9 * i = off + 9 * (i + 1) by omega]
      exact this
/-- the i-th part of a slice -/
theorem Sl.get {w : World} {a : Option Addr} {cap : Nat} {ps : List Rsn} (h : Sl w a cap ps) {i : Nat} (hi : i < ps.length) : ∃ g off, a = some ⟨g, off, none⟩ ∧ RsAt w ps[i] g (off + 9 * i) := by
  rcases h.2.2.2 with h | ⟨g, off, e, h⟩
  · subst h; simp at hi
  · exact ⟨g, off, e, h.get hi⟩

/-! ### how they are read -/
theorem Try.cells28 : Try.prog.cellsOf 27 = 9 := by kernel_rfl
theorem Try.cells26 : Try.prog.cellsOf 25 = 1 := by kernel_rfl
open Go.ChangeShapes Go.WideShapes Go.ChangeAt Go.Deep
instance : Inhabited Rsn := ⟨.mk 0 0 []⟩
section
variable {H : Type} {enc : TypeId × Value → H} {w : World} {held : Bool}
theorem open_rsn (fuel : Nat) : ∀ {cs : List Value} {x : DataW H × List MemPlace}, DataW.trod enc Try.prog w 0 (fun _ => true) held fuel 27 cs = some x →
    ∃ n y a cap ps, cs = [.int .u64 (wd n 0 : Nat), .int .u64 (wd n 1 : Nat), .int .u64 (wd n 2 : Nat), .int .u64 (wd n 3 : Nat), .int .u64 (wd y 0 : Nat), .int .u64 (wd y 1 : Nat), .int .u64 (wd y 2 : Nat), .int .u64 (wd y 3 : Nat), .slice a ps.length cap] ∧ n < 2 ^ 256 ∧ y < 2 ^ 256 ∧ Sl w a cap ps := by
  induction fuel using Nat.strongRecOn with
  | _ fuel ih =>
    intro cs x h
    obtain ⟨xs, m, hm, _, hl, hlen, hf⟩ := DataW.trod_struct Try.underlying27 h
    rw [Try.cells28] at hl
    match cs, hl with
    | [c0, c1, c2, c3, c4, c5, c6, c7, c8], _ =>
      match xs, hlen with
      | [y0, y1, y2], _ =>
        have h0 : DataW.trod enc Try.prog w 0 (fun _ => true) held m 24 [c0, c1, c2, c3] = some y0 := by simpa [Try.cells24] using hf 0 _ rfl
        have h1 : DataW.trod enc Try.prog w 0 (fun _ => true) held m 24 [c4, c5, c6, c7] = some y1 := by simpa [Try.cells24] using hf 1 _ rfl
        have h2 : DataW.trod enc Try.prog w 0 (fun _ => true) held m 25 [c8] = some y2 := by simpa [Try.cells26] using hf 2 _ rfl
        obtain ⟨n, hn, rfl, rfl, rfl, rfl⟩ := open_four h0
        obtain ⟨y, hy, rfl, rfl, rfl, rfl⟩ := open_four h1
        rcases DataW.trod_slice Try.underlying25 h2 with ⟨hc, _⟩ | ⟨a, len, cap, elems, rest, k, hk, hc, _, _, hlc, hcm, hel, hget, _⟩
        · obtain rfl : c8 = .slice none 0 0 := by simpa using hc
          exact ⟨n, y, none, 0, [], rfl, hn, hy, Nat.le_refl _, Nat.zero_le _, fun _ => rfl, Or.inl rfl⟩
        · obtain rfl : c8 = .slice (some a) len cap := by simpa using hc
          rw [Try.cells28] at hget
          have sp0 : 0 < len → a.spot = none := by
            intro hi
            have hg := hget 0 hi
            rw [List.getElem?_eq_getElem (by omega)] at hg
            obtain ⟨ci, hci, ht⟩ := Option.bind_eq_some_iff.1 hg
            obtain ⟨_, hcl, hcell⟩ := World.cells?_some hci
            have h0 := hcell 0 (by omega)
            rw [List.getElem?_eq_getElem (by omega)] at h0
            simpa [Addr.add] using World.cell?_spot h0
          have each : ∀ i, i < len → ∃ r : Rsn, a.spot = none ∧ RsAt w r a.block (a.off + 9 * i) := by
            intro i hi
            have hg := hget i hi
            rw [List.getElem?_eq_getElem (by omega)] at hg
            obtain ⟨ci, hci, ht⟩ := Option.bind_eq_some_iff.1 hg
            obtain ⟨_, _, hcell⟩ := World.cells?_some hci
            obtain ⟨n', y', a', cap', ps', rfl, hn', hy', hs'⟩ := ih k (by omega) ht
            have sp : a.spot = none := sp0 (by omega)
            have cell : ∀ j (hj : j < 9), w.cell? ⟨a.block, a.off + 9 * i + j, none⟩ = [Value.int .u64 (wd n' 0 : Nat), .int .u64 (wd n' 1 : Nat), .int .u64 (wd n' 2 : Nat), .int .u64 (wd n' 3 : Nat), .int .u64 (wd y' 0 : Nat), .int .u64 (wd y' 1 : Nat), .int .u64 (wd y' 2 : Nat), .int .u64 (wd y' 3 : Nat), .slice a' ps'.length cap'][j]? := by
              intro j hj
              have := hcell j hj
              obtain ⟨b, off, spot⟩ := a
              simp only at sp
              subst sp
              rw [Addr.add_lit, Addr.add_lit] at this
              rw [← this, Nat.mul_comm i 9]
            refine ⟨.mk n' y' ps', sp, rsAt_iff.mpr ⟨⟨hn', fun j hj => ?_⟩, ⟨hy', fun j hj => ?_⟩, a', cap', cell 8 (by omega), hs'⟩⟩
            · rw [cell j (by omega)]
              match j, hj with
              | 0, _ | 1, _ | 2, _ | 3, _ => rfl
            · rw [Nat.add_assoc, cell (4 + j) (by omega)]
              match j, hj with
              | 0, _ | 1, _ | 2, _ | 3, _ => rfl
          obtain ⟨F, hF⟩ := choose_lt each
          have hlen : ((List.range len).map F).length = len := by simp
          refine ⟨n, y, some a, cap, (List.range len).map F, by rw [hlen], hn, hy, by rw [hlen]; exact hlc, by unfold maxLen at hcm; omega, (fun h => by cases h), ?_⟩
          rcases Nat.eq_zero_or_pos len with hz | hz
          · subst hz; exact Or.inl rfl
          · obtain ⟨b, off, spot⟩ := a
            obtain rfl : spot = none := (hF 0 hz).1
            refine Or.inr ⟨b, off, rfl, RsLs.of fun i hi => ?_⟩
            rw [hlen] at hi
            rw [List.getElem_map, List.getElem_range]
            exact (hF i hi).2
/-- a reason -/
theorem open_reason {base : Nat} {v : Value} {d : DataW H} {p : List MemPlace} (hv : Value.okWide Try.prog w .any base 27 v) (h : DataW.Trod enc Try.prog w 0 (fun _ => true) held 27 v d p) :
    ∃ n y a cap ps, v = rv n y (.slice a ps.length cap) ∧ n < 2 ^ 256 ∧ y < 2 ^ 256 ∧ Sl w a cap ps := by
  obtain ⟨cs, rfl, hsz⟩ : ∃ cs, v = .agg cs ∧ cs.size = Try.prog.cellsOf 27 := by
    simp only [Value.okWide, Try.underlying27] at hv
    obtain ⟨cs, h1, h2, _⟩ := hv
    exact ⟨cs, h1, h2⟩
  obtain ⟨fuel, hf⟩ := h
  obtain ⟨n, y, a, cap, ps, hcs, hn, hy, hs⟩ := open_rsn fuel hf
  refine ⟨n, y, a, cap, ps, ?_, hn, hy, hs⟩
  obtain ⟨cs⟩ := cs
  simp [Value.cells] at hcs
  rw [hcs]
end
end Go.Proofs.Ytodlpmepoakdlaa
