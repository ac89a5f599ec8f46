/-
  Reasons in memory: a reason as a value, a list of reasons as a slice; what stays while the world grows. How the statements' reasons are read.
-/
import Derived.ChangeArms
import Derived.Deep.Slices
import Derived.Test.YtodlpmepoakdlaaWBits
import Derived.Test.YtodlpmepoakdlaaWRsn
import Derived.Test.YtodlpmepoakdlaaWShort
namespace Go.Proofs.Ytodlpmepoakdlaa
set_option maxRecDepth 100000
open Go.RowKit
set_option linter.unusedSimpArgs false
set_option linter.unusedVariables false

open Pr (Rsn)
/-- a reason, as a value -/
abbrev rv (n y : Nat) (s : Value) : Value := .agg #[.int .u64 (wd n 0 : Nat), .int .u64 (wd n 1 : Nat), .int .u64 (wd n 2 : Nat), .int .u64 (wd n 3 : Nat), .int .u64 (wd y 0 : Nat), .int .u64 (wd y 1 : Nat), .int .u64 (wd y 2 : Nat), .int .u64 (wd y 3 : Nat), s]

/-- the words of a number, in four cells -/
def W4 (w : World) (g off X : Nat) : Prop := X < 2 ^ 256 ∧ ∀ k, k < 4 → w.cell? ⟨g, off + k, none⟩ = some (.int .u64 (wd X k : Nat))

mutual
/-- a reason lies in nine cells -/
def RsAt (w : World) : Rsn → Nat → Nat → Prop
  | .mk n y ps, g, off => W4 w g off n ∧ W4 w g (off + 4) y ∧ ∃ a cap, w.cell? ⟨g, off + 8, none⟩ = some (.slice a ps.length cap) ∧ ps.length ≤ cap ∧ cap ≤ 9223372036854775807 ∧ (a = none → cap = 0) ∧
      (ps = [] ∨ ∃ g' off', a = some ⟨g', off', none⟩ ∧ RsLs w ps g' off')
/-- reasons lie one behind the other -/
def RsLs (w : World) : List Rsn → Nat → Nat → Prop
  | [], _, _ => True
  | r :: rs, g, off => RsAt w r g off ∧ RsLs w rs g (off + 9)
end
/-- a slice tells a list of reasons -/
def Sl (w : World) (a : Option Addr) (cap : Nat) (ps : List Rsn) : Prop :=
  ps.length ≤ cap ∧ cap ≤ 9223372036854775807 ∧ (a = none → cap = 0) ∧ (ps = [] ∨ ∃ g off, a = some ⟨g, off, none⟩ ∧ RsLs w ps g off)

theorem W4.keep {w w' : World} (hk : ∀ p v, w.cell? p = some v → w'.cell? p = some v) {g off X : Nat} (h : W4 w g off X) : W4 w' g off X := ⟨h.1, fun k hk' => hk _ _ (h.2 k hk')⟩
mutual
theorem RsAt.keep {w w' : World} (hk : ∀ p v, w.cell? p = some v → w'.cell? p = some v) : ∀ (r : Rsn) {g off : Nat}, RsAt w r g off → RsAt w' r g off
  | .mk n y ps, g, off, h => by
      simp only [RsAt] at h ⊢
      obtain ⟨h1, h2, a, cap, hc, hl, hm, hn, hp⟩ := h
      refine ⟨h1.keep hk, h2.keep hk, a, cap, hk _ _ hc, hl, hm, hn, ?_⟩
      rcases hp with h | ⟨g', off', e, h⟩
      · exact Or.inl h
      · exact Or.inr ⟨g', off', e, RsLs.keep hk ps h⟩
theorem RsLs.keep {w w' : World} (hk : ∀ p v, w.cell? p = some v → w'.cell? p = some v) : ∀ (ps : List Rsn) {g off : Nat}, RsLs w ps g off → RsLs w' ps g off
  | [], _, _, _ => by simp only [RsLs]
  | r :: rs, g, off, h => by
      simp only [RsLs] at h ⊢
      exact ⟨RsAt.keep hk r h.1, RsLs.keep hk rs h.2⟩
end
theorem Sl.keep {w w' : World} (hk : ∀ p v, w.cell? p = some v → w'.cell? p = some v) {a : Option Addr} {cap : Nat} {ps : List Rsn} (h : Sl w a cap ps) : Sl w' a cap ps := by
  obtain ⟨hl, hm, hn, hp⟩ := h
  refine ⟨hl, hm, hn, ?_⟩
  rcases hp with h | ⟨g', off', e, h⟩
  · exact Or.inl h
  · exact Or.inr ⟨g', off', e, RsLs.keep hk ps h⟩
theorem Sl.on {w w' : World} {a : Option Addr} {cap : Nat} {ps : List Rsn} (h : Sl w a cap ps) (hb : Below w.heap.size w w') : Sl w' a cap ps := h.keep fun _ _ => cell_on hb

theorem RsLs.get {w : World} : ∀ {ps : List Rsn} {g off i : Nat} (h : RsLs w ps g off) (hi : i < ps.length), RsAt w ps[i] g (off + 9 * i)
  | r :: rs, g, off, 0, h, _ => by simp only [RsLs] at h; exact h.1
  | r :: rs, g, off, i + 1, h, hi => by
      simp only [RsLs] at h
      have := RsLs.get (i := i) h.2 (by simpa using hi)
      rw [show off + 9 + 9 * i = off + 9 * (i + 1) by omega] at this
      exact this
theorem RsLs.of {w : World} : ∀ {ps : List Rsn} {g off : Nat}, (∀ i (hi : i < ps.length), RsAt w ps[i] g (off + 9 * i)) → RsLs w ps g off
  | [], _, _, _ => by simp only [RsLs]
  | r :: rs, g, off, h => by
      simp only [RsLs]
      refine ⟨h 0 (by simp), RsLs.of fun i hi => ?_⟩
      have := h (i + 1) (by simpa using hi)
      rw [show off + 9 + 9 * i = off + 9 * (i + 1) by omega]
      exact this
/-- the i-th part of a slice -/
theorem Sl.get {w : World} {a : Option Addr} {cap : Nat} {ps : List Rsn} (h : Sl w a cap ps) {i : Nat} (hi : i < ps.length) : ∃ g off, a = some ⟨g, off, none⟩ ∧ RsAt w ps[i] g (off + 9 * i) := by
  rcases h.2.2.2 with h | ⟨g, off, e, h⟩
  · subst h; simp at hi
  · exact ⟨g, off, e, h.get hi⟩

/-! ### how they are read -/
open Go.ChangeShapes Go.WideShapes Go.ChangeAt Go.Deep
instance : Inhabited Rsn := ⟨.mk 0 0 []⟩
section
variable {H : Type} {enc : TypeId × Value → H} {w : World} {held : Bool}
end
end Go.Proofs.Ytodlpmepoakdlaa
