/-
  How the statements' arguments are read: a long number, three of them in an array.
-/
import Derived.Test.YtfjploahkodekaaRows
import Derived.ProofKit
import Derived.OpenShut
import Derived.ShutString
import Derived.ChangeOld
import Derived.SizedLaws
import Derived.Below
import Derived.ChangeArms
import Derived.Deep.Slices
import Derived.Deep.Cut
import Derived.RangeFuncNested
import Derived.RangeFuncLeaves
import Derived.Shelf.Abstract
import Derived.WalkKit
import Derived.OwnWalkIn
import Derived.TacticsInMore
import Derived.LoopNIn
import Derived.LoopIn
import Derived.Stop.RegionWithIn
import Derived.Test.YtfjploahkodekaaMMod11
import Derived.Test.YtfjploahkodekaaMMult
import Derived.Test.YtfjploahkodekaaMRsn
import Derived.Test.YtfjploahkodekaaMShort
namespace Go.Proofs.Ytfjploahkodekaa
set_option maxRecDepth 100000
set_option linter.unusedSimpArgs false
set_option linter.unusedVariables false
open Go.ChangeShapes Go.WideShapes Go.ChangeAt Go.RowKit

theorem own : ownKnob Try.prog.godebug = none := by kernel_rfl
theorem laidOut : laidOutB Try.prog = true := by kernel_rfl
theorem Try.cells24 : Try.prog.cellsOf 24 = 4 := by kernel_rfl
theorem Try.cells22 : Try.prog.cellsOf 22 = 1 := by kernel_rfl

section
variable {H : Type} {enc : TypeId × Value → H} {w : World} {held : Bool}

theorem open_word {fuel : Nat} {c : Value} {x : DataW H × List MemPlace} (h : DataW.trod enc Try.prog w 0 (fun _ => true) held fuel 22 [c] = some x) :
    ∃ n : Nat, c = .int .u64 (n : Int) ∧ n < 18446744073709551616 := by
  obtain ⟨n, e, _, hw⟩ := DataW.trod_int Try.underlying22 h
  have bd := bounds_u64 hw
  simp at e
  exact ⟨n.toNat, by rw [e, Int.toNat_of_nonneg bd.1], by omega⟩

theorem open_four {fuel : Nat} {c0 c1 c2 c3 : Value} {x : DataW H × List MemPlace} (h : DataW.trod enc Try.prog w 0 (fun _ => true) held fuel 24 [c0, c1, c2, c3] = some x) :
    ∃ X : Nat, X < 2 ^ 256 ∧ c0 = .int .u64 (wd X 0 : Nat) ∧ c1 = .int .u64 (wd X 1 : Nat) ∧ c2 = .int .u64 (wd X 2 : Nat) ∧ c3 = .int .u64 (wd X 3 : Nat) := by
  obtain ⟨xs, m, rfl, hx, hl, hn, he⟩ := DataW.trod_array Try.underlying24 h
  rw [Try.cells22] at he
  match xs, hn with
  | [x0, x1, x2, x3], _ =>
    have e0 := he 0 (by omega)
    have e1 := he 1 (by omega)
    have e2 := he 2 (by omega)
    have e3 := he 3 (by omega)
    simp at e0 e1 e2 e3
    obtain ⟨a, rfl, wa⟩ := open_word e0
    obtain ⟨b, rfl, wb⟩ := open_word e1
    obtain ⟨p, rfl, wp⟩ := open_word e2
    obtain ⟨q, rfl, wq⟩ := open_word e3
    obtain ⟨X, hX⟩ : ∃ X, X = a + 18446744073709551616 * b + 340282366920938463463374607431768211456 * p + 6277101735386680763835789423207666416102355444464034512896 * q := ⟨_, rfl⟩
    obtain ⟨f0, f1, f2, f3⟩ := wd_of a b p q wa wb wp wq X hX
    exact ⟨X, by omega, by rw [f0], by rw [f1], by rw [f2], by rw [f3]⟩

theorem okWide_arr {base n : Nat} {t e : TypeId} {v : Value} (ht : Try.prog.underlying t = some (.array n e)) (h : Value.okWide Try.prog w .any base t v) : ∃ cs, v = .agg cs ∧ cs.size = Try.prog.cellsOf t := by
  simp only [Value.okWide, ht] at h
  obtain ⟨cs, h1, h2, _⟩ := h
  exact ⟨cs, h1, h2⟩

/-- a long number -/
theorem open_num {base : Nat} {v : Value} {d : DataW H} {p : List MemPlace} (hv : Value.okWide Try.prog w .any base 24 v) (h : DataW.Trod enc Try.prog w 0 (fun _ => true) held 24 v d p) :
    ∃ X : Nat, X < 2 ^ 256 ∧ v = num X := by
  obtain ⟨cs, rfl, hsz⟩ := okWide_arr Try.underlying24 hv
  obtain ⟨fuel, hf⟩ := h
  rw [Try.cells24] at hsz
  obtain ⟨cs⟩ := cs
  match cs, hsz with
  | [c0, c1, c2, c3], _ =>
    simp [Value.cells] at hf
    obtain ⟨X, hX, rfl, rfl, rfl, rfl⟩ := open_four hf
    exact ⟨X, hX, rfl⟩

/-- three of them, in an array -/
theorem open_three {base : Nat} {v : Value} {d : DataW H} {p : List MemPlace} (hv : Value.okWide Try.prog w .any base 41 v) (h : DataW.Trod enc Try.prog w 0 (fun _ => true) held 41 v d p) :
    ∃ X Y Z : Nat, X < 2 ^ 256 ∧ Y < 2 ^ 256 ∧ Z < 2 ^ 256 ∧ v = .agg #[.int .u64 (wd X 0 : Nat), .int .u64 (wd X 1 : Nat), .int .u64 (wd X 2 : Nat), .int .u64 (wd X 3 : Nat), .int .u64 (wd Y 0 : Nat), .int .u64 (wd Y 1 : Nat), .int .u64 (wd Y 2 : Nat), .int .u64 (wd Y 3 : Nat), .int .u64 (wd Z 0 : Nat), .int .u64 (wd Z 1 : Nat), .int .u64 (wd Z 2 : Nat), .int .u64 (wd Z 3 : Nat)] := by
  obtain ⟨cs, rfl, hsz⟩ := okWide_arr Try.underlying41 hv
  obtain ⟨fuel, hf⟩ := h
  obtain ⟨xs, m, rfl, hx, hl, hn, he⟩ := DataW.trod_array Try.underlying41 hf
  rw [Try.cells24] at he
  match xs, hn with
  | [x0, x1, x2], _ =>
    have e0 := he 0 (by omega)
    have e1 := he 1 (by omega)
    have e2 := he 2 (by omega)
    obtain ⟨cs⟩ := cs
    match cs, hsz with
    | [c0, c1, c2, c3, c4, c5, c6, c7, c8, c9, c10, c11], _ =>
      simp [Value.cells] at e0 e1 e2
      obtain ⟨X, hX, rfl, rfl, rfl, rfl⟩ := open_four e0
      obtain ⟨Y, hY, rfl, rfl, rfl, rfl⟩ := open_four e1
      obtain ⟨Z, hZ, rfl, rfl, rfl, rfl⟩ := open_four e2
      exact ⟨X, Y, Z, hX, hY, hZ, rfl⟩
end
end Go.Proofs.Ytfjploahkodekaa

/-
  Reasons in memory: a reason as a value, a list of reasons as a slice; what stays while the world grows. How the statements' reasons are read.
-/
namespace Go.Proofs.Ytfjploahkodekaa
set_option maxRecDepth 100000
open Go.RowKit
set_option linter.unusedSimpArgs false
set_option linter.unusedVariables false

open Pr (Rsn)
/-- a reason, as a value -/
abbrev rv (n y : Nat) (s : Value) : Value := .agg #[.int .u64 (wd n 0 : Nat), .int .u64 (wd n 1 : Nat), .int .u64 (wd n 2 : Nat), .int .u64 (wd n 3 : Nat), .int .u64 (wd y 0 : Nat), .int .u64 (wd y 1 : Nat), .int .u64 (wd y 2 : Nat), .int .u64 (wd y 3 : Nat), s]

/-- the words of a number, in four cells -/
def W4 (w : World) (g off X : Nat) : Prop := X < 2 ^ 256 ∧ ∀ k, k < 4 → w.cell? ⟨g, off + k, none⟩ = some (.int .u64 (wd X k : Nat))

mutual
/-- a reason lies in nine cells -/
def RsAt (w : World) : Rsn → Nat → Nat → Prop
  | .mk n y ps, g, off => W4 w g off n ∧ W4 w g (off + 4) y ∧ ∃ a cap, w.cell? ⟨g, off + 8, none⟩ = some (.slice a ps.length cap) ∧ ps.length ≤ cap ∧ cap ≤ 9223372036854775807 ∧ (a = none → cap = 0) ∧
      (ps = [] ∨ ∃ g' off', a = some ⟨g', off', none⟩ ∧ RsLs w ps g' off')
/-- reasons lie one behind the other -/
def RsLs (w : World) : List Rsn → Nat → Nat → Prop
  | [], _, _ => True
  | r :: rs, g, off => RsAt w r g off ∧ RsLs w rs g (off + 9)
end
/-- a slice tells a list of reasons -/
def Sl (w : World) (a : Option Addr) (cap : Nat) (ps : List Rsn) : Prop :=
  ps.length ≤ cap ∧ cap ≤ 9223372036854775807 ∧ (a = none → cap = 0) ∧ (ps = [] ∨ ∃ g off, a = some ⟨g, off, none⟩ ∧ RsLs w ps g off)

theorem rsAt_iff {w : World} {r : Rsn} {g off : Nat} : RsAt w r g off ↔ W4 w g off r.n ∧ W4 w g (off + 4) r.w ∧ ∃ a cap, w.cell? ⟨g, off + 8, none⟩ = some (.slice a r.ps.length cap) ∧ Sl w a cap r.ps := by
  cases r with
  | mk n y ps => simp only [RsAt, Sl, Rsn.n, Rsn.w, Rsn.ps]

theorem W4.keep {w w' : World} (hk : ∀ p v, w.cell? p = some v → w'.cell? p = some v) {g off X : Nat} (h : W4 w g off X) : W4 w' g off X := ⟨h.1, fun k hk' => hk _ _ (h.2 k hk')⟩
mutual
theorem RsAt.keep {w w' : World} (hk : ∀ p v, w.cell? p = some v → w'.cell? p = some v) : ∀ (r : Rsn) {g off : Nat}, RsAt w r g off → RsAt w' r g off
  | .mk n y ps, g, off, h => by
      simp only [RsAt] at h ⊢
      obtain ⟨h1, h2, a, cap, hc, hl, hm, hn, hp⟩ := h
      refine ⟨h1.keep hk, h2.keep hk, a, cap, hk _ _ hc, hl, hm, hn, ?_⟩
      rcases hp with h | ⟨g', off', e, h⟩
      · exact Or.inl h
      · exact Or.inr ⟨g', off', e, RsLs.keep hk ps h⟩
theorem RsLs.keep {w w' : World} (hk : ∀ p v, w.cell? p = some v → w'.cell? p = some v) : ∀ (ps : List Rsn) {g off : Nat}, RsLs w ps g off → RsLs w' ps g off
  | [], _, _, _ => by simp only [RsLs]
  | r :: rs, g, off, h => by
      simp only [RsLs] at h ⊢
      exact ⟨RsAt.keep hk r h.1, RsLs.keep hk rs h.2⟩
end
theorem Sl.keep {w w' : World} (hk : ∀ p v, w.cell? p = some v → w'.cell? p = some v) {a : Option Addr} {cap : Nat} {ps : List Rsn} (h : Sl w a cap ps) : Sl w' a cap ps := by
  obtain ⟨hl, hm, hn, hp⟩ := h
  refine ⟨hl, hm, hn, ?_⟩
  rcases hp with h | ⟨g', off', e, h⟩
  · exact Or.inl h
  · exact Or.inr ⟨g', off', e, RsLs.keep hk ps h⟩
theorem Sl.on {w w' : World} {a : Option Addr} {cap : Nat} {ps : List Rsn} (h : Sl w a cap ps) (hb : Below w.heap.size w w') : Sl w' a cap ps := h.keep fun _ _ => cell_on hb

theorem RsLs.get {w : World} : ∀ {ps : List Rsn} {g off i : Nat} (h : RsLs w ps g off) (hi : i < ps.length), RsAt w ps[i] g (off + 9 * i)
  | r :: rs, g, off, 0, h, _ => by simp only [RsLs] at h; exact h.1
  | r :: rs, g, off, i + 1, h, hi => by
      simp only [RsLs] at h
      have := RsLs.get (i := i) h.2 (by simpa using hi)
      rw [show off + 9 + 9 * i = off + 9 * (i + 1) by omega] at this
      exact this
theorem RsLs.of {w : World} : ∀ {ps : List Rsn} {g off : Nat}, (∀ i (hi : i < ps.length), RsAt w ps[i] g (off + 9 * i)) → RsLs w ps g off
  | [], _, _, _ => by simp only [RsLs]
  | r :: rs, g, off, h => by
      simp only [RsLs]
      refine ⟨h 0 (by simp), RsLs.of fun i hi => ?_⟩
      have := h (i + 1) (by simpa using hi)
      rw [show off + 9 + 9 * i = off + 9 * (i + 1) by omega]
      exact this
/-- the i-th part of a slice -/
theorem Sl.get {w : World} {a : Option Addr} {cap : Nat} {ps : List Rsn} (h : Sl w a cap ps) {i : Nat} (hi : i < ps.length) : ∃ g off, a = some ⟨g, off, none⟩ ∧ RsAt w ps[i] g (off + 9 * i) := by
  rcases h.2.2.2 with h | ⟨g, off, e, h⟩
  · subst h; simp at hi
  · exact ⟨g, off, e, h.get hi⟩

/-! ### how they are read -/
open Go.ChangeShapes Go.WideShapes Go.ChangeAt Go.Deep
instance : Inhabited Rsn := ⟨.mk 0 0 []⟩
section
variable {H : Type} {enc : TypeId × Value → H} {w : World} {held : Bool}
end
end Go.Proofs.Ytfjploahkodekaa

/-
  Blocks of api.Reason, nine cells: fields' addresses, loads, among the operations of a region that draws its order.
-/
namespace Go.Proofs.Ytfjploahkodekaa
set_option maxRecDepth 100000
open Go.RowKit
set_option linter.unusedSimpArgs false
set_option linter.unusedVariables false
attribute [local go_sem ↓] Go.wp_at_zero Go.wp_at_succ

section
variable (x : Operand) (dst : Option Tmp) (ty : TypeId) (pos : String) (after : Array Edge) (guard : Option (Nat × Bool)) (ρ : Operand → Value) (w : World) (g : Nat) (u0 u1 u2 u3 u4 u5 u6 u7 u8 : Value)
theorem buildZ : (execOp ρ ⟨dst, .build 24 #[], ty, pos, after, guard⟩).run Try.prog w = .ok (.value (.agg #[.int .u64 0, .int .u64 0, .int .u64 0, .int .u64 0])) w := by
  simp [execOp, go_sem]
end
section
variable {P : Program} {ops : Array Oper} {Q : Exit → Act → World → Prop} {md : Region.Mode} {S : World → Prop} {a : Act} {W : World} {cores : List Core}
/-- a guarded operation of one operand that may read memory of which S tells -/
theorem coreG_held (c : Core) (op : Op) (ty : TypeId) (pos : String) (after : Array Edge) (gd : Option (Nat × Bool)) (u : Value) (x : Operand) (xv : Value)
    (ho : ops[c.i]? = some ⟨some c.d, op, ty, pos, after, gd⟩) (hk : c.kind = Kind.val u) (hg : Wants ops a cores c.pre gd true) (hx : Known a cores c.pre x xv)
    (h : ∀ (ρ : Operand → Value) (w : World), ρ x = xv → S w → (execOp ρ ⟨some c.d, op, ty, pos, after, gd⟩).run P w = .ok (.value u) w) : PureOK P ops S a W cores c :=
  coreG_pure c _ ty pos after gd u ho hk hg fun vs w hl hp w' hS => h _ w' (hx vs w hl hp) hS
end
end Go.Proofs.Ytfjploahkodekaa

/-
  Blocks of api.Group, sixteen cells: fields' addresses, loads, among the operations of a region that draws its order.
-/
namespace Go.Proofs.Ytfjploahkodekaa
set_option maxRecDepth 100000
open Go.RowKit
set_option linter.unusedSimpArgs false
set_option linter.unusedVariables false
attribute [local go_sem ↓] Go.wp_at_zero Go.wp_at_succ

abbrev grp (P Q G H : Nat) : Value := .agg #[.int .u64 (wd P 0 : Nat), .int .u64 (wd P 1 : Nat), .int .u64 (wd P 2 : Nat), .int .u64 (wd P 3 : Nat), .int .u64 (wd Q 0 : Nat), .int .u64 (wd Q 1 : Nat), .int .u64 (wd Q 2 : Nat), .int .u64 (wd Q 3 : Nat), .int .u64 (wd G 0 : Nat), .int .u64 (wd G 1 : Nat), .int .u64 (wd G 2 : Nat), .int .u64 (wd G 3 : Nat), .int .u64 (wd H 0 : Nat), .int .u64 (wd H 1 : Nat), .int .u64 (wd H 2 : Nat), .int .u64 (wd H 3 : Nat)]
section
variable (x : Operand) (dst : Option Tmp) (ty : TypeId) (pos : String) (after : Array Edge) (guard : Option (Nat × Bool)) (ρ : Operand → Value) (w : World) (g : Nat) (u0 u1 u2 u3 u4 u5 u6 u7 u8 u9 u10 u11 u12 u13 u14 u15 : Value)
theorem fieldG0 (hx : ρ x = .pointer (some ⟨g, 0, none⟩)) : (execOp ρ ⟨dst, .fieldAddr 26 x 0, ty, pos, after, guard⟩).run Try.prog w = .ok (.value (.pointer (some ⟨g, 0, none⟩))) w := by
  simp [execOp, hx, go_sem]
theorem fieldG1 (hx : ρ x = .pointer (some ⟨g, 0, none⟩)) : (execOp ρ ⟨dst, .fieldAddr 26 x 1, ty, pos, after, guard⟩).run Try.prog w = .ok (.value (.pointer (some ⟨g, 4, none⟩))) w := by
  simp [execOp, hx, go_sem]
theorem fieldG2 (hx : ρ x = .pointer (some ⟨g, 0, none⟩)) : (execOp ρ ⟨dst, .fieldAddr 26 x 2, ty, pos, after, guard⟩).run Try.prog w = .ok (.value (.pointer (some ⟨g, 8, none⟩))) w := by
  simp [execOp, hx, go_sem]
theorem fieldG3 (hx : ρ x = .pointer (some ⟨g, 0, none⟩)) : (execOp ρ ⟨dst, .fieldAddr 26 x 3, ty, pos, after, guard⟩).run Try.prog w = .ok (.value (.pointer (some ⟨g, 12, none⟩))) w := by
  simp [execOp, hx, go_sem]
theorem loadG0 (hx : ρ x = .pointer (some ⟨g, 0, none⟩)) (h : At w g 26 #[u0, u1, u2, u3, u4, u5, u6, u7, u8, u9, u10, u11, u12, u13, u14, u15]) :
    (execOp ρ ⟨dst, .load 24 x, ty, pos, after, guard⟩).run Try.prog w = .ok (.value (.agg #[u0, u1, u2, u3])) w := by
  have c0 : w.cell? ⟨g, 0, none⟩ = some u0 := h.cell 0
  have c1 : w.cell? ⟨g, 1, none⟩ = some u1 := h.cell 1
  have c2 : w.cell? ⟨g, 2, none⟩ = some u2 := h.cell 2
  have c3 : w.cell? ⟨g, 3, none⟩ = some u3 := h.cell 3
  simp [execOp, hx, go_sem, c0, c1, c2, c3]
theorem loadG1 (hx : ρ x = .pointer (some ⟨g, 4, none⟩)) (h : At w g 26 #[u0, u1, u2, u3, u4, u5, u6, u7, u8, u9, u10, u11, u12, u13, u14, u15]) :
    (execOp ρ ⟨dst, .load 24 x, ty, pos, after, guard⟩).run Try.prog w = .ok (.value (.agg #[u4, u5, u6, u7])) w := by
  have c0 : w.cell? ⟨g, 4, none⟩ = some u4 := h.cell 4
  have c1 : w.cell? ⟨g, 5, none⟩ = some u5 := h.cell 5
  have c2 : w.cell? ⟨g, 6, none⟩ = some u6 := h.cell 6
  have c3 : w.cell? ⟨g, 7, none⟩ = some u7 := h.cell 7
  simp [execOp, hx, go_sem, c0, c1, c2, c3]
theorem loadG2 (hx : ρ x = .pointer (some ⟨g, 8, none⟩)) (h : At w g 26 #[u0, u1, u2, u3, u4, u5, u6, u7, u8, u9, u10, u11, u12, u13, u14, u15]) :
    (execOp ρ ⟨dst, .load 24 x, ty, pos, after, guard⟩).run Try.prog w = .ok (.value (.agg #[u8, u9, u10, u11])) w := by
  have c0 : w.cell? ⟨g, 8, none⟩ = some u8 := h.cell 8
  have c1 : w.cell? ⟨g, 9, none⟩ = some u9 := h.cell 9
  have c2 : w.cell? ⟨g, 10, none⟩ = some u10 := h.cell 10
  have c3 : w.cell? ⟨g, 11, none⟩ = some u11 := h.cell 11
  simp [execOp, hx, go_sem, c0, c1, c2, c3]
theorem loadG3 (hx : ρ x = .pointer (some ⟨g, 12, none⟩)) (h : At w g 26 #[u0, u1, u2, u3, u4, u5, u6, u7, u8, u9, u10, u11, u12, u13, u14, u15]) :
    (execOp ρ ⟨dst, .load 24 x, ty, pos, after, guard⟩).run Try.prog w = .ok (.value (.agg #[u12, u13, u14, u15])) w := by
  have c0 : w.cell? ⟨g, 12, none⟩ = some u12 := h.cell 12
  have c1 : w.cell? ⟨g, 13, none⟩ = some u13 := h.cell 13
  have c2 : w.cell? ⟨g, 14, none⟩ = some u14 := h.cell 14
  have c3 : w.cell? ⟨g, 15, none⟩ = some u15 := h.cell 15
  simp [execOp, hx, go_sem, c0, c1, c2, c3]
theorem loadG (hx : ρ x = .pointer (some ⟨g, 0, none⟩)) (h : At w g 26 #[u0, u1, u2, u3, u4, u5, u6, u7, u8, u9, u10, u11, u12, u13, u14, u15]) :
    (execOp ρ ⟨dst, .load 26 x, ty, pos, after, guard⟩).run Try.prog w = .ok (.value (.agg #[u0, u1, u2, u3, u4, u5, u6, u7, u8, u9, u10, u11, u12, u13, u14, u15])) w := by
  have c0 : w.cell? ⟨g, 0, none⟩ = some u0 := h.cell 0
  have c1 : w.cell? ⟨g, 1, none⟩ = some u1 := h.cell 1
  have c2 : w.cell? ⟨g, 2, none⟩ = some u2 := h.cell 2
  have c3 : w.cell? ⟨g, 3, none⟩ = some u3 := h.cell 3
  have c4 : w.cell? ⟨g, 4, none⟩ = some u4 := h.cell 4
  have c5 : w.cell? ⟨g, 5, none⟩ = some u5 := h.cell 5
  have c6 : w.cell? ⟨g, 6, none⟩ = some u6 := h.cell 6
  have c7 : w.cell? ⟨g, 7, none⟩ = some u7 := h.cell 7
  have c8 : w.cell? ⟨g, 8, none⟩ = some u8 := h.cell 8
  have c9 : w.cell? ⟨g, 9, none⟩ = some u9 := h.cell 9
  have c10 : w.cell? ⟨g, 10, none⟩ = some u10 := h.cell 10
  have c11 : w.cell? ⟨g, 11, none⟩ = some u11 := h.cell 11
  have c12 : w.cell? ⟨g, 12, none⟩ = some u12 := h.cell 12
  have c13 : w.cell? ⟨g, 13, none⟩ = some u13 := h.cell 13
  have c14 : w.cell? ⟨g, 14, none⟩ = some u14 := h.cell 14
  have c15 : w.cell? ⟨g, 15, none⟩ = some u15 := h.cell 15
  simp [execOp, hx, go_sem, c0, c1, c2, c3, c4, c5, c6, c7, c8, c9, c10, c11, c12, c13, c14, c15]
end
end Go.Proofs.Ytfjploahkodekaa

/-
  groups.together: the numbers, each with its exponent, gone through by whatever body.
-/
namespace Go.Proofs.Ytfjploahkodekaa
set_option maxRecDepth 100000
set_option linter.unusedSimpArgs false
set_option linter.unusedVariables false
open Go.RowKit Go.Shelf
attribute [local go_sem] Oper.semAt_some
attribute [local go_sem ↓] Go.wp_at_zero Go.wp_at_succ

/-- a number, and an exponent -/
abbrev NP := { p : Nat × Nat // p.1 < 2 ^ 256 ∧ p.2 < 2 ^ 256 }
/-- a slice of numbers, in a block below n₀ -/
def NSl (n₀ : Nat) (w : World) (a : Option Addr) (cap : Nat) (xs : List Nat) : Prop :=
  xs.length ≤ cap ∧ cap ≤ 9223372036854775807 ∧ (∀ x ∈ xs, x < 2 ^ 256) ∧
  (xs = [] ∨ ∃ g o, a = some ⟨g, o, none⟩ ∧ g < n₀ ∧ ∀ i (h : i < xs.length) k, k < 4 → w.cell? ⟨g, o + i * 4 + k, none⟩ = some (.int .u64 (wd xs[i] k : Nat)))
theorem NSl.below {n₀ : Nat} {A B : World} (h : Below n₀ A B) {a : Option Addr} {cap : Nat} {xs : List Nat} : NSl n₀ A a cap xs → NSl n₀ B a cap xs
  | ⟨h1, h2, h3, h4⟩ => ⟨h1, h2, h3, h4.imp id fun ⟨g, o, ha, hg, hc⟩ => ⟨g, o, ha, hg, fun i hi k hk => (h.cell (p := ⟨g, o + i * 4 + k, none⟩) hg).trans (hc i hi k hk)⟩⟩
theorem NSl.get {n₀ : Nat} {w : World} {a : Option Addr} {cap : Nat} {xs : List Nat} (h : NSl n₀ w a cap xs) {i x : Nat} (hi : i < xs.length) (hx : xs[i] = x) : ∃ g o, a = some ⟨g, o, none⟩ ∧ g < n₀ ∧
    w.cell? ⟨g, o + i * 4, none⟩ = some (.int .u64 (wd x 0 : Nat)) ∧ w.cell? ⟨g, o + i * 4 + 1, none⟩ = some (.int .u64 (wd x 1 : Nat)) ∧ w.cell? ⟨g, o + i * 4 + 2, none⟩ = some (.int .u64 (wd x 2 : Nat)) ∧ w.cell? ⟨g, o + i * 4 + 3, none⟩ = some (.int .u64 (wd x 3 : Nat)) := by
  rcases h.2.2.2 with rfl | ⟨g, o, ha, hg, hc⟩
  · exact absurd hi (Nat.not_lt_zero _)
  · subst hx
    exact ⟨g, o, ha, hg, hc i hi 0 (by omega), hc i hi 1 (by omega), hc i hi 2 (by omega), hc i hi 3 (by omega)⟩

/-- what a round leaves alone: what lies below n₀, and block b -/
structure KP (n₀ b : Nat) (W W' : World) : Prop where
  bel : Below n₀ W W'
  box : b < W.heap.size → W'.heap[b]? = W.heap[b]?
theorem KP.refl (n₀ b : Nat) (W : World) : KP n₀ b W W := ⟨Below.refl _ _, fun _ => rfl⟩
theorem KP.trans {n₀ b : Nat} {A B C : World} (h : KP n₀ b A B) (k : KP n₀ b B C) : KP n₀ b A C := ⟨h.bel.trans k.bel, fun hb => (k.box (Nat.lt_of_lt_of_le hb h.bel.size)).trans (h.box hb)⟩
theorem KP.of {n₀ b : Nat} {A B : World} (h : Below A.heap.size A B) (hn : n₀ ≤ A.heap.size) : KP n₀ b A B := ⟨h.mono hn, fun hb => h.block b hb⟩

end Go.Proofs.Ytfjploahkodekaa
