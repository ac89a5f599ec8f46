/-
 Function values among the operations of a region that draws its order; a call that writes one block that was there.
-/
import Derived.Laws.EntriesVeiled
import Derived.ChangeArms
import Derived.Deep.Slices
import Derived.Test.YtnphoelbbgmehaaMAdd
import Derived.Test.YtnphoelbbgmehaaMCell
import Derived.Test.YtnphoelbbgmehaaMMod1
import Derived.Test.YtnphoelbbgmehaaMPowIn
namespace Go.Proofs.Ytnphoelbbgmehaa
set_option maxRecDepth 100000
open Go.RowKit
set_option linter.unusedSimpArgs false
set_option linter.unusedVariables false
attribute [local go_sem ↓] Go.wp_at_zero Go.wp_at_succ

section
variable {P : Program} {ops : Array Oper} {Q : Exit → Act → World → Prop} {md : Region.Mode} {S : World → Prop} {a : Act} {W : World} {cores : List Core}
theorem run_value {f : FuncId} {fn : Func} {c : Code} (hf : P.funcs[f]? = some fn) (hname : (fn.name == "runtime.NumGoroutine") = false) (hb : fn.body = some c) (x : Operand) (xs : Array Operand) (tys : Array TypeId) (dst : Option Tmp) (ty : TypeId) (pos : String) (after : Array Edge) (gd : Option (Nat × Bool))
  (cap : Array Value) (ρ : Operand → Value) (hx : ρ x = .func (.func f) #[] cap) (w : World) :
  (execOp ρ ⟨dst, .call ⟨.value x, xs, tys⟩, ty, pos, after, gd⟩).run P w = .ok (.enter f (xs.map ρ ++ cap)) w := by
 have h := run_enter hf hname hb (xs.map ρ ++ cap) w
 simp only [execOp, resolve, hx]
 simpa [Deferred.ofValue, invoke, go_sem] using h
theorem core_callV (c : Core) (f : FuncId) (fn : Func) (code : Code) (x : Operand) (cap : Array Value) (xs : List Operand) (us : List Value) (tys : Array TypeId) (ty : TypeId) (pos : String) (after : Array Edge) (u : Value) (args : Array Value)
  (ho : ops[c.i]? = some ⟨some c.d, .call ⟨.value x, xs.toArray, tys⟩, ty, pos, after, none⟩) (hf : P.funcs[f]? = some fn) (hn : (fn.name == "runtime.NumGoroutine") = false) (hb : fn.body = some code)
  (hk : c.kind = Kind.val u) (hfx : Known a cores c.pre x (.func (.func f) #[] cap)) (hx : Args a cores c.pre xs us) (hall : us.toArray ++ cap = args)
  (C : ∀ w, Below W.heap.size W w → Calls P f args w fun e w' => e = .returned u ∧ Below w.heap.size w w') : StepOK P ops Q a W cores c := by
 intro vs w hl hbw hp o ho' K hK
 rw [ho] at ho'
 obtain rfl := Option.some.inj ho'
 refine want_none rfl ?_
 have hargs : xs.toArray.map (over a (cores.map (·.d)) vs).eval = us.toArray := by
  rw [List.map_toArray]
  congr 1
  clear ho C ho' hall
  induction hx with
  | nil => rfl
  | cons h _ ih => rw [List.map_cons, h vs w hl hp, ih]
 have hrun := run_value hf hn hb x xs.toArray tys (some c.d) ty pos after none cap (over a (cores.map (·.d)) vs).eval (hfx vs w hl hp) w
 rw [hargs, hall] at hrun
 unfold Oper.wp
 rw [hrun, Oper.upon_enter]
 refine (C w hbw).mono fun e w' ⟨he, hb⟩ => ?_
 subst he
 exact hK.out u w' hb (by rw [hk]; exact rfl) (fun h => by rw [hk] at h; cases h)
/-- an operation that reads memory of which S tells -/
theorem core_held (c : Core) (op : Op) (ty : TypeId) (pos : String) (after : Array Edge) (u : Value) (x : Operand) (xv : Value)
  (ho : ops[c.i]? = some ⟨some c.d, op, ty, pos, after, none⟩) (hk : c.kind = Kind.val u) (hx : Known a cores c.pre x xv)
  (h : ∀ (ρ : Operand → Value) (w : World), ρ x = xv → S w → (execOp ρ ⟨some c.d, op, ty, pos, after, none⟩).run P w = .ok (.value u) w) : PureOK P ops S a W cores c := by
 intro _
 refine ⟨by rw [hk]; rfl, fun vs w hl _ hp o ho' => ?_⟩
 rw [ho] at ho'
 obtain rfl := Option.some.inj ho'
 exact ⟨u, by rw [hk]; exact rfl, Or.inl ⟨rfl, fun w' hS => h _ w' (hx vs w hl hp) hS⟩⟩
end

/-- all that was there stays, but block g; the world may have grown -/
structure Kept (g : Nat) (w w' : World) : Prop where
 os : w'.os = w.os
 tape : w'.tape = w.tape
 output : w'.output = w.output
 size : w.heap.size ≤ w'.heap.size
 block : ∀ k, k < w.heap.size → k ≠ g → w'.heap[k]? = w.heap[k]?
theorem Kept.ofBelow {g : Nat} {w w' : World} (h : Below w.heap.size w w') : Kept g w w' := ⟨h.os, h.tape, h.output, h.size, fun k hk _ => h.block k hk⟩
theorem Kept.trans {g : Nat} {a b c : World} (h : Kept g a b) (k : Kept g b c) : Kept g a c :=
 ⟨k.os.trans h.os, k.tape.trans h.tape, k.output.trans h.output, Nat.le_trans h.size k.size, fun i hi hg => (k.block i (Nat.lt_of_lt_of_le hi h.size) hg).trans (h.block i hi hg)⟩
theorem Kept.put4 (w : World) (g : Nat) (a b c d : Value) : Kept g w (put4 w g a b c d) := by
 have one : ∀ (w : World) (i : Nat) (v : Value), Kept g w (w.setCell ⟨g, i, none⟩ v) := fun w i v =>
  ⟨rfl, rfl, rfl, by simp [World.setCell], fun k hk hg => by simp [World.setCell, Array.getElem?_modify, Ne.symm hg]⟩
 unfold Go.Proofs.Ytnphoelbbgmehaa.put4
 exact (((one w 0 a).trans (one _ 1 b)).trans (one _ 2 c)).trans (one _ 3 d)
theorem At.kept {w w' : World} {g b : Nat} {t : TypeId} {cs : Array Value} (h : At w b t cs) (k : Kept g w w') (hne : b ≠ g) : At w' b t cs := (k.block b h.lt hne).trans h
theorem Below.kept {n g : Nat} {W w w' : World} (h : Below n W w) (hn : n ≤ W.heap.size) (k : Kept g w w') (hg : n ≤ g) : Below n W w' :=
 ⟨k.os.trans h.os, k.tape.trans h.tape, k.output.trans h.output, Nat.le_trans h.size k.size, fun i hi => (k.block i (Nat.lt_of_lt_of_le hi (Nat.le_trans hn h.size)) (by omega)).trans (h.block i hi)⟩
theorem At.put3 {w : World} {g : Nat} {t : TypeId} {a b c : Value} (h : At w g t #[a, b, c]) (a' b' c' : Value) : At (((w.setCell ⟨g, 0, none⟩ a').setCell ⟨g, 1, none⟩ b').setCell ⟨g, 2, none⟩ c') g t #[a', b', c'] := by
 have := ((h.set 0 a').set 1 b').set 2 c'
 simpa using this
theorem At.far3 {w : World} {g p : Nat} {t : TypeId} {cs : Array Value} (h : At w g t cs) (hne : g ≠ p) (a' b' c' : Value) : At (((w.setCell ⟨p, 0, none⟩ a').setCell ⟨p, 1, none⟩ b').setCell ⟨p, 2, none⟩ c') g t cs :=
 ((h.far (p := ⟨p, 0, none⟩) hne.symm a').far (p := ⟨p, 1, none⟩) hne.symm b').far (p := ⟨p, 2, none⟩) hne.symm c'
theorem At.put8 {w : World} {g : Nat} {t : TypeId} {a b c d e f i j : Value} (h : At w g t #[a, b, c, d, e, f, i, j]) (a' b' c' d' e' f' i' j' : Value) :
  At ((((((((w.setCell ⟨g, 0, none⟩ a').setCell ⟨g, 1, none⟩ b').setCell ⟨g, 2, none⟩ c').setCell ⟨g, 3, none⟩ d').setCell ⟨g, 4, none⟩ e').setCell ⟨g, 5, none⟩ f').setCell ⟨g, 6, none⟩ i').setCell ⟨g, 7, none⟩ j') g t #[a', b', c', d', e', f', i', j'] := by
 have := (((((((h.set 0 a').set 1 b').set 2 c').set 3 d').set 4 e').set 5 f').set 6 i').set 7 j'
 simpa using this
/-- a value that lies in one cell of a function's type is loaded -/
theorem loadF_run (dst : Option Tmp) (ty : TypeId) (pos : String) (after : Array Edge) (gd : Option (Nat × Bool)) (x : Operand) (ρ : Operand → Value) (w : World) (g k : Nat) (u : Value) (hx : ρ x = .pointer (some ⟨g, k, none⟩)) (h : w.cell? ⟨g, k, none⟩ = some u) :
  (execOp ρ ⟨dst, .load 68 x, ty, pos, after, gd⟩).run Try.prog w = .ok (.value u) w := by
 simp [execOp, hx, go_sem, h]
theorem loadF1_run (dst : Option Tmp) (ty : TypeId) (pos : String) (after : Array Edge) (gd : Option (Nat × Bool)) (x : Operand) (ρ : Operand → Value) (w : World) (g k : Nat) (u : Value) (hx : ρ x = .pointer (some ⟨g, k, none⟩)) (h : w.cell? ⟨g, k, none⟩ = some u) :
  (execOp ρ ⟨dst, .load 80 x, ty, pos, after, gd⟩).run Try.prog w = .ok (.value u) w := by
 simp [execOp, hx, go_sem, h]
theorem fieldWay0 (dst : Option Tmp) (ty : TypeId) (pos : String) (after : Array Edge) (gd : Option (Nat × Bool)) (x : Operand) (ρ : Operand → Value) (w : World) (g : Nat) (hx : ρ x = .pointer (some ⟨g, 0, none⟩)) :
  (execOp ρ ⟨dst, .fieldAddr 82 x 0, ty, pos, after, gd⟩).run Try.prog w = .ok (.value (.pointer (some ⟨g, 0, none⟩))) w := by
 simp [execOp, hx, go_sem]
end Go.Proofs.Ytnphoelbbgmehaa

/-
 Blocks of mods.multiple, eight words: the same rules.
-/
namespace Go.Proofs.Ytnphoelbbgmehaa
set_option maxRecDepth 100000
open Go.RowKit
set_option linter.unusedSimpArgs false
set_option linter.unusedVariables false
attribute [local go_sem ↓] Go.wp_at_zero Go.wp_at_succ

def put8 (w : World) (g : Nat) (a b c d e f i j : Value) : World := ((((((((w.setCell ⟨g, 0, none⟩ a).setCell ⟨g, 1, none⟩ b).setCell ⟨g, 2, none⟩ c).setCell ⟨g, 3, none⟩ d).setCell ⟨g, 4, none⟩ e).setCell ⟨g, 5, none⟩ f).setCell ⟨g, 6, none⟩ i).setCell ⟨g, 7, none⟩ j)
section
variable {P : Program} {ops : Array Oper} {Q : Exit → Act → World → Prop} {md : Region.Mode} {S : World → Prop} {a : Act} {W : World} {cores : List Core}
/-- an operation of two operands that reads memory of which S tells -/
theorem core_held2 (c : Core) (op : Op) (ty : TypeId) (pos : String) (after : Array Edge) (u : Value) (x y : Operand) (xv yv : Value)
  (ho : ops[c.i]? = some ⟨some c.d, op, ty, pos, after, none⟩) (hk : c.kind = Kind.val u) (hx : Known a cores c.pre x xv) (hy : Known a cores c.pre y yv)
  (h : ∀ (ρ : Operand → Value) (w : World), ρ x = xv → ρ y = yv → S w → (execOp ρ ⟨some c.d, op, ty, pos, after, none⟩).run P w = .ok (.value u) w) : PureOK P ops S a W cores c := by
 intro _
 refine ⟨by rw [hk]; rfl, fun vs w hl _ hp o ho' => ?_⟩
 rw [ho] at ho'
 obtain rfl := Option.some.inj ho'
 exact ⟨u, by rw [hk]; exact rfl, Or.inl ⟨rfl, fun w' hS => h _ w' (hx vs w hl hp) (hy vs w hl hp) hS⟩⟩
end
end Go.Proofs.Ytnphoelbbgmehaa

/-
 Reasons in memory: a reason as a value, a list of reasons as a slice; what stays while the world grows. How the statements' reasons are read.
-/
namespace Go.Proofs.Ytnphoelbbgmehaa
set_option maxRecDepth 100000
open Go.RowKit
set_option linter.unusedSimpArgs false
set_option linter.unusedVariables false

open Pr (Rsn)
/-- a reason, as a value -/
abbrev rv (n y : Nat) (s : Value) : Value := .agg #[.int .u64 (wd n 0 : Nat), .int .u64 (wd n 1 : Nat), .int .u64 (wd n 2 : Nat), .int .u64 (wd n 3 : Nat), .int .u64 (wd y 0 : Nat), .int .u64 (wd y 1 : Nat), .int .u64 (wd y 2 : Nat), .int .u64 (wd y 3 : Nat), s]

/-- the words of a number, in four cells -/
def W4 (w : World) (g off X : Nat) : Prop := X < 2 ^ 256 ∧ ∀ k, k < 4 → w.cell? ⟨g, off + k, none⟩ = some (.int .u64 (wd X k : Nat))

mutual
/-- a reason lies in nine cells -/
def RsAt (w : World) : Rsn → Nat → Nat → Prop
 | .mk n y ps, g, off => W4 w g off n ∧ W4 w g (off + 4) y ∧ ∃ a cap, w.cell? ⟨g, off + 8, none⟩ = some (.slice a ps.length cap) ∧ ps.length ≤ cap ∧ cap ≤ 9223372036854775807 ∧ (a = none → cap = 0) ∧
   (ps = [] ∨ ∃ g' off', a = some ⟨g', off', none⟩ ∧ RsLs w ps g' off')
/-- reasons lie one behind the other -/
def RsLs (w : World) : List Rsn → Nat → Nat → Prop
 | [], _, _ => True
 | r :: rs, g, off => RsAt w r g off ∧ RsLs w rs g (off + 9)
end
/-- a slice tells a list of reasons -/
def Sl (w : World) (a : Option Addr) (cap : Nat) (ps : List Rsn) : Prop :=
 ps.length ≤ cap ∧ cap ≤ 9223372036854775807 ∧ (a = none → cap = 0) ∧ (ps = [] ∨ ∃ g off, a = some ⟨g, off, none⟩ ∧ RsLs w ps g off)

theorem rsAt_iff {w : World} {r : Rsn} {g off : Nat} : RsAt w r g off ↔ W4 w g off r.n ∧ W4 w g (off + 4) r.w ∧ ∃ a cap, w.cell? ⟨g, off + 8, none⟩ = some (.slice a r.ps.length cap) ∧ Sl w a cap r.ps := by
 cases r with
 | mk n y ps => simp only [RsAt, Sl, Rsn.n, Rsn.w, Rsn.ps]

theorem W4.keep {w w' : World} (hk : ∀ p v, w.cell? p = some v → w'.cell? p = some v) {g off X : Nat} (h : W4 w g off X) : W4 w' g off X := ⟨h.1, fun k hk' => hk _ _ (h.2 k hk')⟩
mutual
theorem RsAt.keep {w w' : World} (hk : ∀ p v, w.cell? p = some v → w'.cell? p = some v) : ∀ (r : Rsn) {g off : Nat}, RsAt w r g off → RsAt w' r g off
 | .mk n y ps, g, off, h => by
   simp only [RsAt] at h ⊢
   obtain ⟨h1, h2, a, cap, hc, hl, hm, hn, hp⟩ := h
   refine ⟨h1.keep hk, h2.keep hk, a, cap, hk _ _ hc, hl, hm, hn, ?_⟩
   rcases hp with h | ⟨g', off', e, h⟩
   ·exact Or.inl h
   ·exact Or.inr ⟨g', off', e, RsLs.keep hk ps h⟩
theorem RsLs.keep {w w' : World} (hk : ∀ p v, w.cell? p = some v → w'.cell? p = some v) : ∀ (ps : List Rsn) {g off : Nat}, RsLs w ps g off → RsLs w' ps g off
 | [], _, _, _ => by simp only [RsLs]
 | r :: rs, g, off, h => by
   simp only [RsLs] at h ⊢
   exact ⟨RsAt.keep hk r h.1, RsLs.keep hk rs h.2⟩
end
theorem Sl.keep {w w' : World} (hk : ∀ p v, w.cell? p = some v → w'.cell? p = some v) {a : Option Addr} {cap : Nat} {ps : List Rsn} (h : Sl w a cap ps) : Sl w' a cap ps := by
 obtain ⟨hl, hm, hn, hp⟩ := h
 refine ⟨hl, hm, hn, ?_⟩
 rcases hp with h | ⟨g', off', e, h⟩
 ·exact Or.inl h
 ·exact Or.inr ⟨g', off', e, RsLs.keep hk ps h⟩
theorem Sl.on {w w' : World} {a : Option Addr} {cap : Nat} {ps : List Rsn} (h : Sl w a cap ps) (hb : Below w.heap.size w w') : Sl w' a cap ps := h.keep fun _ _ => cell_on hb

theorem RsLs.get {w : World} : ∀ {ps : List Rsn} {g off i : Nat} (h : RsLs w ps g off) (hi : i < ps.length), RsAt w ps[i] g (off + 9 * i)
 | r :: rs, g, off, 0, h, _ => by simp only [RsLs] at h; exact h.1
 | r :: rs, g, off, i + 1, h, hi => by
   simp only [RsLs] at h
   have := RsLs.get (i := i) h.2 (by simpa using hi)
   rw [show off + 9 + 9 * i = off + 9 * (i + 1) by omega] at this
   exact this
theorem RsLs.of {w : World} : ∀ {ps : List Rsn} {g off : Nat}, (∀ i (hi : i < ps.length), RsAt w ps[i] g (off + 9 * i)) → RsLs w ps g off
 | [], _, _, _ => by simp only [RsLs]
 | r :: rs, g, off, h => by
   simp only [RsLs]
   refine ⟨h 0 (by simp), RsLs.of fun i hi => ?_⟩
   have := h (i + 1) (by simpa using hi)
   rw [show off + 9 + 9 * i = off + 9 * (i + 1) by omega]
   exact this
/-- the i-th part of a slice -/
theorem Sl.get {w : World} {a : Option Addr} {cap : Nat} {ps : List Rsn} (h : Sl w a cap ps) {i : Nat} (hi : i < ps.length) : ∃ g off, a = some ⟨g, off, none⟩ ∧ RsAt w ps[i] g (off + 9 * i) := by
 rcases h.2.2.2 with h | ⟨g, off, e, h⟩
 ·subst h; simp at hi
 ·exact ⟨g, off, e, h.get hi⟩

/-! ### how they are read -/
theorem Try.cells28 : Try.prog.cellsOf 28 = 9 := by kernel_rfl
theorem Try.cells26 : Try.prog.cellsOf 26 = 1 := by kernel_rfl
open Go.ChangeShapes Go.WideShapes Go.ChangeAt Go.Deep
instance : Inhabited Rsn := ⟨.mk 0 0 []⟩
section
variable {H : Type} {enc : TypeId × Value → H} {w : World} {held : Bool}
end
end Go.Proofs.Ytnphoelbbgmehaa

/-
 Blocks of api.Reason, nine cells: fields' addresses, loads, among the operations of a region that draws its order.
-/
namespace Go.Proofs.Ytnphoelbbgmehaa
set_option maxRecDepth 100000
open Go.RowKit
set_option linter.unusedSimpArgs false
set_option linter.unusedVariables false
attribute [local go_sem ↓] Go.wp_at_zero Go.wp_at_succ

section
variable (x : Operand) (dst : Option Tmp) (ty : TypeId) (pos : String) (after : Array Edge) (guard : Option (Nat × Bool)) (ρ : Operand → Value) (w : World) (g : Nat) (u0 u1 u2 u3 u4 u5 u6 u7 u8 : Value)
theorem fieldR0 (hx : ρ x = .pointer (some ⟨g, 0, none⟩)) : (execOp ρ ⟨dst, .fieldAddr 28 x 0, ty, pos, after, guard⟩).run Try.prog w = .ok (.value (.pointer (some ⟨g, 0, none⟩))) w := by
 simp [execOp, hx, go_sem]
theorem fieldR1 (hx : ρ x = .pointer (some ⟨g, 0, none⟩)) : (execOp ρ ⟨dst, .fieldAddr 28 x 1, ty, pos, after, guard⟩).run Try.prog w = .ok (.value (.pointer (some ⟨g, 4, none⟩))) w := by
 simp [execOp, hx, go_sem]
theorem fieldR2 (hx : ρ x = .pointer (some ⟨g, 0, none⟩)) : (execOp ρ ⟨dst, .fieldAddr 28 x 2, ty, pos, after, guard⟩).run Try.prog w = .ok (.value (.pointer (some ⟨g, 8, none⟩))) w := by
 simp [execOp, hx, go_sem]
theorem loadR0 (hx : ρ x = .pointer (some ⟨g, 0, none⟩)) (h : At w g 28 #[u0, u1, u2, u3, u4, u5, u6, u7, u8]) :
  (execOp ρ ⟨dst, .load 25 x, ty, pos, after, guard⟩).run Try.prog w = .ok (.value (.agg #[u0, u1, u2, u3])) w := by
 have c0 : w.cell? ⟨g, 0, none⟩ = some u0 := h.cell 0
 have c1 : w.cell? ⟨g, 1, none⟩ = some u1 := h.cell 1
 have c2 : w.cell? ⟨g, 2, none⟩ = some u2 := h.cell 2
 have c3 : w.cell? ⟨g, 3, none⟩ = some u3 := h.cell 3
 simp [execOp, hx, go_sem, c0, c1, c2, c3]
theorem loadR1 (hx : ρ x = .pointer (some ⟨g, 4, none⟩)) (h : At w g 28 #[u0, u1, u2, u3, u4, u5, u6, u7, u8]) :
  (execOp ρ ⟨dst, .load 25 x, ty, pos, after, guard⟩).run Try.prog w = .ok (.value (.agg #[u4, u5, u6, u7])) w := by
 have c4 : w.cell? ⟨g, 4, none⟩ = some u4 := h.cell 4
 have c5 : w.cell? ⟨g, 5, none⟩ = some u5 := h.cell 5
 have c6 : w.cell? ⟨g, 6, none⟩ = some u6 := h.cell 6
 have c7 : w.cell? ⟨g, 7, none⟩ = some u7 := h.cell 7
 simp [execOp, hx, go_sem, c4, c5, c6, c7]
theorem loadR2 (hx : ρ x = .pointer (some ⟨g, 8, none⟩)) (h : At w g 28 #[u0, u1, u2, u3, u4, u5, u6, u7, u8]) :
  (execOp ρ ⟨dst, .load 26 x, ty, pos, after, guard⟩).run Try.prog w = .ok (.value u8) w := by
 have c8 : w.cell? ⟨g, 8, none⟩ = some u8 := h.cell 8
 simp [execOp, hx, go_sem, c8]
theorem loadR (hx : ρ x = .pointer (some ⟨g, 0, none⟩)) (h : At w g 28 #[u0, u1, u2, u3, u4, u5, u6, u7, u8]) :
  (execOp ρ ⟨dst, .load 28 x, ty, pos, after, guard⟩).run Try.prog w = .ok (.value (.agg #[u0, u1, u2, u3, u4, u5, u6, u7, u8])) w := by
 have c0 : w.cell? ⟨g, 0, none⟩ = some u0 := h.cell 0
 have c1 : w.cell? ⟨g, 1, none⟩ = some u1 := h.cell 1
 have c2 : w.cell? ⟨g, 2, none⟩ = some u2 := h.cell 2
 have c3 : w.cell? ⟨g, 3, none⟩ = some u3 := h.cell 3
 have c4 : w.cell? ⟨g, 4, none⟩ = some u4 := h.cell 4
 have c5 : w.cell? ⟨g, 5, none⟩ = some u5 := h.cell 5
 have c6 : w.cell? ⟨g, 6, none⟩ = some u6 := h.cell 6
 have c7 : w.cell? ⟨g, 7, none⟩ = some u7 := h.cell 7
 have c8 : w.cell? ⟨g, 8, none⟩ = some u8 := h.cell 8
 simp [execOp, hx, go_sem, c0, c1, c2, c3, c4, c5, c6, c7, c8]
end
section
variable {P : Program} {ops : Array Oper} {Q : Exit → Act → World → Prop} {md : Region.Mode} {S : World → Prop} {a : Act} {W : World} {cores : List Core}
/-- a guarded operation of one operand that may read memory of which S tells -/
theorem coreG_held (c : Core) (op : Op) (ty : TypeId) (pos : String) (after : Array Edge) (gd : Option (Nat × Bool)) (u : Value) (x : Operand) (xv : Value)
  (ho : ops[c.i]? = some ⟨some c.d, op, ty, pos, after, gd⟩) (hk : c.kind = Kind.val u) (hg : Wants ops a cores c.pre gd true) (hx : Known a cores c.pre x xv)
  (h : ∀ (ρ : Operand → Value) (w : World), ρ x = xv → S w → (execOp ρ ⟨some c.d, op, ty, pos, after, gd⟩).run P w = .ok (.value u) w) : PureOK P ops S a W cores c :=
 coreG_pure c _ ty pos after gd u ho hk hg fun vs w hl hp w' hS => h _ w' (hx vs w hl hp) hS
end
end Go.Proofs.Ytnphoelbbgmehaa

/-
 A guarded call, of a function whose contract wants what was there ahead of the region.
-/
namespace Go.Proofs.Ytnphoelbbgmehaa
set_option maxRecDepth 100000
open Go.RowKit
set_option linter.unusedSimpArgs false
set_option linter.unusedVariables false
section
variable {P : Program} {ops : Array Oper} {Q : Exit → Act → World → Prop} {md : Region.Mode} {S : World → Prop} {a : Act} {W : World} {cores : List Core}
theorem coreG_callB (c : Core) (f : FuncId) (fn : Func) (code : Code) (xs : List Operand) (us : List Value) (tys : Array TypeId) (ty : TypeId) (pos : String) (after : Array Edge) (gd : Option (Nat × Bool)) (u : Value)
  (ho : ops[c.i]? = some ⟨some c.d, .call ⟨.value (.func f), xs.toArray, tys⟩, ty, pos, after, gd⟩) (hf : P.funcs[f]? = some fn) (hn : (fn.name == "runtime.NumGoroutine") = false) (hb : fn.body = some code)
  (hk : c.kind = Kind.val u) (hg : Wants ops a cores c.pre gd true) (hx : Args a cores c.pre xs us)
  (C : ∀ w, Below W.heap.size W w → Calls P f us.toArray w fun e w' => e = .returned u ∧ Below w.heap.size w w') : StepOK P ops Q a W cores c := by
 intro vs w hl hbw hp o ho' K hK
 rw [ho] at ho'
 obtain rfl := Option.some.inj ho'
 refine want_if (hg vs w hl hp _ rfl) ?_
 have hargs : xs.toArray.map (over a (cores.map (·.d)) vs).eval = us.toArray := by
  rw [List.map_toArray]
  congr 1
  clear ho C ho'
  induction hx with
  | nil => rfl
  | cons h _ ih => rw [List.map_cons, h vs w hl hp, ih]
 have hrun : ∀ w, (execOp (over a (cores.map (·.d)) vs).eval ⟨some c.d, .call ⟨.value (.func f), xs.toArray, tys⟩, ty, pos, after, gd⟩).run P w = .ok (.enter f us.toArray) w := fun w => by
  have h := run_enter hf hn hb us.toArray w
  simp only [execOp, resolve, hargs]
  simpa [Act.eval, Deferred.ofValue, invoke, go_sem] using h
 unfold Oper.wp
 rw [hrun w, Oper.upon_enter]
 refine (C w hbw).mono fun e w' ⟨he, hb⟩ => ?_
 subst he
 exact hK.out u w' hb (by rw [hk]; exact rfl) (fun h => by rw [hk] at h; cases h)
end
end Go.Proofs.Ytnphoelbbgmehaa
