/-
  The rules for guarded operations ('&&', '||') of a region that draws its order: what is wanted, what is passed over; calls that ask for what was there; loads, slices, comparisons of hashes.
-/
import Derived.Test.YtkmjfaaelkmnkaaDoorCore
import Derived.Test.YtkmjfaaelkmnkaaDoorEqH
namespace Go.Proofs.YtkmjfaaelkmnkaaDoor
open Go.RowKit
set_option linter.unusedSimpArgs false
set_option linter.unusedVariables false

section
variable {P : Program} {ops : Array Oper} {Q : Exit → Act → World → Prop} {md : Region.Mode} {S : World → Prop} {a : Act} {W : World} {cores : List Core}

/-- is the guard met, as soon as 'pre' have come up? -/
def Wants (ops : Array Oper) (a : Act) (cores : List Core) (pre : List Nat) (gd : Option (Nat × Bool)) (b : Bool) : Prop :=
  ∀ (vs : List Value) (w : World), Fit a cores vs → (∀ j ∈ pre, ∀ d : Core, cores[j]? = some d → ∃ v, vs[j]? = some v ∧ d.kind.p v w) →
    ∀ o : Oper, o.guard = gd → Region.wanted o (yielded ops (over a (cores.map (·.d)) vs).tmps) = b
theorem wants_none {pre : List Nat} : Wants ops a cores pre none true := fun _ _ _ _ o h => by unfold Region.wanted; rw [h]
theorem wants_core {pre : List Nat} (g t j : Nat) (cc : Core) (c b : Bool) (hc : cores[j]? = some cc) (hcd : cc.d = t) (hd : (ops[g]?).bind (·.dst) = some t) (hk : Known a cores pre (.tmp t) (.bool c)) (r : Bool) (hr : r = (c == b)) : Wants ops a cores pre (some (g, b)) r := fun vs w hl hp o h => by
  subst hr
  have e : (over a (cores.map (·.d)) vs).tmps.getD t undef = .bool c := hk vs w hl hp
  have e2 : (over a (cores.map (·.d)) vs).tmps[t]? = some (.bool c) := by
    have hs' : t < (over a (cores.map (·.d)) vs).tmps.size := by rw [over_size, ← hcd]; exact hl.sz _ (List.mem_map_of_mem (List.mem_of_getElem? hc))
    rw [Array.getD_eq_getD_getElem?, Array.getElem?_eq_getElem hs'] at e
    rw [Array.getElem?_eq_getElem hs']
    exact congrArg some e
  unfold Region.wanted yielded
  rw [h]
  simp only [hd, Option.bind_some, e2]
  cases c <;> cases b <;> rfl
theorem wants_undef {pre : List Nat} (g t j : Nat) (cc : Core) (b : Bool) (hc : cores[j]? = some cc) (hcd : cc.d = t) (hd : (ops[g]?).bind (·.dst) = some t) (hk : Known a cores pre (.tmp t) undef) : Wants ops a cores pre (some (g, b)) false := fun vs w hl hp o h => by
  have e : (over a (cores.map (·.d)) vs).tmps.getD t undef = undef := hk vs w hl hp
  have e2 : (over a (cores.map (·.d)) vs).tmps[t]? = some undef := by
    have hs' : t < (over a (cores.map (·.d)) vs).tmps.size := by rw [over_size, ← hcd]; exact hl.sz _ (List.mem_map_of_mem (List.mem_of_getElem? hc))
    rw [Array.getD_eq_getD_getElem?, Array.getElem?_eq_getElem hs'] at e
    rw [Array.getElem?_eq_getElem hs']
    exact congrArg some e
  unfold Region.wanted yielded
  rw [h]
  simp only [hd, Option.bind_some, e2]
  cases b <;> rfl

theorem want_if {o : Oper} {t : Array Value} {p q : Prop} (hw : Region.wanted o (yielded ops t) = true) (h : p) : if Region.wanted o (yielded ops t) = true then p else q := by
  rw [if_pos hw]; exact h

theorem coreG_callB (c : Core) (f : FuncId) (fn : Func) (code : Code) (xs : List Operand) (us : List Value) (tys : Array TypeId) (ty : TypeId) (pos : String) (after : Array Edge) (gd : Option (Nat × Bool)) (u : Value)
    (ho : ops[c.i]? = some ⟨some c.d, .call ⟨.value (.func f), xs.toArray, tys⟩, ty, pos, after, gd⟩) (hf : P.funcs[f]? = some fn) (hn : (fn.name == "runtime.NumGoroutine") = false) (hb : fn.body = some code)
    (hk : c.kind = Kind.val u) (hg : Wants ops a cores c.pre gd true) (hx : Args a cores c.pre xs us)
    (C : ∀ w, Below W.heap.size W w → Calls P f us.toArray w fun e w' => e = .returned u ∧ Below w.heap.size w w') : StepOK P ops Q a W cores c := by
  intro vs w hl hbw hp o ho' K hK
  rw [ho] at ho'
  obtain rfl := Option.some.inj ho'
  refine want_if (hg vs w hl hp _ rfl) ?_
  have hargs : xs.toArray.map (over a (cores.map (·.d)) vs).eval = us.toArray := by
    rw [List.map_toArray]
    congr 1
    clear ho C ho'
    induction hx with
    | nil => rfl
    | cons h _ ih => rw [List.map_cons, h vs w hl hp, ih]
  have hrun : ∀ w, (execOp (over a (cores.map (·.d)) vs).eval ⟨some c.d, .call ⟨.value (.func f), xs.toArray, tys⟩, ty, pos, after, gd⟩).run P w = .ok (.enter f us.toArray) w := fun w => by
    have h := run_enter hf hn hb us.toArray w
    simp only [execOp, resolve, hargs]
    simpa [Act.eval, Deferred.ofValue, invoke, go_sem] using h
  unfold Oper.wp
  rw [hrun w, Oper.upon_enter]
  refine (C w hbw).mono fun e w' ⟨he, hb⟩ => ?_
  subst he
  exact hK.out u w' hb (by rw [hk]; exact rfl) (fun h => by rw [hk] at h; cases h)

theorem coreG_pure (c : Core) (op : Op) (ty : TypeId) (pos : String) (after : Array Edge) (gd : Option (Nat × Bool)) (u : Value)
    (ho : ops[c.i]? = some ⟨some c.d, op, ty, pos, after, gd⟩) (hk : c.kind = Kind.val u) (hg : Wants ops a cores c.pre gd true)
    (h : ∀ (vs : List Value) (w : World), Fit a cores vs → (∀ j ∈ c.pre, ∀ d : Core, cores[j]? = some d → ∃ v, vs[j]? = some v ∧ d.kind.p v w) →
      ∀ w, S w → (execOp (over a (cores.map (·.d)) vs).eval ⟨some c.d, op, ty, pos, after, gd⟩).run P w = .ok (.value u) w) : PureOK P ops S a W cores c := by
  intro _
  refine ⟨by rw [hk]; rfl, fun vs w hl _ hp o ho' => ?_⟩
  rw [ho] at ho'
  obtain rfl := Option.some.inj ho'
  exact ⟨u, by rw [hk]; exact rfl, Or.inl ⟨hg vs w hl hp _ rfl, fun w' hS => h vs w hl hp w' hS⟩⟩
theorem coreG_skip (c : Core) (op : Op) (ty : TypeId) (pos : String) (after : Array Edge) (gd : Option (Nat × Bool))
    (ho : ops[c.i]? = some ⟨some c.d, op, ty, pos, after, gd⟩) (hk : c.kind = Kind.val undef) (hg : Wants ops a cores c.pre gd false) : PureOK P ops S a W cores c := by
  intro _
  refine ⟨by rw [hk]; rfl, fun vs w hl _ hp o ho' => ?_⟩
  rw [ho] at ho'
  obtain rfl := Option.some.inj ho'
  exact ⟨undef, by rw [hk]; exact rfl, Or.inr ⟨hg vs w hl hp _ rfl, rfl⟩⟩
theorem coreG_move (c : Core) (x : Operand) (ty : TypeId) (pos : String) (after : Array Edge) (gd : Option (Nat × Bool)) (u : Value)
    (ho : ops[c.i]? = some ⟨some c.d, .move x, ty, pos, after, gd⟩) (hk : c.kind = Kind.val u) (hg : Wants ops a cores c.pre gd true) (hx : Known a cores c.pre x u) : PureOK P ops S a W cores c :=
  coreG_pure c _ ty pos after gd u ho hk hg fun vs w hl hp w' _ => by
    have := hx vs w hl hp
    simp only [execOp, this]; rfl
theorem coreG_extract (c : Core) (x : Operand) (j : Nat) (ty : TypeId) (pos : String) (after : Array Edge) (gd : Option (Nat × Bool)) (us : Array Value) (u : Value)
    (ho : ops[c.i]? = some ⟨some c.d, .extract x j, ty, pos, after, gd⟩) (hk : c.kind = Kind.val u) (hg : Wants ops a cores c.pre gd true) (hx : Known a cores c.pre x (.tuple us)) (hu : us[j]? = some u) : PureOK P ops S a W cores c :=
  coreG_pure c _ ty pos after gd u ho hk hg fun vs w hl hp w' _ => by
    have := hx vs w hl hp
    generalize (over a (cores.map (·.d)) vs).eval = ρ at this
    simp [execOp, this, go_sem, hu]
theorem coreG_pick (c : Core) (x y z : Operand) (ty : TypeId) (pos : String) (after : Array Edge) (gd : Option (Nat × Bool)) (b : Bool) (u v r : Value)
    (ho : ops[c.i]? = some ⟨some c.d, .pick x y z, ty, pos, after, gd⟩) (hk : c.kind = Kind.val r) (hg : Wants ops a cores c.pre gd true) (hx : Known a cores c.pre x (.bool b)) (hy : Known a cores c.pre y u) (hz : Known a cores c.pre z v)
    (hr : r = if b then u else v) : PureOK P ops S a W cores c :=
  coreG_pure c _ ty pos after gd r ho hk hg fun vs w hl hp w' _ => by
    have e1 := hx vs w hl hp
    have e2 := hy vs w hl hp
    have e3 := hz vs w hl hp
    generalize (over a (cores.map (·.d)) vs).eval = ρ at e1 e2 e3
    subst hr
    cases b <;> simp [execOp, e1, e2, e3, go_sem]
theorem coreG_bin (c : Core) (b : BinOp) (T T2 : TypeId) (x y : Operand) (ty : TypeId) (pos : String) (after : Array Edge) (gd : Option (Nat × Bool)) (u v r : Value)
    (ho : ops[c.i]? = some ⟨some c.d, .binOp b T x y T2, ty, pos, after, gd⟩) (hk : c.kind = Kind.val r) (hg : Wants ops a cores c.pre gd true) (hx : Known a cores c.pre x u) (hy : Known a cores c.pre y v)
    (hr : ∀ (ρ : Operand → Value) (w : World), ρ x = u → ρ y = v → (execOp ρ ⟨some c.d, .binOp b T x y T2, ty, pos, after, gd⟩).run P w = .ok (.value r) w) : PureOK P ops S a W cores c :=
  coreG_pure c _ ty pos after gd r ho hk hg fun vs w hl hp w' _ => hr _ w' (hx vs w hl hp) (hy vs w hl hp)
theorem coreG_un (c : Core) (b : UnOp) (T : TypeId) (x : Operand) (ty : TypeId) (pos : String) (after : Array Edge) (gd : Option (Nat × Bool)) (u r : Value)
    (ho : ops[c.i]? = some ⟨some c.d, .unOp b T x, ty, pos, after, gd⟩) (hk : c.kind = Kind.val r) (hg : Wants ops a cores c.pre gd true) (hx : Known a cores c.pre x u)
    (hr : ∀ (ρ : Operand → Value) (w : World), ρ x = u → (execOp ρ ⟨some c.d, .unOp b T x, ty, pos, after, gd⟩).run P w = .ok (.value r) w) : PureOK P ops S a W cores c :=
  coreG_pure c _ ty pos after gd r ho hk hg fun vs w hl hp w' _ => hr _ w' (hx vs w hl hp)
theorem coreG_conv (c : Core) (s d : TypeId) (x : Operand) (ty : TypeId) (pos : String) (after : Array Edge) (gd : Option (Nat × Bool)) (u r : Value)
    (ho : ops[c.i]? = some ⟨some c.d, .convert s d x, ty, pos, after, gd⟩) (hk : c.kind = Kind.val r) (hg : Wants ops a cores c.pre gd true) (hx : Known a cores c.pre x u)
    (hr : ∀ (ρ : Operand → Value) (w : World), ρ x = u → (execOp ρ ⟨some c.d, .convert s d x, ty, pos, after, gd⟩).run P w = .ok (.value r) w) : PureOK P ops S a W cores c :=
  coreG_pure c _ ty pos after gd r ho hk hg fun vs w hl hp w' _ => hr _ w' (hx vs w hl hp)
/-- an operation that reads memory of which S tells -/
theorem coreG_held (c : Core) (op : Op) (ty : TypeId) (pos : String) (after : Array Edge) (gd : Option (Nat × Bool)) (u : Value) (x : Operand) (xv : Value)
    (ho : ops[c.i]? = some ⟨some c.d, op, ty, pos, after, gd⟩) (hk : c.kind = Kind.val u) (hg : Wants ops a cores c.pre gd true) (hx : Known a cores c.pre x xv)
    (h : ∀ (ρ : Operand → Value) (w : World), ρ x = xv → S w → (execOp ρ ⟨some c.d, op, ty, pos, after, gd⟩).run P w = .ok (.value u) w) : PureOK P ops S a W cores c :=
  coreG_pure c op ty pos after gd u ho hk hg fun vs w hl hp w' hS => h _ w' (hx vs w hl hp) hS
theorem coreG_held2 (c : Core) (op : Op) (ty : TypeId) (pos : String) (after : Array Edge) (gd : Option (Nat × Bool)) (u : Value) (x y : Operand) (xv yv : Value)
    (ho : ops[c.i]? = some ⟨some c.d, op, ty, pos, after, gd⟩) (hk : c.kind = Kind.val u) (hg : Wants ops a cores c.pre gd true) (hx : Known a cores c.pre x xv) (hy : Known a cores c.pre y yv)
    (h : ∀ (ρ : Operand → Value) (w : World), ρ x = xv → ρ y = yv → S w → (execOp ρ ⟨some c.d, op, ty, pos, after, gd⟩).run P w = .ok (.value u) w) : PureOK P ops S a W cores c :=
  coreG_pure c op ty pos after gd u ho hk hg fun vs w hl hp w' hS => h _ w' (hx vs w hl hp) (hy vs w hl hp) hS
end
/-- two equal hashes compared -/
theorem eqlH_run (l : List Nat) (hl : l.length = 32) (x y : Operand) (dst : Option Tmp) (ty : TypeId) (pos : String) (after : Array Edge) (gd : Option (Nat × Bool)) (ρ : Operand → Value) (w : World) (hx : ρ x = .agg (bs l).toArray) (hy : ρ y = .agg (bs l).toArray) :
    (execOp ρ ⟨dst, .binOp .eql 28 x y 28, ty, pos, after, gd⟩).run Tryd.prog w = .ok (.value (.bool true)) w := by
  simp only [execOp, hx, hy]
  simp [go_sem, eqH l hl]
theorem loadH_run (l : List Nat) (hl : l.length = 32) (g : Nat) (x : Operand) (dst : Option Tmp) (ty' : TypeId) (pos : String) (after : Array Edge) (gd : Option (Nat × Bool)) (ρ : Operand → Value) (w : World) (hx : ρ x = .pointer (some ⟨g, 0, none⟩)) (hg : At w g 28 (bs l).toArray) :
    (execOp ρ ⟨dst, .load 28 x, ty', pos, after, gd⟩).run Tryd.prog w = .ok (.value (.agg (bs l).toArray)) w :=
  load_run x g 0 (bs l) _ hx hg.all Tryd.underlying28 rfl (by rw [show (Tryd.prog.info? 28).map (·.size) = some 32 by kernel_rfl, bs_len, hl])
end Go.Proofs.YtkmjfaaelkmnkaaDoor
