/-
  The operations of a region that draws its order, one rule each: calls, copies, parts of tuples, loads, new blocks; and what stands behind them: stores and assignments.
-/
import Derived.Test.YtfjploahkodekaaMShift
namespace Go.Proofs.Ytfjploahkodekaa
set_option maxRecDepth 100000
open Go.RowKit
set_option linter.unusedSimpArgs false
set_option linter.unusedVariables false

theorem over_out : ∀ (ds : List Nat) (vs : List Value) (a : Act) (t : Nat), t ∉ ds → (over a ds vs).tmps.getD t undef = a.tmps.getD t undef
  | [], _, _, _, _ => by simp [over]
  | _ :: _, [], _, _, _ => by simp [over]
  | d :: ds, v :: vs, a, t, h => by
    rw [over, over_out ds vs _ t (fun h' => h (List.mem_cons_of_mem _ h'))]
    have : d ≠ t := fun e => h (by rw [e]; simp)
    simp only [Act.put, Array.getD_eq_getD_getElem?]
    rw [Array.getElem?_setIfInBounds_ne this]
theorem over_size : ∀ (ds : List Nat) (vs : List Value) (a : Act), (over a ds vs).tmps.size = a.tmps.size
  | [], _, _ => by simp [over]
  | _ :: _, [], _ => by simp [over]
  | d :: ds, v :: vs, a => by rw [over, over_size ds vs]; simp [Act.put]
theorem over_at : ∀ (ds : List Nat) (vs : List Value) (a : Act) (k d : Nat) (v : Value), ds.Nodup → ds[k]? = some d → vs[k]? = some v → d < a.tmps.size → (over a ds vs).tmps.getD d undef = v
  | [], _, _, _, _, _, _, h, _, _ => by simp at h
  | _ :: _, [], _, _, _, _, _, _, h, _ => by simp at h
  | e :: ds, u :: vs, a, 0, d, v, hn, h, hv, hd => by
    simp only [List.getElem?_cons_zero, Option.some.injEq] at h hv
    subst h hv
    rw [over, over_out ds vs _ e (List.nodup_cons.1 hn).1]
    simp [Act.put, Array.getD, hd]
  | e :: ds, u :: vs, a, k + 1, d, v, hn, h, hv, hd => by
    rw [over]
    exact over_at ds vs _ k d v (List.nodup_cons.1 hn).2 (by simpa using h) (by simpa using hv) (by simpa [Act.put] using hd)

theorem all_nil {F : Core → Prop} : ∀ c ∈ ([] : List Core), F c := fun _ h => by cases h
theorem all_cons {F : Core → Prop} {c : Core} {cs : List Core} (h : F c) (hs : ∀ c ∈ cs, F c) : ∀ c' ∈ c :: cs, F c' := fun c' h' => by
  rcases List.mem_cons.1 h' with rfl | h'
  · exact h
  · exact hs _ h'
/-- c's operation is o -/
def Has (ops : Array Oper) (c : Core) : Prop := ∃ o, ops[c.i]? = some o ∧ o.dst = some c.d

section
variable {P : Program} {ops : Array Oper} {Q : Exit → Act → World → Prop} {md : Region.Mode} {S : World → Prop} {a : Act} {W : World} {cores : List Core}

/-- what an operand holds, as soon as 'pre' have come up -/
def Known (a : Act) (cores : List Core) (pre : List Nat) (x : Operand) (u : Value) : Prop :=
  ∀ (vs : List Value) (w : World), Fit a cores vs → (∀ j ∈ pre, ∀ d : Core, cores[j]? = some d → ∃ v, vs[j]? = some v ∧ d.kind.p v w) → (over a (cores.map (·.d)) vs).eval x = u
theorem known_const {pre : List Nat} (v : Value) : Known a cores pre (.const v) v := fun _ _ _ _ => rfl
theorem known_core {pre : List Nat} (j t : Nat) (c : Core) (u : Value) (hj : j ∈ pre) (hc : cores[j]? = some c) (hk : c.kind = Kind.val u) (hd : c.d = t) :
    Known a cores pre (.tmp t) u := fun vs w hl hp => by
  obtain ⟨v, hv, hp⟩ := hp j hj c hc
  rw [hk] at hp
  have hp : v = u := hp
  subst hp
  subst hd
  exact over_at _ _ _ j _ _ hl.nd (by rw [List.getElem?_map, hc]; rfl) hv (hl.sz _ (List.mem_map_of_mem (List.mem_of_getElem? hc)))
theorem known_old {pre : List Nat} (t : Nat) (u : Value) (ht : t ∉ cores.map (·.d)) (hu : a.tmps.getD t undef = u) : Known a cores pre (.tmp t) u := fun vs w _ _ => by
  show (over a _ vs).tmps.getD t undef = u
  rw [over_out _ _ _ _ ht, hu]

inductive Args (a : Act) (cores : List Core) (pre : List Nat) : List Operand → List Value → Prop
  | nil : Args a cores pre [] []
  | cons {x : Operand} {u : Value} {xs : List Operand} {us : List Value} : Known a cores pre x u → Args a cores pre xs us → Args a cores pre (x :: xs) (u :: us)

theorem run_enter {f : FuncId} {fn : Func} {c : Code} (hf : P.funcs[f]? = some fn) (hname : (fn.name == "runtime.NumGoroutine") = false) (hb : fn.body = some c) (args : Array Value) (w : World) :
    (callFunc f args).run P w = .ok (.enter f args) w := by
  have h1 : fn.name ≠ "runtime.NumGoroutine" := by simpa using hname
  simp [callFunc, hf, h1, hb]

theorem core_call (c : Core) (f : FuncId) (fn : Func) (code : Code) (xs : List Operand) (us : List Value) (tys : Array TypeId) (ty : TypeId) (pos : String) (after : Array Edge) (u : Value)
    (ho : ops[c.i]? = some ⟨some c.d, .call ⟨.value (.func f), xs.toArray, tys⟩, ty, pos, after, none⟩) (hf : P.funcs[f]? = some fn) (hn : (fn.name == "runtime.NumGoroutine") = false) (hb : fn.body = some code)
    (hk : c.kind = Kind.val u) (hx : Args a cores c.pre xs us)
    (C : ∀ w, Calls P f us.toArray w fun e w' => e = .returned u ∧ Below w.heap.size w w') : StepOK P ops Q a W cores c := by
  intro vs w hl _ hp o ho' K hK
  rw [ho] at ho'
  obtain rfl := Option.some.inj ho'
  refine want_none rfl ?_
  have hargs : xs.toArray.map (over a (cores.map (·.d)) vs).eval = us.toArray := by
    rw [List.map_toArray]
    congr 1
    clear ho C ho'
    induction hx with
    | nil => rfl
    | cons h _ ih => rw [List.map_cons, h vs w hl hp, ih]
  have hrun : ∀ w, (execOp (over a (cores.map (·.d)) vs).eval ⟨some c.d, .call ⟨.value (.func f), xs.toArray, tys⟩, ty, pos, after, none⟩).run P w = .ok (.enter f us.toArray) w := fun w => by
    have h := run_enter hf hn hb us.toArray w
    simp only [execOp, resolve, hargs]
    simpa [Act.eval, Deferred.ofValue, invoke, go_sem] using h
  unfold Oper.wp
  rw [hrun w, Oper.upon_enter]
  refine (C w).mono fun e w' ⟨he, hb⟩ => ?_
  subst he
  exact hK.out u w' hb (by rw [hk]; exact rfl) (fun h => by rw [hk] at h; cases h)

theorem core_pure (c : Core) (op : Op) (ty : TypeId) (pos : String) (after : Array Edge) (u : Value)
    (ho : ops[c.i]? = some ⟨some c.d, op, ty, pos, after, none⟩) (hk : c.kind = Kind.val u)
    (h : ∀ (vs : List Value) (w : World), Fit a cores vs → (∀ j ∈ c.pre, ∀ d : Core, cores[j]? = some d → ∃ v, vs[j]? = some v ∧ d.kind.p v w) →
      ∀ w, (execOp (over a (cores.map (·.d)) vs).eval ⟨some c.d, op, ty, pos, after, none⟩).run P w = .ok (.value u) w) : PureOK P ops S a W cores c := by
  intro _
  refine ⟨by rw [hk]; rfl, fun vs w hl _ hp o ho' => ?_⟩
  rw [ho] at ho'
  obtain rfl := Option.some.inj ho'
  exact ⟨u, by rw [hk]; exact rfl, Or.inl ⟨rfl, fun w' _ => h vs w hl hp w'⟩⟩
theorem core_move (c : Core) (x : Operand) (ty : TypeId) (pos : String) (after : Array Edge) (u : Value)
    (ho : ops[c.i]? = some ⟨some c.d, .move x, ty, pos, after, none⟩) (hk : c.kind = Kind.val u) (hx : Known a cores c.pre x u) : PureOK P ops S a W cores c :=
  core_pure c _ ty pos after u ho hk fun vs w hl hp w' => by
    have := hx vs w hl hp
    simp only [execOp, this]; rfl
theorem core_extract (c : Core) (x : Operand) (j : Nat) (ty : TypeId) (pos : String) (after : Array Edge) (us : Array Value) (u : Value)
    (ho : ops[c.i]? = some ⟨some c.d, .extract x j, ty, pos, after, none⟩) (hk : c.kind = Kind.val u) (hx : Known a cores c.pre x (.tuple us)) (hu : us[j]? = some u) : PureOK P ops S a W cores c :=
  core_pure c _ ty pos after u ho hk fun vs w hl hp w' => by
    have := hx vs w hl hp
    generalize (over a (cores.map (·.d)) vs).eval = ρ at this
    simp [execOp, this, go_sem, hu]
theorem core_pureAs (c : Core) (h : c.pure = false) : PureOK P ops S a W cores c := fun h' => by rw [h] at h'; cases h'
theorem core_load (c : Core) (x : Operand) (ty : TypeId) (pos : String) (after : Array Edge) (g : Nat) (u0 u1 u2 u3 : Value)
    (ho : ops[c.i]? = some ⟨some c.d, .load 24 x, ty, pos, after, none⟩) (hk : c.kind = Kind.val (.agg #[u0, u1, u2, u3])) (hx : Known a cores c.pre x (.pointer (some ⟨g, 0, none⟩)))
    (hg : At W g 24 #[u0, u1, u2, u3]) : StepOK Try.prog ops Q a W cores c := by
  intro vs w hl hb hp o ho' K hK
  rw [ho] at ho'
  obtain rfl := Option.some.inj ho'
  refine want_none rfl (wp_of_run_value (load_run x _ ty pos after none _ w g u0 u1 u2 u3 (hx vs w hl hp) (hg.on hb)) ?_)
  exact hK.out _ w (Below.refl _ _) (by rw [hk]; exact rfl) (fun h => by rw [hk] at h; cases h)
theorem core_loadP (c : Core) (x : Operand) (ty : TypeId) (pos : String) (after : Array Edge) (g : Nat) (u0 u1 u2 u3 : Value)
    (ho : ops[c.i]? = some ⟨some c.d, .load 24 x, ty, pos, after, none⟩) (hk : c.kind = Kind.val (.agg #[u0, u1, u2, u3])) (hx : Known a cores c.pre x (.pointer (some ⟨g, 0, none⟩)))
    (hg : ∀ w, S w → At w g 24 #[u0, u1, u2, u3]) : PureOK Try.prog ops S a W cores c := by
  intro _
  refine ⟨by rw [hk]; rfl, fun vs w hl _ hp o ho' => ?_⟩
  rw [ho] at ho'
  obtain rfl := Option.some.inj ho'
  exact ⟨_, by rw [hk]; exact rfl, Or.inl ⟨rfl, fun w' hS => load_run x _ ty pos after none _ w' g u0 u1 u2 u3 (hx vs w hl hp) (hg w' hS)⟩⟩
theorem core_alloc (c : Core) (n : Nat) (ty : TypeId) (pos : String) (after : Array Edge)
    (ho : ops[c.i]? = some ⟨some c.d, .alloc 24, ty, pos, after, none⟩) (hk : c.kind = Kind.cell n 24 #[.int .u64 0, .int .u64 0, .int .u64 0, .int .u64 0]) (hn : n ≤ W.heap.size) : StepOK Try.prog ops Q a W cores c := by
  intro vs w hl hb hp o ho' K hK
  rw [ho] at ho'
  obtain rfl := Option.some.inj ho'
  refine want_none rfl (wp_of_run_value (alloc_run _ ty pos after none _ w) ?_)
  exact hK.out _ _ (gr_alloc (Below.refl _ _) _) (by rw [hk]; exact ⟨_, rfl, Nat.le_trans hn hb.size, At.new _ _ _⟩) (fun _ => ⟨rfl, by simp⟩)
theorem core_stepAs (c : Core) (h : c.pure = true) : c.pure = false → StepOK P ops Q a W cores c := fun h' => by rw [h] at h'; cases h'

/-- a store behind all -/
theorem store_one {fuel i : Nat} {listed : Array Bool} {b : Act} {w : World} (x y : Operand) (ty : TypeId) (pos : String) (after : Array Edge) (g : Nat) (u0 u1 u2 u3 : Value) (k0 k1 k2 k3 : Int)
    (hr : Region.ready md ops listed = [i]) (ho : ops[i]? = some ⟨none, .store 24 x y, ty, pos, after, none⟩) (hx : b.eval x = .pointer (some ⟨g, 0, none⟩))
    (hy : b.eval y = .agg #[.int .u64 k0, .int .u64 k1, .int .u64 k2, .int .u64 k3]) (hg : At w g 24 #[u0, u1, u2, u3]) (hS : S (put4 w g (.int .u64 k0) (.int .u64 k1) (.int .u64 k2) (.int .u64 k3)))
    (h : wpAnyH Try.prog md ops Q S fuel (listed.setIfInBounds i true) b (put4 w g (.int .u64 k0) (.int .u64 k1) (.int .u64 k2) (.int .u64 k3))) : wpAnyH Try.prog md ops Q S (fuel + 1) listed b w :=
  wpAnyH_one hr ho fun K hK => want_none rfl (wp_of_run_skip (store_run x y _ ty pos after none _ w g u0 u1 u2 u3 k0 k1 k2 k3 hx hy hg) (hK.out _ _ hS h))
/-- an assignment behind all -/
theorem assign_one {fuel i : Nat} {listed : Array Bool} {b : Act} {w : World} (x : Operand) (d : Nat) (ty : TypeId) (pos : String) (after : Array Edge) (v : Value)
    (hr : Region.ready md ops listed = [i]) (ho : ops[i]? = some ⟨some d, .assign x, ty, pos, after, none⟩) (hx : b.eval x = v) (hS : S w)
    (h : wpAnyH P md ops Q S fuel (listed.setIfInBounds i true) (b.put (some d) v) w) : wpAnyH P md ops Q S (fuel + 1) listed b w :=
  wpAnyH_one hr ho fun K hK => want_none rfl (wp_of_run_value (by simp only [execOp, hx]; rfl) (hK.out _ _ hS h))
end
end Go.Proofs.Ytfjploahkodekaa

/-
  The same rules for blocks of divides.held, four words as well; arithmetic among the operations.
-/
namespace Go.Proofs.Ytfjploahkodekaa
set_option maxRecDepth 100000
open Go.RowKit
set_option linter.unusedSimpArgs false
set_option linter.unusedVariables false

theorem store_runH (x y : Operand) (dst : Option Tmp) (ty : TypeId) (pos : String) (after : Array Edge) (guard : Option (Nat × Bool)) (ρ : Operand → Value) (w : World) (g : Nat) (u0 u1 u2 u3 : Value) (a b c d : Int)
    (hx : ρ x = .pointer (some ⟨g, 0, none⟩)) (hy : ρ y = .agg #[.int .u64 a, .int .u64 b, .int .u64 c, .int .u64 d]) (h : At w g 91 #[u0, u1, u2, u3]) :
    (execOp ρ ⟨dst, .store 91 x y, ty, pos, after, guard⟩).run Try.prog w = .ok .skip (put4 w g (.int .u64 a) (.int .u64 b) (.int .u64 c) (.int .u64 d)) := by
  have c0 : w.cell? ⟨g, 0, none⟩ = some u0 := h.cell 0
  have c1 : w.cell? ⟨g, 1, none⟩ = some u1 := h.cell 1
  have c2 : w.cell? ⟨g, 2, none⟩ = some u2 := h.cell 2
  have c3 : w.cell? ⟨g, 3, none⟩ = some u3 := h.cell 3
  have f0 : w.frozen? ⟨g, 0, none⟩ = false := h.frozen 0
  have f1 : w.frozen? ⟨g, 1, none⟩ = false := h.frozen 1
  have f2 : w.frozen? ⟨g, 2, none⟩ = false := h.frozen 2
  have f3 : w.frozen? ⟨g, 3, none⟩ = false := h.frozen 3
  unfold put4
  simp [execOp, hx, hy, go_sem, c0, c1, c2, c3, f0, f1, f2, f3]


theorem load_runH (x : Operand) (dst : Option Tmp) (ty : TypeId) (pos : String) (after : Array Edge) (guard : Option (Nat × Bool)) (ρ : Operand → Value) (w : World) (g : Nat) (u0 u1 u2 u3 : Value)
    (hx : ρ x = .pointer (some ⟨g, 0, none⟩)) (h : At w g 91 #[u0, u1, u2, u3]) :
    (execOp ρ ⟨dst, .load 91 x, ty, pos, after, guard⟩).run Try.prog w = .ok (.value (.agg #[u0, u1, u2, u3])) w := by
  have c0 : w.cell? ⟨g, 0, none⟩ = some u0 := h.cell 0
  have c1 : w.cell? ⟨g, 1, none⟩ = some u1 := h.cell 1
  have c2 : w.cell? ⟨g, 2, none⟩ = some u2 := h.cell 2
  have c3 : w.cell? ⟨g, 3, none⟩ = some u3 := h.cell 3
  simp [execOp, hx, go_sem, c0, c1, c2, c3]


theorem alloc_runH (dst : Option Tmp) (ty : TypeId) (pos : String) (after : Array Edge) (guard : Option (Nat × Bool)) (ρ : Operand → Value) (w : World) :
    (execOp ρ ⟨dst, .alloc 91, ty, pos, after, guard⟩).run Try.prog w = .ok (.value (.pointer (some ⟨w.heap.size, 0, none⟩))) (w.alloc (.cells #[.int .u64 0, .int .u64 0, .int .u64 0, .int .u64 0] 91)) := by
  simp [execOp, go_sem]


section
variable {P : Program} {ops : Array Oper} {Q : Exit → Act → World → Prop} {md : Region.Mode} {S : World → Prop} {a : Act} {W : World} {cores : List Core}
theorem core_loadH (c : Core) (x : Operand) (ty : TypeId) (pos : String) (after : Array Edge) (g : Nat) (u0 u1 u2 u3 : Value)
    (ho : ops[c.i]? = some ⟨some c.d, .load 91 x, ty, pos, after, none⟩) (hk : c.kind = Kind.val (.agg #[u0, u1, u2, u3])) (hx : Known a cores c.pre x (.pointer (some ⟨g, 0, none⟩)))
    (hg : At W g 91 #[u0, u1, u2, u3]) : StepOK Try.prog ops Q a W cores c := by
  intro vs w hl hb hp o ho' K hK
  rw [ho] at ho'
  obtain rfl := Option.some.inj ho'
  refine want_none rfl (wp_of_run_value (load_runH x _ ty pos after none _ w g u0 u1 u2 u3 (hx vs w hl hp) (hg.on hb)) ?_)
  exact hK.out _ w (Below.refl _ _) (by rw [hk]; exact rfl) (fun h => by rw [hk] at h; cases h)

theorem core_loadPH (c : Core) (x : Operand) (ty : TypeId) (pos : String) (after : Array Edge) (g : Nat) (u0 u1 u2 u3 : Value)
    (ho : ops[c.i]? = some ⟨some c.d, .load 91 x, ty, pos, after, none⟩) (hk : c.kind = Kind.val (.agg #[u0, u1, u2, u3])) (hx : Known a cores c.pre x (.pointer (some ⟨g, 0, none⟩)))
    (hg : ∀ w, S w → At w g 91 #[u0, u1, u2, u3]) : PureOK Try.prog ops S a W cores c := by
  intro _
  refine ⟨by rw [hk]; rfl, fun vs w hl _ hp o ho' => ?_⟩
  rw [ho] at ho'
  obtain rfl := Option.some.inj ho'
  exact ⟨_, by rw [hk]; exact rfl, Or.inl ⟨rfl, fun w' hS => load_runH x _ ty pos after none _ w' g u0 u1 u2 u3 (hx vs w hl hp) (hg w' hS)⟩⟩

theorem core_allocH (c : Core) (n : Nat) (ty : TypeId) (pos : String) (after : Array Edge)
    (ho : ops[c.i]? = some ⟨some c.d, .alloc 91, ty, pos, after, none⟩) (hk : c.kind = Kind.cell n 91 #[.int .u64 0, .int .u64 0, .int .u64 0, .int .u64 0]) (hn : n ≤ W.heap.size) : StepOK Try.prog ops Q a W cores c := by
  intro vs w hl hb hp o ho' K hK
  rw [ho] at ho'
  obtain rfl := Option.some.inj ho'
  refine want_none rfl (wp_of_run_value (alloc_runH _ ty pos after none _ w) ?_)
  exact hK.out _ _ (gr_alloc (Below.refl _ _) _) (by rw [hk]; exact ⟨_, rfl, Nat.le_trans hn hb.size, At.new _ _ _⟩) (fun _ => ⟨rfl, by simp⟩)

theorem store_oneH {fuel i : Nat} {listed : Array Bool} {b : Act} {w : World} (x y : Operand) (ty : TypeId) (pos : String) (after : Array Edge) (g : Nat) (u0 u1 u2 u3 : Value) (k0 k1 k2 k3 : Int)
    (hr : Region.ready md ops listed = [i]) (ho : ops[i]? = some ⟨none, .store 91 x y, ty, pos, after, none⟩) (hx : b.eval x = .pointer (some ⟨g, 0, none⟩))
    (hy : b.eval y = .agg #[.int .u64 k0, .int .u64 k1, .int .u64 k2, .int .u64 k3]) (hg : At w g 91 #[u0, u1, u2, u3]) (hS : S (put4 w g (.int .u64 k0) (.int .u64 k1) (.int .u64 k2) (.int .u64 k3)))
    (h : wpAnyH Try.prog md ops Q S fuel (listed.setIfInBounds i true) b (put4 w g (.int .u64 k0) (.int .u64 k1) (.int .u64 k2) (.int .u64 k3))) : wpAnyH Try.prog md ops Q S (fuel + 1) listed b w :=
  wpAnyH_one hr ho fun K hK => want_none rfl (wp_of_run_skip (store_runH x y _ ty pos after none _ w g u0 u1 u2 u3 k0 k1 k2 k3 hx hy hg) (hK.out _ _ hS h))

theorem core_bin (c : Core) (b : BinOp) (T T2 : TypeId) (x y : Operand) (ty : TypeId) (pos : String) (after : Array Edge) (u v r : Value)
    (ho : ops[c.i]? = some ⟨some c.d, .binOp b T x y T2, ty, pos, after, none⟩) (hk : c.kind = Kind.val r) (hx : Known a cores c.pre x u) (hy : Known a cores c.pre y v)
    (hr : ∀ (ρ : Operand → Value) (w : World), ρ x = u → ρ y = v → (execOp ρ ⟨some c.d, .binOp b T x y T2, ty, pos, after, none⟩).run P w = .ok (.value r) w) : PureOK P ops S a W cores c :=
  core_pure c _ ty pos after r ho hk fun vs w hl hp w' => hr _ w' (hx vs w hl hp) (hy vs w hl hp)
theorem core_un (c : Core) (b : UnOp) (T : TypeId) (x : Operand) (ty : TypeId) (pos : String) (after : Array Edge) (u r : Value)
    (ho : ops[c.i]? = some ⟨some c.d, .unOp b T x, ty, pos, after, none⟩) (hk : c.kind = Kind.val r) (hx : Known a cores c.pre x u)
    (hr : ∀ (ρ : Operand → Value) (w : World), ρ x = u → (execOp ρ ⟨some c.d, .unOp b T x, ty, pos, after, none⟩).run P w = .ok (.value r) w) : PureOK P ops S a W cores c :=
  core_pure c _ ty pos after r ho hk fun vs w hl hp w' => hr _ w' (hx vs w hl hp)
end
end Go.Proofs.Ytfjploahkodekaa
