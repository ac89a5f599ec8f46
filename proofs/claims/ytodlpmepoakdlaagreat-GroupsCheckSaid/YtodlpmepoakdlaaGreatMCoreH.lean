import Derived.Test.YtodlpmepoakdlaaGreatMMulW
namespace Go.Proofs.YtodlpmepoakdlaaGreat
set_option maxRecDepth 100000
open Go.RowKit
set_option linter.unusedSimpArgs false
set_option linter.unusedVariables false

theorem Jbo : ∀ (ds : List Nat) (vs : List Value) (a : Act) (t : Nat), t ∉ ds → (over a ds vs).tmps.getD t undef = a.tmps.getD t undef
 | [], _, _, _, _ => by simp [over]
 | _ :: _, [], _, _, _ => by simp [over]
 | d :: ds, v :: vs, a, t, h => by
  rw [over, Jbo ds vs _ t (fun h' => h (List.mem_cons_of_mem _ h'))]
  have : d ≠ t := fun e => h (by rw [e]; simp)
  simp only [Act.put, Array.getD_eq_getD_getElem?]
  rw [Array.getElem?_setIfInBounds_ne this]
theorem Ua : ∀ (ds : List Nat) (vs : List Value) (a : Act), (over a ds vs).tmps.size = a.tmps.size
 | [], _, _ => by simp [over]
 | _ :: _, [], _ => by simp [over]
 | d :: ds, v :: vs, a => by rw [over, Ua ds vs]; simp [Act.put]
theorem Jct : ∀ (ds : List Nat) (vs : List Value) (a : Act) (k d : Nat) (v : Value), ds.Nodup → ds[k]? = some d → vs[k]? = some v → d < a.tmps.size → (over a ds vs).tmps.getD d undef = v
 | [], _, _, _, _, _, _, h, _, _ => by simp at h
 | _ :: _, [], _, _, _, _, _, _, h, _ => by simp at h
 | e :: ds, u :: vs, a, 0, d, v, hn, h, hv, hd => by
  simp only [List.getElem?_cons_zero, Option.some.injEq] at h hv
  subst h hv
  rw [over, Jbo ds vs _ e (List.nodup_cons.1 hn).1]
  simp [Act.put, Array.getD, hd]
 | e :: ds, u :: vs, a, k + 1, d, v, hn, h, hv, hd => by
  rw [over]
  exact Jct ds vs _ k d v (List.nodup_cons.1 hn).2 (by simpa using h) (by simpa using hv) (by simpa [Act.put] using hd)

theorem Je {F : Core → Prop} : ∀ c ∈ ([] : List Core), F c := fun _ h => by cases h
theorem all_cons {F : Core → Prop} {c : Core} {cs : List Core} (h : F c) (hs : ∀ c ∈ cs, F c) : ∀ c' ∈ c :: cs, F c' := fun c' h' => by
 rcases List.mem_cons.1 h' with rfl | h'
 ·exact h
 ·exact hs _ h'
def Has (ops : Array Oper) (c : Core) : Prop := ∃ o, ops[c.i]? = some o ∧ o.dst = some c.d

section
variable {P : Program} {ops : Array Oper} {Q : Exit → Act → World → Prop} {md : Region.Mode} {S : World → Prop} {a : Act} {W : World} {cores : List Core}

def Ve (a : Act) (cores : List Core) (pre : List Nat) (x : Operand) (u : Value) : Prop :=
 ∀ (vs : List Value) (w : World), Fit a cores vs → (∀ j ∈ pre, ∀ d : Core, cores[j]? = some d → ∃ v, vs[j]? = some v ∧ d.kind.p v w) → (over a (cores.map (·.d)) vs).eval x = u
theorem Jd {pre : List Nat} (v : Value) : Ve a cores pre (.const v) v := fun _ _ _ _ => rfl
theorem known_core {pre : List Nat} (j t : Nat) (c : Core) (u : Value) (hj : j ∈ pre) (hc : cores[j]? = some c) (hk : c.kind = Kind.val u) (hd : c.d = t) :
  Ve a cores pre (.tmp t) u := fun vs w hl hp => by
 obtain ⟨v, hv, hp⟩ := hp j hj c hc
 rw [hk] at hp
 have hp : v = u := hp
 subst hp
 subst hd
 exact Jct _ _ _ j _ _ hl.nd (by rw [List.getElem?_map, hc]; rfl) hv (hl.sz _ (List.mem_map_of_mem (List.mem_of_getElem? hc)))
theorem kc {pre : List Nat} (j t : Nat) {c : Core} {u : Value} (hj : j ∈ pre := by exact of_decide_eq_true (by rfl)) (hc : cores[j]? = some c := by rfl) (hk : c.kind = Kind.val u := by rfl) (hd : c.d = t := by rfl) : Ve a cores pre (.tmp t) u := known_core j t c u hj hc hk hd
theorem Jav {pre : List Nat} (t : Nat) (u : Value) (ht : t ∉ cores.map (·.d)) (hu : a.tmps.getD t undef = u) : Ve a cores pre (.tmp t) u := fun vs w _ _ => by
 show (over a _ vs).tmps.getD t undef = u
 rw [Jbo _ _ _ _ ht, hu]

theorem ko {pre : List Nat} (t : Nat) {u : Value} (ht : t ∉ cores.map (·.d) := by exact of_decide_eq_true (by rfl)) (hu : a.tmps.getD t undef = u := by rfl) : Ve a cores pre (.tmp t) u := Jav t u ht hu
inductive Args (a : Act) (cores : List Core) (pre : List Nat) : List Operand → List Value → Prop
 | nil : Args a cores pre [] []
 | cons {x : Operand} {u : Value} {xs : List Operand} {us : List Value} : Ve a cores pre x u → Args a cores pre xs us → Args a cores pre (x :: xs) (u :: us)

theorem Vx {f : FuncId} {fn : Func} {c : Code} (hf : P.funcs[f]? = some fn) (hname : (fn.name == "runtime.NumGoroutine") = false) (hb : fn.body = some c) (args : Array Value) (w : World) :
  (callFunc f args).run P w = .ok (.enter f args) w := by
 have h1 : fn.name ≠ "runtime.NumGoroutine" := by simpa using hname
 simp [callFunc, hf, h1, hb]

theorem Kr (c : Core) (f : FuncId) (fn : Func) (code : Code) (xs : List Operand) (us : List Value) (tys : Array TypeId) (ty : TypeId) (pos : String) (after : Array Edge) (u : Value)
  (ho : ops[c.i]? = some ⟨some c.d, .call ⟨.value (.func f), xs.toArray, tys⟩, ty, pos, after, none⟩) (hf : P.funcs[f]? = some fn) (hn : (fn.name == "runtime.NumGoroutine") = false) (hb : fn.body = some code)
  (hk : c.kind = Kind.val u) (hx : Args a cores c.pre xs us)
  (C : ∀ w, Calls P f us.toArray w fun e w' => e = .returned u ∧ Below w.heap.size w w') : Vm P ops Q a W cores c := by
 intro vs w hl _ hp o ho' K hK
 rw [ho] at ho'
 obtain rfl := Option.some.inj ho'
 refine Ui rfl ?_
 have hargs : xs.toArray.map (over a (cores.map (·.d)) vs).eval = us.toArray := by
  rw [List.map_toArray]
  congr 1
  clear ho C ho'
  induction hx with
  | nil => rfl
  | cons h _ ih => rw [List.map_cons, h vs w hl hp, ih]
 have hrun : ∀ w, (execOp (over a (cores.map (·.d)) vs).eval ⟨some c.d, .call ⟨.value (.func f), xs.toArray, tys⟩, ty, pos, after, none⟩).run P w = .ok (.enter f us.toArray) w := fun w => by
  have h := Vx hf hn hb us.toArray w
  simp only [execOp, resolve, hargs]
  simpa [Act.eval, Deferred.ofValue, invoke, go_sem] using h
 unfold Oper.wp
 rw [hrun w, Oper.upon_enter]
 refine (C w).mono fun e w' ⟨he, hb⟩ => ?_
 subst he
 exact hK.out u w' hb (by rw [hk]; exact rfl) (fun h => by rw [hk] at h; cases h)

theorem Ws (c : Core) (op : Op) (ty : TypeId) (pos : String) (after : Array Edge) (u : Value)
  (ho : ops[c.i]? = some ⟨some c.d, op, ty, pos, after, none⟩) (hk : c.kind = Kind.val u)
  (h : ∀ (vs : List Value) (w : World), Fit a cores vs → (∀ j ∈ c.pre, ∀ d : Core, cores[j]? = some d → ∃ v, vs[j]? = some v ∧ d.kind.p v w) →
   ∀ w, (execOp (over a (cores.map (·.d)) vs).eval ⟨some c.d, op, ty, pos, after, none⟩).run P w = .ok (.value u) w) : Va P ops S a W cores c := by
 intro _
 refine ⟨by rw [hk]; rfl, fun vs w hl _ hp o ho' => ?_⟩
 rw [ho] at ho'
 obtain rfl := Option.some.inj ho'
 exact ⟨u, by rw [hk]; exact rfl, Or.inl ⟨rfl, fun w' _ => h vs w hl hp w'⟩⟩
theorem Vj (c : Core) (x : Operand) (ty : TypeId) (pos : String) (after : Array Edge) (u : Value)
  (ho : ops[c.i]? = some ⟨some c.d, .move x, ty, pos, after, none⟩) (hk : c.kind = Kind.val u) (hx : Ve a cores c.pre x u) : Va P ops S a W cores c :=
 Ws c _ ty pos after u ho hk fun vs w hl hp w' => by
  have := hx vs w hl hp
  simp only [execOp, this]; rfl
theorem Ub (c : Core) (x : Operand) (j : Nat) (ty : TypeId) (pos : String) (after : Array Edge) (us : Array Value) (u : Value)
  (ho : ops[c.i]? = some ⟨some c.d, .extract x j, ty, pos, after, none⟩) (hk : c.kind = Kind.val u) (hx : Ve a cores c.pre x (.tuple us)) (hu : us[j]? = some u) : Va P ops S a W cores c :=
 Ws c _ ty pos after u ho hk fun vs w hl hp w' => by
  have := hx vs w hl hp
  generalize (over a (cores.map (·.d)) vs).eval = ρ at this
  simp [execOp, this, go_sem, hu]
theorem Ji (c : Core) (h : c.pure = false) : Va P ops S a W cores c := fun h' => by rw [h] at h'; cases h'
theorem Ku (c : Core) (x : Operand) (ty : TypeId) (pos : String) (after : Array Edge) (g : Nat) (u0 u1 u2 u3 : Value)
  (ho : ops[c.i]? = some ⟨some c.d, .load 24 x, ty, pos, after, none⟩) (hk : c.kind = Kind.val (.agg #[u0, u1, u2, u3])) (hx : Ve a cores c.pre x (.pointer (some ⟨g, 0, none⟩)))
  (hg : At W g 24 #[u0, u1, u2, u3]) : Vm Tryz.prog ops Q a W cores c := by
 intro vs w hl hb hp o ho' K hK
 rw [ho] at ho'
 obtain rfl := Option.some.inj ho'
 refine Ui rfl (Ud (Jbs x _ ty pos after none _ w g u0 u1 u2 u3 (hx vs w hl hp) (hg.on hb)) ?_)
 exact hK.out _ w (Below.refl _ _) (by rw [hk]; exact rfl) (fun h => by rw [hk] at h; cases h)
theorem Jbc (c : Core) (x : Operand) (ty : TypeId) (pos : String) (after : Array Edge) (g : Nat) (u0 u1 u2 u3 : Value)
  (ho : ops[c.i]? = some ⟨some c.d, .load 24 x, ty, pos, after, none⟩) (hk : c.kind = Kind.val (.agg #[u0, u1, u2, u3])) (hx : Ve a cores c.pre x (.pointer (some ⟨g, 0, none⟩)))
  (hg : ∀ w, S w → At w g 24 #[u0, u1, u2, u3]) : Va Tryz.prog ops S a W cores c := by
 intro _
 refine ⟨by rw [hk]; rfl, fun vs w hl _ hp o ho' => ?_⟩
 rw [ho] at ho'
 obtain rfl := Option.some.inj ho'
 exact ⟨_, by rw [hk]; exact rfl, Or.inl ⟨rfl, fun w' hS => Jbs x _ ty pos after none _ w' g u0 u1 u2 u3 (hx vs w hl hp) (hg w' hS)⟩⟩
theorem Vo (c : Core) (n : Nat) (ty : TypeId) (pos : String) (after : Array Edge)
  (ho : ops[c.i]? = some ⟨some c.d, .alloc 24, ty, pos, after, none⟩) (hk : c.kind = Kind.cell n 24 #[.int .u64 0, .int .u64 0, .int .u64 0, .int .u64 0]) (hn : n ≤ W.heap.size) : Vm Tryz.prog ops Q a W cores c := by
 intro vs w hl hb hp o ho' K hK
 rw [ho] at ho'
 obtain rfl := Option.some.inj ho'
 refine Ui rfl (Ud (alloc_run _ ty pos after none _ w) ?_)
 exact hK.out _ _ (gr_alloc (Below.refl _ _) _) (by rw [hk]; exact ⟨_, rfl, Nat.le_trans hn hb.size, At.new _ _ _⟩) (fun _ => ⟨rfl, by simp⟩)
theorem core_stepAs (c : Core) (h : c.pure = true) : c.pure = false → Vm P ops Q a W cores c := fun h' => by rw [h] at h'; cases h'

theorem sA {c : Core} (h : c.pure = true := by rfl) : c.pure = false → Vm P ops Q a W cores c := core_stepAs c h
theorem Kt {fuel i : Nat} {listed : Array Bool} {b : Act} {w : World} (x y : Operand) (ty : TypeId) (pos : String) (after : Array Edge) (g : Nat) (u0 u1 u2 u3 : Value) (k0 k1 k2 k3 : Int)
  (hr : Region.ready md ops listed = [i]) (ho : ops[i]? = some ⟨none, .store 24 x y, ty, pos, after, none⟩) (hx : b.eval x = .pointer (some ⟨g, 0, none⟩))
  (hy : b.eval y = .agg #[.int .u64 k0, .int .u64 k1, .int .u64 k2, .int .u64 k3]) (hg : At w g 24 #[u0, u1, u2, u3]) (hS : S (put4 w g (.int .u64 k0) (.int .u64 k1) (.int .u64 k2) (.int .u64 k3)))
  (h : wpAnyH Tryz.prog md ops Q S fuel (listed.setIfInBounds i true) b (put4 w g (.int .u64 k0) (.int .u64 k1) (.int .u64 k2) (.int .u64 k3))) : wpAnyH Tryz.prog md ops Q S (fuel + 1) listed b w :=
 Xp hr ho fun K hK => Ui rfl (Wl (store_run x y _ ty pos after none _ w g u0 u1 u2 u3 k0 k1 k2 k3 hx hy hg) (hK.out _ _ hS h))
theorem Ko {fuel i : Nat} {listed : Array Bool} {b : Act} {w : World} (x : Operand) (d : Nat) (ty : TypeId) (pos : String) (after : Array Edge) (v : Value)
  (hr : Region.ready md ops listed = [i]) (ho : ops[i]? = some ⟨some d, .assign x, ty, pos, after, none⟩) (hx : b.eval x = v) (hS : S w)
  (h : wpAnyH P md ops Q S fuel (listed.setIfInBounds i true) (b.put (some d) v) w) : wpAnyH P md ops Q S (fuel + 1) listed b w :=
 Xp hr ho fun K hK => Ui rfl (Ud (by simp only [execOp, hx]; rfl) (hK.out _ _ hS h))
end
theorem store_runH (x y : Operand) (dst : Option Tmp) (ty : TypeId) (pos : String) (after : Array Edge) (guard : Option (Nat × Bool)) (ρ : Operand → Value) (w : World) (g : Nat) (u0 u1 u2 u3 : Value) (a b c d : Int)
  (hx : ρ x = .pointer (some ⟨g, 0, none⟩)) (hy : ρ y = .agg #[.int .u64 a, .int .u64 b, .int .u64 c, .int .u64 d]) (h : At w g 97 #[u0, u1, u2, u3]) :
  (execOp ρ ⟨dst, .store 97 x y, ty, pos, after, guard⟩).run Tryz.prog w = .ok .skip (put4 w g (.int .u64 a) (.int .u64 b) (.int .u64 c) (.int .u64 d)) := by
 have c0 : w.cell? ⟨g, 0, none⟩ = some u0 := h.cell 0
 have c1 : w.cell? ⟨g, 1, none⟩ = some u1 := h.cell 1
 have c2 : w.cell? ⟨g, 2, none⟩ = some u2 := h.cell 2
 have c3 : w.cell? ⟨g, 3, none⟩ = some u3 := h.cell 3
 have f0 : w.frozen? ⟨g, 0, none⟩ = false := h.frozen 0
 have f1 : w.frozen? ⟨g, 1, none⟩ = false := h.frozen 1
 have f2 : w.frozen? ⟨g, 2, none⟩ = false := h.frozen 2
 have f3 : w.frozen? ⟨g, 3, none⟩ = false := h.frozen 3
 unfold put4
 simp [execOp, hx, hy, go_sem, c0, c1, c2, c3, f0, f1, f2, f3]


theorem load_runH (x : Operand) (dst : Option Tmp) (ty : TypeId) (pos : String) (after : Array Edge) (guard : Option (Nat × Bool)) (ρ : Operand → Value) (w : World) (g : Nat) (u0 u1 u2 u3 : Value)
  (hx : ρ x = .pointer (some ⟨g, 0, none⟩)) (h : At w g 97 #[u0, u1, u2, u3]) :
  (execOp ρ ⟨dst, .load 97 x, ty, pos, after, guard⟩).run Tryz.prog w = .ok (.value (.agg #[u0, u1, u2, u3])) w := by
 have c0 : w.cell? ⟨g, 0, none⟩ = some u0 := h.cell 0
 have c1 : w.cell? ⟨g, 1, none⟩ = some u1 := h.cell 1
 have c2 : w.cell? ⟨g, 2, none⟩ = some u2 := h.cell 2
 have c3 : w.cell? ⟨g, 3, none⟩ = some u3 := h.cell 3
 simp [execOp, hx, go_sem, c0, c1, c2, c3]


theorem alloc_runH (dst : Option Tmp) (ty : TypeId) (pos : String) (after : Array Edge) (guard : Option (Nat × Bool)) (ρ : Operand → Value) (w : World) :
  (execOp ρ ⟨dst, .alloc 97, ty, pos, after, guard⟩).run Tryz.prog w = .ok (.value (.pointer (some ⟨w.heap.size, 0, none⟩))) (w.alloc (.cells #[.int .u64 0, .int .u64 0, .int .u64 0, .int .u64 0] 97)) := by
 simp [execOp, go_sem]


section
variable {P : Program} {ops : Array Oper} {Q : Exit → Act → World → Prop} {md : Region.Mode} {S : World → Prop} {a : Act} {W : World} {cores : List Core}
theorem Jbd (c : Core) (x : Operand) (ty : TypeId) (pos : String) (after : Array Edge) (g : Nat) (u0 u1 u2 u3 : Value)
  (ho : ops[c.i]? = some ⟨some c.d, .load 97 x, ty, pos, after, none⟩) (hk : c.kind = Kind.val (.agg #[u0, u1, u2, u3])) (hx : Ve a cores c.pre x (.pointer (some ⟨g, 0, none⟩)))
  (hg : At W g 97 #[u0, u1, u2, u3]) : Vm Tryz.prog ops Q a W cores c := by
 intro vs w hl hb hp o ho' K hK
 rw [ho] at ho'
 obtain rfl := Option.some.inj ho'
 refine Ui rfl (Ud (load_runH x _ ty pos after none _ w g u0 u1 u2 u3 (hx vs w hl hp) (hg.on hb)) ?_)
 exact hK.out _ w (Below.refl _ _) (by rw [hk]; exact rfl) (fun h => by rw [hk] at h; cases h)

theorem core_allocH (c : Core) (n : Nat) (ty : TypeId) (pos : String) (after : Array Edge)
  (ho : ops[c.i]? = some ⟨some c.d, .alloc 97, ty, pos, after, none⟩) (hk : c.kind = Kind.cell n 97 #[.int .u64 0, .int .u64 0, .int .u64 0, .int .u64 0]) (hn : n ≤ W.heap.size) : Vm Tryz.prog ops Q a W cores c := by
 intro vs w hl hb hp o ho' K hK
 rw [ho] at ho'
 obtain rfl := Option.some.inj ho'
 refine Ui rfl (Ud (alloc_runH _ ty pos after none _ w) ?_)
 exact hK.out _ _ (gr_alloc (Below.refl _ _) _) (by rw [hk]; exact ⟨_, rfl, Nat.le_trans hn hb.size, At.new _ _ _⟩) (fun _ => ⟨rfl, by simp⟩)

theorem Jaz {fuel i : Nat} {listed : Array Bool} {b : Act} {w : World} (x y : Operand) (ty : TypeId) (pos : String) (after : Array Edge) (g : Nat) (u0 u1 u2 u3 : Value) (k0 k1 k2 k3 : Int)
  (hr : Region.ready md ops listed = [i]) (ho : ops[i]? = some ⟨none, .store 97 x y, ty, pos, after, none⟩) (hx : b.eval x = .pointer (some ⟨g, 0, none⟩))
  (hy : b.eval y = .agg #[.int .u64 k0, .int .u64 k1, .int .u64 k2, .int .u64 k3]) (hg : At w g 97 #[u0, u1, u2, u3]) (hS : S (put4 w g (.int .u64 k0) (.int .u64 k1) (.int .u64 k2) (.int .u64 k3)))
  (h : wpAnyH Tryz.prog md ops Q S fuel (listed.setIfInBounds i true) b (put4 w g (.int .u64 k0) (.int .u64 k1) (.int .u64 k2) (.int .u64 k3))) : wpAnyH Tryz.prog md ops Q S (fuel + 1) listed b w :=
 Xp hr ho fun K hK => Ui rfl (Wl (store_runH x y _ ty pos after none _ w g u0 u1 u2 u3 k0 k1 k2 k3 hx hy hg) (hK.out _ _ hS h))

theorem core_bin (c : Core) (b : BinOp) (T T2 : TypeId) (x y : Operand) (ty : TypeId) (pos : String) (after : Array Edge) (u v r : Value)
  (ho : ops[c.i]? = some ⟨some c.d, .binOp b T x y T2, ty, pos, after, none⟩) (hk : c.kind = Kind.val r) (hx : Ve a cores c.pre x u) (hy : Ve a cores c.pre y v)
  (hr : ∀ (ρ : Operand → Value) (w : World), ρ x = u → ρ y = v → (execOp ρ ⟨some c.d, .binOp b T x y T2, ty, pos, after, none⟩).run P w = .ok (.value r) w) : Va P ops S a W cores c :=
 Ws c _ ty pos after r ho hk fun vs w hl hp w' => hr _ w' (hx vs w hl hp) (hy vs w hl hp)
theorem core_un (c : Core) (b : UnOp) (T : TypeId) (x : Operand) (ty : TypeId) (pos : String) (after : Array Edge) (u r : Value)
  (ho : ops[c.i]? = some ⟨some c.d, .unOp b T x, ty, pos, after, none⟩) (hk : c.kind = Kind.val r) (hx : Ve a cores c.pre x u)
  (hr : ∀ (ρ : Operand → Value) (w : World), ρ x = u → (execOp ρ ⟨some c.d, .unOp b T x, ty, pos, after, none⟩).run P w = .ok (.value r) w) : Va P ops S a W cores c :=
 Ws c _ ty pos after r ho hk fun vs w hl hp w' => hr _ w' (hx vs w hl hp)
end
end Go.Proofs.YtodlpmepoakdlaaGreat
