/-
 The operations of a region that draws its order,one rule each.
-/
import Derived.Test.YtlphnfajhpkleaaDoorMByLaw
namespace Go.Proofs.YtlphnfajhpkleaaDoor.By
set_option maxRecDepth 100000
open Go.RowKit
set_option linter.unusedSimpArgs false
set_option linter.unusedVariables false

section
variable {P:Program} {o:Oper} {a:Act} {K:Act→World→Prop} {Q:Exit→Act→World→Prop} {w w':World}
theorem wp_of_run_value {v:Value} (h:(execOp a.eval o).run P w=.ok (.value v) w') (hK:K (a.put o.dst v) w'):Oper.wp P o a w K Q:=by
 unfold Oper.wp;rw [h];exact hK
theorem wp_of_run_skip (h:(execOp a.eval o).run P w=.ok .skip w') (hK:K (a.put o.dst undef) w'):Oper.wp P o a w K Q:=by
 unfold Oper.wp;rw [h];exact hK
theorem want_none {ops:Array Oper} {t:Array Value} {p q:Prop} (ho:o.guard=none) (h:p):if Region.wanted o (yielded ops t)=true then p else q:=by
 rw [if_pos];exact h
 unfold Region.wanted;rw [ho]
end
theorem over_out:∀ (ds:List Nat) (vs:List Value) (a:Act) (t:Nat),t ∉ ds→(over a ds vs).tmps.getD t undef=a.tmps.getD t undef
 | [],_,_,_,_=>by simp [over]
 | _::_,[],_,_,_=>by simp [over]
 | d::ds,v::vs,a,t,h=>by
  rw [over,over_out ds vs _ t (fun h'=>h (List.mem_cons_of_mem _ h'))]
  have:d≠t:=fun e=>h (by rw [e];simp)
  simp only [Act.put,Array.getD_eq_getD_getElem?]
  rw [Array.getElem?_setIfInBounds_ne this]
theorem over_size:∀ (ds:List Nat) (vs:List Value) (a:Act),(over a ds vs).tmps.size=a.tmps.size
 | [],_,_=>by simp [over]
 | _::_,[],_=>by simp [over]
 | d::ds,v::vs,a=>by rw [over,over_size ds vs];simp [Act.put]
theorem over_at:∀ (ds:List Nat) (vs:List Value) (a:Act) (k d:Nat) (v:Value),ds.Nodup→ds[k]? = some d→vs[k]? = some v→d<a.tmps.size→(over a ds vs).tmps.getD d undef=v
 | [],_,_,_,_,_,_,h,_,_=>by simp at h
 | _::_,[],_,_,_,_,_,_,h,_=>by simp at h
 | e::ds,u::vs,a,0,d,v,hn,h,hv,hd=>by
  simp only [List.getElem?_cons_zero,Option.some.injEq] at h hv
  subst h hv
  rw [over,over_out ds vs _ e (List.nodup_cons.1 hn).1]
  simp [Act.put,Array.getD,hd]
 | e::ds,u::vs,a,k+1,d,v,hn,h,hv,hd=>by
  rw [over]
  exact over_at ds vs _ k d v (List.nodup_cons.1 hn).2 (by simpa using h) (by simpa using hv) (by simpa [Act.put] using hd)

theorem all_nil {F:Core→Prop}:∀ c∈([]:List Core),F c:=fun _ h=>by cases h
theorem all_cons {F:Core→Prop} {c:Core} {cs:List Core} (h:F c) (hs:∀ c∈cs,F c):∀ c'∈c::cs,F c':=fun c' h'=>by
 rcases List.mem_cons.1 h' with rfl | h'
 ·exact h
 ·exact hs _ h'
/-- c's operation is o -/
def Has (ops:Array Oper) (c:Core):Prop:=∃ o,ops[c.i]? = some o∧o.dst=some c.d

section
variable {P:Program} {ops:Array Oper} {Q:Exit→Act→World→Prop} {md:Region.Mode} {S:World→Prop} {a:Act} {W:World} {cores:List Core}

/-- what an operand holds,as soon as 'pre' have come up -/
def Known (a:Act) (cores:List Core) (pre:List Nat) (x:Operand) (u:Value):Prop:=
 ∀ (vs:List Value) (w:World),Fit a cores vs→(∀ j∈pre,∀ d:Core,cores[j]? = some d→∃ v,vs[j]? = some v∧d.kind.p v w)→(over a (cores.map (·.d)) vs).eval x=u
theorem known_const {pre:List Nat} (v:Value):Known a cores pre (.const v) v:=fun _ _ _ _=>rfl
theorem known_core {pre:List Nat} (j t:Nat) (c:Core) (u:Value) (hj:j∈pre) (hc:cores[j]? = some c) (hk:c.kind=Kind.val u) (hd:c.d=t) :
  Known a cores pre (.tmp t) u:=fun vs w hl hp=>by
 obtain ⟨v,hv,hp⟩:=hp j hj c hc
 rw [hk] at hp
 have hp:v=u:=hp
 subst hp
 subst hd
 exact over_at _ _ _ j _ _ hl.nd (by rw [List.getElem?_map,hc];rfl) hv (hl.sz _ (List.mem_map_of_mem (List.mem_of_getElem? hc)))
theorem kc {pre:List Nat} (j t:Nat) {c:Core} {u:Value} (hj:j∈pre:=by exact of_decide_eq_true (by rfl)) (hc:cores[j]? = some c:=by rfl) (hk:c.kind=Kind.val u:=by rfl) (hd:c.d=t:=by rfl):Known a cores pre (.tmp t) u:=known_core j t c u hj hc hk hd
theorem known_old {pre:List Nat} (t:Nat) (u:Value) (ht:t ∉ cores.map (·.d)) (hu:a.tmps.getD t undef=u):Known a cores pre (.tmp t) u:=fun vs w _ _=>by
 show (over a _ vs).tmps.getD t undef=u
 rw [over_out _ _ _ _ ht,hu]

theorem ko {pre:List Nat} (t:Nat) {u:Value} (ht:t ∉ cores.map (·.d):=by exact of_decide_eq_true (by rfl)) (hu:a.tmps.getD t undef=u:=by rfl):Known a cores pre (.tmp t) u:=known_old t u ht hu
inductive Args (a:Act) (cores:List Core) (pre:List Nat):List Operand→List Value→Prop
 | nil:Args a cores pre [] []
 | cons {x:Operand} {u:Value} {xs:List Operand} {us:List Value}:Known a cores pre x u→Args a cores pre xs us→Args a cores pre (x::xs) (u::us)

theorem run_enter {f:FuncId} {fn:Func} {c:Code} (hf:P.funcs[f]? = some fn) (hname:(fn.name == "runtime.NumGoroutine")=false) (hb:fn.body=some c) (args:Array Value) (w:World) :
  (callFunc f args).run P w=.ok (.enter f args) w:=by
 have h1:fn.name ≠ "runtime.NumGoroutine":=by simpa using hname
 simp [callFunc,hf,h1,hb]

theorem core_call (c:Core) (f:FuncId) (fn:Func) (code:Code) (xs:List Operand) (us:List Value) (tys:Array TypeId) (ty:TypeId) (pos:String) (after:Array Edge) (u:Value)
  (ho:ops[c.i]? = some ⟨some c.d,.call ⟨.value (.func f),xs.toArray,tys⟩,ty,pos,after,none⟩) (hf:P.funcs[f]? = some fn) (hn:(fn.name == "runtime.NumGoroutine")=false) (hb:fn.body=some code)
  (hk:c.kind=Kind.val u) (hx:Args a cores c.pre xs us)
  (C:∀ w,Calls P f us.toArray w fun e w'=>e=.returned u∧Below w.heap.size w w'):StepOK P ops Q a W cores c:=by
 intro vs w hl _ hp o ho' K hK
 rw [ho] at ho'
 obtain rfl:=Option.some.inj ho'
 refine want_none rfl ?_
 have hargs:xs.toArray.map (over a (cores.map (·.d)) vs).eval=us.toArray:=by
  rw [List.map_toArray]
  congr 1
  clear ho C ho'
  induction hx with
  | nil=>rfl
  | cons h _ ih=>rw [List.map_cons,h vs w hl hp,ih]
 have hrun:∀ w,(execOp (over a (cores.map (·.d)) vs).eval ⟨some c.d,.call ⟨.value (.func f),xs.toArray,tys⟩,ty,pos,after,none⟩).run P w=.ok (.enter f us.toArray) w:=fun w=>by
  have h:=run_enter hf hn hb us.toArray w
  simp only [execOp,resolve,hargs]
  simpa [Act.eval,Deferred.ofValue,invoke,go_sem] using h
 unfold Oper.wp
 rw [hrun w,Oper.upon_enter]
 refine (C w).mono fun e w' ⟨he,hb⟩=>?_
 subst he
 exact hK.out u w' hb (by rw [hk];exact rfl) (fun h=>by rw [hk] at h;cases h)

theorem core_pure (c:Core) (op:Op) (ty:TypeId) (pos:String) (after:Array Edge) (u:Value)
  (ho:ops[c.i]? = some ⟨some c.d,op,ty,pos,after,none⟩) (hk:c.kind=Kind.val u)
  (h : ∀ (vs : List Value) (w : World), Fit a cores vs → (∀ j ∈ c.pre, ∀ d : Core, cores[j]? = some d → ∃ v, vs[j]? = some v ∧ d.kind.p v w) →
   ∀ w,(execOp (over a (cores.map (·.d)) vs).eval ⟨some c.d,op,ty,pos,after,none⟩).run P w=.ok (.value u) w):PureOK P ops S a W cores c:=by
 intro _
 refine ⟨by rw [hk];rfl,fun vs w hl _ hp o ho'=>?_⟩
 rw [ho] at ho'
 obtain rfl:=Option.some.inj ho'
 exact ⟨u,by rw [hk];exact rfl,Or.inl ⟨rfl,fun w' _=>h vs w hl hp w'⟩⟩
theorem core_move (c:Core) (x:Operand) (ty:TypeId) (pos:String) (after:Array Edge) (u:Value)
  (ho:ops[c.i]? = some ⟨some c.d,.move x,ty,pos,after,none⟩) (hk:c.kind=Kind.val u) (hx:Known a cores c.pre x u):PureOK P ops S a W cores c:=
 core_pure c _ ty pos after u ho hk fun vs w hl hp w'=>by
  have:=hx vs w hl hp
  simp only [execOp,this];rfl
theorem core_extract (c:Core) (x:Operand) (j:Nat) (ty:TypeId) (pos:String) (after:Array Edge) (us:Array Value) (u:Value)
  (ho:ops[c.i]? = some ⟨some c.d,.extract x j,ty,pos,after,none⟩) (hk:c.kind=Kind.val u) (hx:Known a cores c.pre x (.tuple us)) (hu:us[j]? = some u):PureOK P ops S a W cores c:=
 core_pure c _ ty pos after u ho hk fun vs w hl hp w'=>by
  have:=hx vs w hl hp
  generalize (over a (cores.map (·.d)) vs).eval=ρ at this
  simp [execOp,this,go_sem,hu]
theorem core_pureAs (c:Core) (h:c.pure=false):PureOK P ops S a W cores c:=fun h'=>by rw [h] at h';cases h'
theorem core_stepAs (c:Core) (h:c.pure=true):c.pure=false→StepOK P ops Q a W cores c:=fun h'=>by rw [h] at h';cases h'

theorem sA {c:Core} (h:c.pure=true:=by rfl):c.pure=false→StepOK P ops Q a W cores c:=core_stepAs c h
/-- an assignment behind all -/
theorem assign_one {fuel i:Nat} {listed:Array Bool} {b:Act} {w:World} (x:Operand) (d:Nat) (ty:TypeId) (pos:String) (after:Array Edge) (v:Value)
  (hr:Region.ready md ops listed=[i]) (ho:ops[i]? = some ⟨some d,.assign x,ty,pos,after,none⟩) (hx:b.eval x=v) (hS:S w)
  (h:wpAnyH P md ops Q S fuel (listed.setIfInBounds i true) (b.put (some d) v) w):wpAnyH P md ops Q S (fuel+1) listed b w:=
 wpAnyH_one hr ho fun K hK=>want_none rfl (wp_of_run_value (by simp only [execOp,hx];rfl) (hK.out _ _ hS h))
/-- an operation that reads memory of which S tells -/
theorem core_heldC (c:Core) (op:Op) (ty:TypeId) (pos:String) (after:Array Edge) (u:Value) (x:Operand) (xv:Value)
  (ho:ops[c.i]? = some ⟨some c.d,op,ty,pos,after,none⟩) (hk:c.kind=Kind.val u) (hx:Known a cores c.pre x xv)
  (h:∀ (ρ:Operand→Value) (w:World),ρ x=xv→S w→(execOp ρ ⟨some c.d,op,ty,pos,after,none⟩).run P w=.ok (.value u) w):PureOK P ops S a W cores c:=by
 intro _
 refine ⟨by rw [hk];rfl,fun vs w hl _ hp o ho'=>?_⟩
 rw [ho] at ho'
 obtain rfl:=Option.some.inj ho'
 exact ⟨u,by rw [hk];exact rfl,Or.inl ⟨rfl,fun w' hS=>h _ w' (hx vs w hl hp) hS⟩⟩
/-- an operation of two operands that reads memory of which S tells -/
theorem core_held2C (c:Core) (op:Op) (ty:TypeId) (pos:String) (after:Array Edge) (u:Value) (x y:Operand) (xv yv:Value)
  (ho:ops[c.i]? = some ⟨some c.d,op,ty,pos,after,none⟩) (hk:c.kind=Kind.val u) (hx:Known a cores c.pre x xv) (hy:Known a cores c.pre y yv)
  (h:∀ (ρ:Operand→Value) (w:World),ρ x=xv→ρ y=yv→S w→(execOp ρ ⟨some c.d,op,ty,pos,after,none⟩).run P w=.ok (.value u) w):PureOK P ops S a W cores c:=by
 intro _
 refine ⟨by rw [hk];rfl,fun vs w hl _ hp o ho'=>?_⟩
 rw [ho] at ho'
 obtain rfl:=Option.some.inj ho'
 exact ⟨u,by rw [hk];exact rfl,Or.inl ⟨rfl,fun w' hS=>h _ w' (hx vs w hl hp) (hy vs w hl hp) hS⟩⟩
/-- an operation that reads memory that others may write in the end -/
theorem core_step (c:Core) (op:Op) (ty:TypeId) (pos:String) (after:Array Edge) (u:Value) (x:Operand) (xv:Value)
  (ho:ops[c.i]? = some ⟨some c.d,op,ty,pos,after,none⟩) (hk:c.kind=Kind.val u) (hx:Known a cores c.pre x xv)
  (h:∀ (ρ:Operand→Value) (w:World),ρ x=xv→Below W.heap.size W w→(execOp ρ ⟨some c.d,op,ty,pos,after,none⟩).run P w=.ok (.value u) w):StepOK P ops Q a W cores c:=by
 intro vs w hl hb hp o ho' K hK
 rw [ho] at ho'
 obtain rfl:=Option.some.inj ho'
 refine want_none rfl (wp_of_run_value (h _ w (hx vs w hl hp) hb) ?_)
 exact hK.out _ w (Below.refl _ _) (by rw [hk];exact rfl) (fun h=>by rw [hk] at h;cases h)

/-- a new row of cells,as a slice -/
def Kind.slice (base:Nat) (t:TypeId) (cs:Array Value) (n:Nat):Kind:=
 ⟨false,fun v w=>∃ g,v=.slice (some ⟨g,0,none⟩) n n∧base≤g∧At w g t cs,fun _ _ _ ⟨g,h1,h2,h3⟩ hb=>⟨g,h1,h2,h3.on hb⟩⟩
/-- a row is made of what is given -/
theorem core_build (c:Core) (base n:Nat) (t ty et:TypeId) (ps:Array (Nat × Operand)) (cs:Array Value) (pos:String) (after:Array Edge)
  (ho:ops[c.i]? = some ⟨some c.d,.buildSlice t n ps,ty,pos,after,none⟩) (hk:c.kind=Kind.slice base et cs n) (hn:base≤W.heap.size)
  (h:∀ (ρ:Operand→Value) (w:World),(∀ v,ρ (.const v)=v)→(execOp ρ ⟨some c.d,.buildSlice t n ps,ty,pos,after,none⟩).run P w=.ok (.value (.slice (some ⟨w.heap.size,0,none⟩) n n)) (w.alloc (.cells cs et))):StepOK P ops Q a W cores c:=by
 intro vs w hl hb hp o ho' K hK
 rw [ho] at ho'
 obtain rfl:=Option.some.inj ho'
 refine want_none rfl (wp_of_run_value (h _ w (fun _=>rfl)) ?_)
 exact hK.out _ _ (gr_alloc (Below.refl _ _) _) (by rw [hk];exact ⟨_,rfl,Nat.le_trans hn hb.size,At.new _ _ _⟩) (fun h=>by rw [hk] at h;cases h)
/-- a call with such a row -/
theorem core_callS (c:Core) (f:FuncId) (fn:Func) (code:Code) (x:Operand) (t:Nat) (u r:Value) (tys:Array TypeId) (ty et:TypeId) (pos:String) (after:Array Edge) (j base n:Nat) (cj:Core) (cs:Array Value)
  (ho:ops[c.i]? = some ⟨some c.d,.call ⟨.value (.func f),#[x,.tmp t],tys⟩,ty,pos,after,none⟩) (hf:P.funcs[f]? = some fn) (hn:(fn.name == "runtime.NumGoroutine")=false) (hb:fn.body=some code)
  (hk:c.kind=Kind.val r) (hx:Known a cores c.pre x u) (hj:j∈c.pre) (hcj:cores[j]? = some cj) (hkj:cj.kind=Kind.slice base et cs n) (hd:cj.d=t)
  (C:∀ w g,At w g et cs→Calls P f #[u,.slice (some ⟨g,0,none⟩) n n] w fun e w'=>e=.returned r∧w=w'):StepOK P ops Q a W cores c:=by
 intro vs w hl hbw hp o ho' K hK
 rw [ho] at ho'
 obtain rfl:=Option.some.inj ho'
 refine want_none rfl ?_
 obtain ⟨v,hv,hpv⟩:=hp j hj cj hcj
 rw [hkj] at hpv
 obtain ⟨g,rfl,_,hat⟩:=hpv
 have h1:=hx vs w hl hp
 have h2:(over a (cores.map (·.d)) vs).eval (.tmp t)=.slice (some ⟨g,0,none⟩) n n:=by
  subst hd
  exact over_at _ _ _ j _ _ hl.nd (by rw [List.getElem?_map,hcj];rfl) hv (hl.sz _ (List.mem_map_of_mem (List.mem_of_getElem? hcj)))
 have hargs:#[x,.tmp t].map (over a (cores.map (·.d)) vs).eval=#[u,.slice (some ⟨g,0,none⟩) n n]:=by simp [h1,h2]
 have hrun:∀ w,(execOp (over a (cores.map (·.d)) vs).eval ⟨some c.d,.call ⟨.value (.func f),#[x,.tmp t],tys⟩,ty,pos,after,none⟩).run P w=.ok (.enter f #[u,.slice (some ⟨g,0,none⟩) n n]) w:=fun w=>by
  have h:=run_enter hf hn hb #[u,.slice (some ⟨g,0,none⟩) n n] w
  simp only [execOp,resolve,hargs]
  simpa [Act.eval,Deferred.ofValue,invoke,go_sem] using h
 unfold Oper.wp
 rw [hrun w,Oper.upon_enter]
 refine (C w g hat).mono fun e w' ⟨he,hw⟩=>?_
 subst he hw
 exact hK.out r w (Below.refl _ _) (by rw [hk];exact rfl) (fun h=>by rw [hk] at h;cases h)
/-- a store of one cell behind all -/
theorem store_cell {fuel i:Nat} {listed:Array Bool} {b:Act} {w:World} (x y:Operand) (et ty:TypeId) (pos:String) (after:Array Edge) (g k:Nat) (v:Value)
  (hr:Region.ready md ops listed=[i]) (ho:ops[i]? = some ⟨none,.store et x y,ty,pos,after,none⟩) (hx:b.eval x=.pointer (some ⟨g,k,none⟩)) (hy:b.eval y=v)
  (hrun:∀ (ρ:Operand→Value),ρ x=.pointer (some ⟨g,k,none⟩)→ρ y=v→(execOp ρ ⟨none,.store et x y,ty,pos,after,none⟩).run P w=.ok .skip (w.setCell ⟨g,k,none⟩ v)) (hS:S (w.setCell ⟨g,k,none⟩ v))
  (h:wpAnyH P md ops Q S fuel (listed.setIfInBounds i true) b (w.setCell ⟨g,k,none⟩ v)):wpAnyH P md ops Q S (fuel+1) listed b w:=
 wpAnyH_one hr ho fun K hK=>want_none rfl (wp_of_run_skip (hrun _ hx hy) (hK.out _ _ hS h))
/-- a store of a whole array behind all -/
theorem store_row {fuel i:Nat} {listed:Array Bool} {b:Act} {w:World} (x y:Operand) (et ty:TypeId) (pos:String) (after:Array Edge) (g o:Nat) (t:TypeId) (cs:Array Value) (xs:List Value)
  (hr:Region.ready md ops listed=[i]) (ho:ops[i]? = some ⟨none,.store et x y,ty,pos,after,none⟩) (hx:b.eval x=.pointer (some ⟨g,o,none⟩)) (hy:b.eval y=.agg xs.toArray)
  (hat:At w g t cs) (hn:o+xs.length≤cs.size) (hi:(P.info? et).map (·.size)=some xs.length) (h1:∀ u∈xs,u.oneCell'=true) (hS:S (w.setCells g o xs))
  (h:wpAnyH P md ops Q S fuel (listed.setIfInBounds i true) b (w.setCells g o xs)):wpAnyH P md ops Q S (fuel+1) listed b w:=
 wpAnyH_one hr ho fun K hK=>want_none rfl (wp_of_run_skip (store_run x y g o xs hx hy (hat.there hn) hi h1) (hK.out _ _ hS h))
end
theorem over_defers:∀ (ds:List Nat) (vs:List Value) (a:Act),(over a ds vs).defers=a.defers
 | [],_,_=>by simp [over]
 | _::_,[],_=>by simp [over]
 | d::ds,v::vs,a=>by rw [over,over_defers ds vs];simp [Act.put]
theorem put_at (a:Act) (d:Nat) (v:Value) (h:d<a.tmps.size):(a.put (some d) v).tmps.getD d undef=v:=by simp [Act.put,Array.getD,h]
theorem put_defers (a:Act) (d:Option Tmp) (v:Value):(a.put d v).defers=a.defers:=by cases d <;> rfl
/-- the value that came up -/
theorem Came.at_ {cores:List Core} {W:World} {vs:List Value} {w:World} {a:Act} (h:Came cores W (List.replicate cores.length true) vs w) (hnd:(cores.map (·.d)).Nodup) (hsz:(cores.map (·.d)).all (fun d=>Nat.ble (d+1) a.tmps.size)=true)
  (k d:Nat) (c:Core) (u:Value) (hc:cores[k]? = some c) (hd:c.d=d) (hk:c.kind=Kind.val u):(over a (cores.map (·.d)) vs).eval (.tmp d)=u:=by
 have hlt:k<cores.length:=(List.getElem?_eq_some_iff.1 hc).1
 obtain ⟨v,hv,hp⟩:=h.ok k c hc (by rw [List.getElem?_replicate,if_pos hlt])
 rw [hk] at hp
 have hp:v=u:=hp
 subst hp
 subst hd
 exact over_at _ _ _ k _ _ hnd (by rw [List.getElem?_map,hc];rfl) hv (Nat.le_of_ble_eq_true (List.all_eq_true.1 hsz _ (List.mem_map_of_mem (List.mem_of_getElem? hc))))

theorem len2 (vs:List Value) (h:vs.length=2):∃ v0 v1,vs=[v0,v1]:=by
 match vs,h with
 | [v0,v1],_=>exact ⟨_,_,rfl⟩

theorem len3 (vs:List Value) (h:vs.length=3):∃ v0 v1 v2,vs=[v0,v1,v2]:=by
 match vs,h with
 | [v0,v1,v2],_=>exact ⟨_,_,_,rfl⟩

theorem len4 (vs:List Value) (h:vs.length=4):∃ v0 v1 v2 v3,vs=[v0,v1,v2,v3]:=by
 match vs,h with
 | [v0,v1,v2,v3],_=>exact ⟨_,_,_,_,rfl⟩

theorem len6 (vs:List Value) (h:vs.length=6):∃ v0 v1 v2 v3 v4 v5,vs=[v0,v1,v2,v3,v4,v5]:=by
 match vs,h with
 | [v0,v1,v2,v3,v4,v5],_=>exact ⟨_,_,_,_,_,_,rfl⟩

theorem len7 (vs:List Value) (h:vs.length=7):∃ v0 v1 v2 v3 v4 v5 v6,vs=[v0,v1,v2,v3,v4,v5,v6]:=by
 match vs,h with
 | [v0,v1,v2,v3,v4,v5,v6],_=>exact ⟨_,_,_,_,_,_,_,rfl⟩

theorem len8 (vs:List Value) (h:vs.length=8):∃ v0 v1 v2 v3 v4 v5 v6 v7,vs=[v0,v1,v2,v3,v4,v5,v6,v7]:=by
 match vs,h with
 | [v0,v1,v2,v3,v4,v5,v6,v7],_=>exact ⟨_,_,_,_,_,_,_,_,rfl⟩

theorem len9 (vs:List Value) (h:vs.length=9):∃ v0 v1 v2 v3 v4 v5 v6 v7 v8,vs=[v0,v1,v2,v3,v4,v5,v6,v7,v8]:=by
 match vs,h with
 | [v0,v1,v2,v3,v4,v5,v6,v7,v8],_=>exact ⟨_,_,_,_,_,_,_,_,_,rfl⟩

theorem len10 (vs:List Value) (h:vs.length=10):∃ v0 v1 v2 v3 v4 v5 v6 v7 v8 v9,vs=[v0,v1,v2,v3,v4,v5,v6,v7,v8,v9]:=by
 match vs,h with
 | [v0,v1,v2,v3,v4,v5,v6,v7,v8,v9],_=>exact ⟨_,_,_,_,_,_,_,_,_,_,rfl⟩

theorem len12 (vs:List Value) (h:vs.length=12):∃ v0 v1 v2 v3 v4 v5 v6 v7 v8 v9 v10 v11,vs=[v0,v1,v2,v3,v4,v5,v6,v7,v8,v9,v10,v11]:=by
 match vs,h with
 | [v0,v1,v2,v3,v4,v5,v6,v7,v8,v9,v10,v11],_=>exact ⟨_,_,_,_,_,_,_,_,_,_,_,_,rfl⟩

theorem len13 (vs:List Value) (h:vs.length=13):∃ v0 v1 v2 v3 v4 v5 v6 v7 v8 v9 v10 v11 v12,vs=[v0,v1,v2,v3,v4,v5,v6,v7,v8,v9,v10,v11,v12]:=by
 match vs,h with
 | [v0,v1,v2,v3,v4,v5,v6,v7,v8,v9,v10,v11,v12],_=>exact ⟨_,_,_,_,_,_,_,_,_,_,_,_,_,rfl⟩

theorem len16 (vs:List Value) (h:vs.length=16):∃ v0 v1 v2 v3 v4 v5 v6 v7 v8 v9 v10 v11 v12 v13 v14 v15,vs=[v0,v1,v2,v3,v4,v5,v6,v7,v8,v9,v10,v11,v12,v13,v14,v15]:=by
 match vs,h with
 | [v0,v1,v2,v3,v4,v5,v6,v7,v8,v9,v10,v11,v12,v13,v14,v15],_=>exact ⟨_,_,_,_,_,_,_,_,_,_,_,_,_,_,_,_,rfl⟩

theorem len20 (vs:List Value) (h:vs.length=20):∃ v0 v1 v2 v3 v4 v5 v6 v7 v8 v9 v10 v11 v12 v13 v14 v15 v16 v17 v18 v19,vs=[v0,v1,v2,v3,v4,v5,v6,v7,v8,v9,v10,v11,v12,v13,v14,v15,v16,v17,v18,v19]:=by
 match vs,h with
 | [v0,v1,v2,v3,v4,v5,v6,v7,v8,v9,v10,v11,v12,v13,v14,v15,v16,v17,v18,v19],_=>exact ⟨_,_,_,_,_,_,_,_,_,_,_,_,_,_,_,_,_,_,_,_,rfl⟩

theorem len25 (vs:List Value) (h:vs.length=25):∃ v0 v1 v2 v3 v4 v5 v6 v7 v8 v9 v10 v11 v12 v13 v14 v15 v16 v17 v18 v19 v20 v21 v22 v23 v24,vs=[v0,v1,v2,v3,v4,v5,v6,v7,v8,v9,v10,v11,v12,v13,v14,v15,v16,v17,v18,v19,v20,v21,v22,v23,v24]:=by
 match vs,h with
 | [v0,v1,v2,v3,v4,v5,v6,v7,v8,v9,v10,v11,v12,v13,v14,v15,v16,v17,v18,v19,v20,v21,v22,v23,v24],_=>exact ⟨_,_,_,_,_,_,_,_,_,_,_,_,_,_,_,_,_,_,_,_,_,_,_,_,_,rfl⟩

end Go.Proofs.YtlphnfajhpkleaaDoor.By
