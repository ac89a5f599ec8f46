/-
 The rules for guarded operations ('&&','||') of a region that draws its order: what is wanted,what is passed over;calls that ask for what was there;loads,slices,comparisons of hashes.
-/
import Derived.Test.YtlphnfajhpkleaaDoorMByCore
import Derived.Test.YtlphnfajhpkleaaDoorMByHOf
import Derived.Test.YtlphnfajhpkleaaDoorMBySum2
namespace Go.Proofs.YtlphnfajhpkleaaDoor.By
set_option maxRecDepth 100000
open Go.RowKit
set_option linter.unusedSimpArgs false
set_option linter.unusedVariables false

section
variable {P:Program} {ops:Array Oper} {Q:Exit→Act→World→Prop} {md:Region.Mode} {S:World→Prop} {a:Act} {W:World} {cores:List Core}

/-- is the guard met,as soon as 'pre' have come up? -/
def Wants (ops:Array Oper) (a:Act) (cores:List Core) (pre:List Nat) (gd:Option (Nat × Bool)) (b:Bool):Prop:=
 ∀ (vs:List Value) (w:World),Fit a cores vs→(∀ j∈pre,∀ d:Core,cores[j]? = some d→∃ v,vs[j]? = some v∧d.kind.p v w) →
  ∀ o:Oper,o.guard=gd→Region.wanted o (yielded ops (over a (cores.map (·.d)) vs).tmps)=b
theorem wants_none {pre:List Nat}:Wants ops a cores pre none true:=fun _ _ _ _ o h=>by unfold Region.wanted;rw [h]
theorem wants_core {pre:List Nat} (g t j:Nat) (cc:Core) (c b:Bool) (hc:cores[j]? = some cc) (hcd:cc.d=t) (hd:(ops[g]?).bind (·.dst)=some t) (hk:Known a cores pre (.tmp t) (.bool c)) (r:Bool) (hr:r=(c==b)):Wants ops a cores pre (some (g,b)) r:=fun vs w hl hp o h=>by
 subst hr
 have e:(over a (cores.map (·.d)) vs).tmps.getD t undef=.bool c:=hk vs w hl hp
 have e2:(over a (cores.map (·.d)) vs).tmps[t]? = some (.bool c):=by
  have hs':t<(over a (cores.map (·.d)) vs).tmps.size:=by rw [over_size,← hcd];exact hl.sz _ (List.mem_map_of_mem (List.mem_of_getElem? hc))
  rw [Array.getD_eq_getD_getElem?,Array.getElem?_eq_getElem hs'] at e
  rw [Array.getElem?_eq_getElem hs']
  exact congrArg some e
 unfold Region.wanted yielded
 rw [h]
 simp only [hd,Option.bind_some,e2]
 cases c <;> cases b <;> rfl
theorem wc {pre:List Nat} (g t j:Nat) {cc:Core} {c b:Bool} (hk:Known a cores pre (.tmp t) (.bool c)) (hc:cores[j]? = some cc:=by rfl) (hcd:cc.d=t:=by rfl) (hd:(ops[g]?).bind (·.dst)=some t:=by rfl) {r:Bool} (hr:r=(c==b):=by rfl):Wants ops a cores pre (some (g,b)) r:=wants_core g t j cc c b hc hcd hd hk r hr
theorem want_if {o:Oper} {t:Array Value} {p q:Prop} (hw:Region.wanted o (yielded ops t)=true) (h:p):if Region.wanted o (yielded ops t)=true then p else q:=by
 rw [if_pos hw];exact h

theorem coreG_callB (c:Core) (f:FuncId) (fn:Func) (code:Code) (xs:List Operand) (us:List Value) (tys:Array TypeId) (ty:TypeId) (pos:String) (after:Array Edge) (gd:Option (Nat × Bool)) (u:Value)
  (ho:ops[c.i]? = some ⟨some c.d,.call ⟨.value (.func f),xs.toArray,tys⟩,ty,pos,after,gd⟩) (hf:P.funcs[f]? = some fn) (hn:(fn.name == "runtime.NumGoroutine")=false) (hb:fn.body=some code)
  (hk:c.kind=Kind.val u) (hg:Wants ops a cores c.pre gd true) (hx:Args a cores c.pre xs us)
  (C:∀ w,Below W.heap.size W w→Calls P f us.toArray w fun e w'=>e=.returned u∧Below w.heap.size w w'):StepOK P ops Q a W cores c:=by
 intro vs w hl hbw hp o ho' K hK
 rw [ho] at ho'
 obtain rfl:=Option.some.inj ho'
 refine want_if (hg vs w hl hp _ rfl) ?_
 have hargs:xs.toArray.map (over a (cores.map (·.d)) vs).eval=us.toArray:=by
  rw [List.map_toArray]
  congr 1
  clear ho C ho'
  induction hx with
  | nil=>rfl
  | cons h _ ih=>rw [List.map_cons,h vs w hl hp,ih]
 have hrun:∀ w,(execOp (over a (cores.map (·.d)) vs).eval ⟨some c.d,.call ⟨.value (.func f),xs.toArray,tys⟩,ty,pos,after,gd⟩).run P w=.ok (.enter f us.toArray) w:=fun w=>by
  have h:=run_enter hf hn hb us.toArray w
  simp only [execOp,resolve,hargs]
  simpa [Act.eval,Deferred.ofValue,invoke,go_sem] using h
 unfold Oper.wp
 rw [hrun w,Oper.upon_enter]
 refine (C w hbw).mono fun e w' ⟨he,hb⟩=>?_
 subst he
 exact hK.out u w' hb (by rw [hk];exact rfl) (fun h=>by rw [hk] at h;cases h)

theorem coreG_pure (c:Core) (op:Op) (ty:TypeId) (pos:String) (after:Array Edge) (gd:Option (Nat × Bool)) (u:Value)
  (ho:ops[c.i]? = some ⟨some c.d,op,ty,pos,after,gd⟩) (hk:c.kind=Kind.val u) (hg:Wants ops a cores c.pre gd true)
  (h : ∀ (vs : List Value) (w : World), Fit a cores vs → (∀ j ∈ c.pre, ∀ d : Core, cores[j]? = some d → ∃ v, vs[j]? = some v ∧ d.kind.p v w) →
   ∀ w,S w→(execOp (over a (cores.map (·.d)) vs).eval ⟨some c.d,op,ty,pos,after,gd⟩).run P w=.ok (.value u) w):PureOK P ops S a W cores c:=by
 intro _
 refine ⟨by rw [hk];rfl,fun vs w hl _ hp o ho'=>?_⟩
 rw [ho] at ho'
 obtain rfl:=Option.some.inj ho'
 exact ⟨u,by rw [hk];exact rfl,Or.inl ⟨hg vs w hl hp _ rfl,fun w' hS=>h vs w hl hp w' hS⟩⟩
theorem coreG_skip (c:Core) (op:Op) (ty:TypeId) (pos:String) (after:Array Edge) (gd:Option (Nat × Bool))
  (ho:ops[c.i]? = some ⟨some c.d,op,ty,pos,after,gd⟩) (hk:c.kind=Kind.val undef) (hg:Wants ops a cores c.pre gd false):PureOK P ops S a W cores c:=by
 intro _
 refine ⟨by rw [hk];rfl,fun vs w hl _ hp o ho'=>?_⟩
 rw [ho] at ho'
 obtain rfl:=Option.some.inj ho'
 exact ⟨undef,by rw [hk];exact rfl,Or.inr ⟨hg vs w hl hp _ rfl,rfl⟩⟩
theorem coreG_move (c:Core) (x:Operand) (ty:TypeId) (pos:String) (after:Array Edge) (gd:Option (Nat × Bool)) (u:Value)
  (ho:ops[c.i]? = some ⟨some c.d,.move x,ty,pos,after,gd⟩) (hk:c.kind=Kind.val u) (hg:Wants ops a cores c.pre gd true) (hx:Known a cores c.pre x u):PureOK P ops S a W cores c:=
 coreG_pure c _ ty pos after gd u ho hk hg fun vs w hl hp w' _=>by
  have:=hx vs w hl hp
  simp only [execOp,this];rfl
theorem coreG_extract (c:Core) (x:Operand) (j:Nat) (ty:TypeId) (pos:String) (after:Array Edge) (gd:Option (Nat × Bool)) (us:Array Value) (u:Value)
  (ho:ops[c.i]? = some ⟨some c.d,.extract x j,ty,pos,after,gd⟩) (hk:c.kind=Kind.val u) (hg:Wants ops a cores c.pre gd true) (hx:Known a cores c.pre x (.tuple us)) (hu:us[j]? = some u):PureOK P ops S a W cores c:=
 coreG_pure c _ ty pos after gd u ho hk hg fun vs w hl hp w' _=>by
  have:=hx vs w hl hp
  generalize (over a (cores.map (·.d)) vs).eval=ρ at this
  simp [execOp,this,go_sem,hu]
theorem coreG_pick (c:Core) (x y z:Operand) (ty:TypeId) (pos:String) (after:Array Edge) (gd:Option (Nat × Bool)) (b:Bool) (u v r:Value)
  (ho:ops[c.i]? = some ⟨some c.d,.pick x y z,ty,pos,after,gd⟩) (hk:c.kind=Kind.val r) (hg:Wants ops a cores c.pre gd true) (hx:Known a cores c.pre x (.bool b)) (hy:Known a cores c.pre y u) (hz:Known a cores c.pre z v)
  (hr:r=if b then u else v):PureOK P ops S a W cores c:=
 coreG_pure c _ ty pos after gd r ho hk hg fun vs w hl hp w' _=>by
  have e1:=hx vs w hl hp
  have e2:=hy vs w hl hp
  have e3:=hz vs w hl hp
  generalize (over a (cores.map (·.d)) vs).eval=ρ at e1 e2 e3
  subst hr
  cases b <;> simp [execOp,e1,e2,e3,go_sem]
theorem coreG_bin (c:Core) (b:BinOp) (T T2:TypeId) (x y:Operand) (ty:TypeId) (pos:String) (after:Array Edge) (gd:Option (Nat × Bool)) (u v r:Value)
  (ho:ops[c.i]? = some ⟨some c.d,.binOp b T x y T2,ty,pos,after,gd⟩) (hk:c.kind=Kind.val r) (hg:Wants ops a cores c.pre gd true) (hx:Known a cores c.pre x u) (hy:Known a cores c.pre y v)
  (hr:∀ (ρ:Operand→Value) (w:World),ρ x=u→ρ y=v→(execOp ρ ⟨some c.d,.binOp b T x y T2,ty,pos,after,gd⟩).run P w=.ok (.value r) w):PureOK P ops S a W cores c:=
 coreG_pure c _ ty pos after gd r ho hk hg fun vs w hl hp w' _=>hr _ w' (hx vs w hl hp) (hy vs w hl hp)
/-- an operation that reads memory of which S tells -/
theorem coreG_held (c:Core) (op:Op) (ty:TypeId) (pos:String) (after:Array Edge) (gd:Option (Nat × Bool)) (u:Value) (x:Operand) (xv:Value)
  (ho:ops[c.i]? = some ⟨some c.d,op,ty,pos,after,gd⟩) (hk:c.kind=Kind.val u) (hg:Wants ops a cores c.pre gd true) (hx:Known a cores c.pre x xv)
  (h:∀ (ρ:Operand→Value) (w:World),ρ x=xv→S w→(execOp ρ ⟨some c.d,op,ty,pos,after,gd⟩).run P w=.ok (.value u) w):PureOK P ops S a W cores c:=
 coreG_pure c op ty pos after gd u ho hk hg fun vs w hl hp w' hS=>h _ w' (hx vs w hl hp) hS
end
end Go.Proofs.YtlphnfajhpkleaaDoor.By

/-
 More rules for a region that draws its order: rows that are made of what came up,calls with them,function values.
-/
namespace Go.Proofs.YtlphnfajhpkleaaDoor.By
set_option maxRecDepth 100000
open Go.RowKit
set_option linter.unusedSimpArgs false
set_option linter.unusedVariables false
set_option maxRecDepth 100000

section
variable {P:Program} {ops:Array Oper} {Q:Exit→Act→World→Prop} {md:Region.Mode} {S:World→Prop} {a:Act} {W:World} {cores:List Core}
/-- what has come up ahead -/
def Pre (cores:List Core) (pre:List Nat) (vs:List Value) (w:World):Prop:=∀ j∈pre,∀ d:Core,cores[j]? = some d→∃ v,vs[j]? = some v∧d.kind.p v w
theorem is_core {pre:List Nat} {vs:List Value} {w:World} (hl:Fit a cores vs) (hp:Pre cores pre vs w) (j t:Nat) (cc:Core) (hj:j∈pre) (hc:cores[j]? = some cc) (hd:cc.d=t) :
  ∃ v,(over a (cores.map (·.d)) vs).eval (.tmp t)=v∧cc.kind.p v w:=by
 obtain ⟨v,hv,hpv⟩:=hp j hj cc hc
 refine ⟨v,?_,hpv⟩
 subst hd
 exact over_at _ _ _ j _ _ hl.nd (by rw [List.getElem?_map,hc];rfl) hv (hl.sz _ (List.mem_map_of_mem (List.mem_of_getElem? hc)))
/-- an operation that leaves something new -/
theorem coreK_run (c:Core) (op:Op) (ty:TypeId) (pos:String) (after:Array Edge) (gd:Option (Nat × Bool))
  (ho:ops[c.i]? = some ⟨some c.d,op,ty,pos,after,gd⟩) (hg:Wants ops a cores c.pre gd true) (hnew:c.kind.new=false)
  (h:∀ (vs:List Value) (w:World),Fit a cores vs→Below W.heap.size W w→Pre cores c.pre vs w→∃ v w',(execOp (over a (cores.map (·.d)) vs).eval ⟨some c.d,op,ty,pos,after,gd⟩).run P w=.ok (.value v) w'∧Below w.heap.size w w'∧c.kind.p v w'):StepOK P ops Q a W cores c:=by
 intro vs w hl hbw hp o ho' K hK
 rw [ho] at ho'
 obtain rfl:=Option.some.inj ho'
 obtain ⟨v,w',hr,hb,hk⟩:=h vs w hl hbw hp
 refine want_if (hg vs w hl hp _ rfl) (wp_of_run_value hr ?_)
 exact hK.out v w' hb hk (fun h=>by rw [hnew] at h;cases h)
/-- a call whose arguments came up -/
theorem coreK_call (c:Core) (f:FuncId) (fn:Func) (code:Code) (xs:List Operand) (tys:Array TypeId) (ty:TypeId) (pos:String) (after:Array Edge) (gd:Option (Nat × Bool))
  (ho:ops[c.i]? = some ⟨some c.d,.call ⟨.value (.func f),xs.toArray,tys⟩,ty,pos,after,gd⟩) (hf:P.funcs[f]? = some fn) (hn:(fn.name == "runtime.NumGoroutine")=false) (hb:fn.body=some code)
  (hg:Wants ops a cores c.pre gd true) (hnew:c.kind.new=false)
  (C:∀ (vs:List Value) (w:World),Fit a cores vs→Below W.heap.size W w→Pre cores c.pre vs w→∃ us:List Value,xs.map (over a (cores.map (·.d)) vs).eval=us∧Calls P f us.toArray w fun e w'=>∃ u,e=.returned u∧Below w.heap.size w w'∧c.kind.p u w'):StepOK P ops Q a W cores c:=by
 intro vs w hl hbw hp o ho' K hK
 rw [ho] at ho'
 obtain rfl:=Option.some.inj ho'
 obtain ⟨us,hus,hC⟩:=C vs w hl hbw hp
 refine want_if (hg vs w hl hp _ rfl) ?_
 have hargs:xs.toArray.map (over a (cores.map (·.d)) vs).eval=us.toArray:=by rw [List.map_toArray,hus]
 have hrun:(execOp (over a (cores.map (·.d)) vs).eval ⟨some c.d,.call ⟨.value (.func f),xs.toArray,tys⟩,ty,pos,after,gd⟩).run P w=.ok (.enter f us.toArray) w:=by
  have h:=run_enter hf hn hb us.toArray w
  simp only [execOp,resolve,hargs]
  simpa [Act.eval,Deferred.ofValue,invoke,go_sem] using h
 unfold Oper.wp
 rw [hrun,Oper.upon_enter]
 refine hC.mono fun e w' ⟨u,he,hb,hk⟩=>?_
 subst he
 exact hK.out u w' hb hk (fun h=>by rw [hnew] at h;cases h)
/-- a new block -/
theorem coreK_alloc (c:Core) (ty ty':TypeId) (pos:String) (after:Array Edge) (cs:Array Value) (base:Nat)
  (ho:ops[c.i]? = some ⟨some c.d,.alloc ty,ty',pos,after,none⟩) (hz:(P.info? ty).map (·.zero)=some (some (.agg cs))) (hk:c.kind=Kind.cell base ty cs) (hn:base≤W.heap.size):StepOK P ops Q a W cores c:=by
 intro vs w hl hbw hp o ho' K hK
 rw [ho] at ho'
 obtain rfl:=Option.some.inj ho'
 refine want_none rfl (wp_of_run_value (alloc_run cs hz) ?_)
 exact hK.out _ _ ((Below.refl _ _).alloc (Nat.le_refl _) _) (by rw [hk];exact ⟨_,rfl,Nat.le_trans hn hbw.size,At.new _ _ _⟩) (fun _=>⟨rfl,by simp⟩)
theorem run_value {f:FuncId} {fn:Func} {c:Code} (hf:P.funcs[f]? = some fn) (hname:(fn.name == "runtime.NumGoroutine")=false) (hb:fn.body=some c) (x:Operand) (xs:Array Operand) (tys:Array TypeId) (dst:Option Tmp) (ty:TypeId) (pos:String) (after:Array Edge) (gd:Option (Nat × Bool))
  (cap:Array Value) (ρ:Operand→Value) (hx:ρ x=.func (.func f) #[] cap) (w:World) :
  (execOp ρ ⟨dst,.call ⟨.value x,xs,tys⟩,ty,pos,after,gd⟩).run P w=.ok (.enter f (xs.map ρ++cap)) w:=by
 have h:=run_enter hf hname hb (xs.map ρ++cap) w
 simp only [execOp,resolve,hx]
 simpa [Deferred.ofValue,invoke,go_sem] using h
theorem core_callV (c:Core) (f:FuncId) (fn:Func) (code:Code) (x:Operand) (cap:Array Value) (xs:List Operand) (us:List Value) (tys:Array TypeId) (ty:TypeId) (pos:String) (after:Array Edge) (u:Value) (args:Array Value)
  (ho:ops[c.i]? = some ⟨some c.d,.call ⟨.value x,xs.toArray,tys⟩,ty,pos,after,none⟩) (hf:P.funcs[f]? = some fn) (hn:(fn.name == "runtime.NumGoroutine")=false) (hb:fn.body=some code)
  (hk:c.kind=Kind.val u) (hfx:Known a cores c.pre x (.func (.func f) #[] cap)) (hx:Args a cores c.pre xs us) (hall:us.toArray++cap=args)
  (C:∀ w,Below W.heap.size W w→Calls P f args w fun e w'=>e=.returned u∧Below w.heap.size w w'):StepOK P ops Q a W cores c:=by
 intro vs w hl hbw hp o ho' K hK
 rw [ho] at ho'
 obtain rfl:=Option.some.inj ho'
 refine want_none rfl ?_
 have hargs:xs.toArray.map (over a (cores.map (·.d)) vs).eval=us.toArray:=by
  rw [List.map_toArray]
  congr 1
  clear ho C ho' hall
  induction hx with
  | nil=>rfl
  | cons h _ ih=>rw [List.map_cons,h vs w hl hp,ih]
 have hrun:=run_value hf hn hb x xs.toArray tys (some c.d) ty pos after none cap (over a (cores.map (·.d)) vs).eval (hfx vs w hl hp) w
 rw [hargs,hall] at hrun
 unfold Oper.wp
 rw [hrun,Oper.upon_enter]
 refine (C w hbw).mono fun e w' ⟨he,hb⟩=>?_
 subst he
 exact hK.out u w' hb (by rw [hk];exact rfl) (fun h=>by rw [hk] at h;cases h)
end

/-- a row that is made of bytes,read in memory -/
def KBytes (l:List Nat) (n:Nat):Kind:=⟨false,fun v w=>∃ g,v=.slice (some ⟨g,0,none⟩) n n∧Rd w (some ⟨g,0,none⟩) n (bs l),fun _ _ _ ⟨g,h1,h2⟩ hb=>⟨g,h1,h2.below hb⟩⟩
/-- a row of one such row -/
def KOne (x:Nat):Kind:=⟨false,fun v w=>∃ g g',v=.slice (some ⟨g,0,none⟩) 1 1∧Rd w (some ⟨g,0,none⟩) 1 [.slice (some ⟨g',0,none⟩) 1 1]∧Rd w (some ⟨g',0,none⟩) 1 (bs [x]),
 fun _ _ _ ⟨g,g',h1,h2,h3⟩ hb=>⟨g,g',h1,h2.below hb,h3.below hb⟩⟩
/-- a row of two lists of parts,the second one of one part of one byte -/
def KTwo (A:Option Addr) (n c x:Nat):Kind:=⟨false,fun v w=>∃ gx g g',v=.slice (some ⟨gx,0,none⟩) 2 2∧Rd w (some ⟨gx,0,none⟩) 2 [.slice A n c,.slice (some ⟨g,0,none⟩) 1 1]∧Rd w (some ⟨g,0,none⟩) 1 [.slice (some ⟨g',0,none⟩) 1 1]∧Rd w (some ⟨g',0,none⟩) 1 (bs [x]),
 fun _ _ _ ⟨gx,g,g',h1,h2,h3,h4⟩ hb=>⟨gx,g,g',h1,h2.below hb,h3.below hb,h4.below hb⟩⟩
/-- parts,and one more of one byte -/
def KMore (hds:List Value) (n x:Nat):Kind:=⟨false,fun v w=>∃ A' c' g',v=.slice A' (n+1) c'∧n+1≤c'∧c'≤9223372036854775807∧Rd w A' (n+1) (hds++[.slice (some ⟨g',0,none⟩) 1 1])∧Rd w (some ⟨g',0,none⟩) 1 (bs [x]),
 fun _ _ _ ⟨A',c',g',h1,h2,h3,h4,h5⟩ hb=>⟨A',c',g',h1,h2,h3,h4.below hb,h5.below hb⟩⟩

section
variable {dst:Option Tmp} {ty:TypeId} {pos:String} {after:Array Edge} {gd:Option (Nat × Bool)} {x y:Operand} {ρ:Operand→Value} {w:World}
theorem bld1 (v:Int) (hx:ρ x=.int .u8 v):(execOp ρ ⟨dst,.buildSlice 64 1 #[(0,x)],ty,pos,after,gd⟩).run Tryd.prog w=.ok (.value (.slice (some ⟨w.heap.size,0,none⟩) 1 1)) (w.alloc (.cells #[.int .u8 v] 5)):=by
 simp [execOp,hx,go_sem]
theorem bld2 (A:Option Addr) (n c:Nat) (hx:ρ x=.slice A n c):(execOp ρ ⟨dst,.buildSlice 80 1 #[(0,x)],ty,pos,after,gd⟩).run Tryd.prog w=.ok (.value (.slice (some ⟨w.heap.size,0,none⟩) 1 1)) (w.alloc (.cells #[.slice A n c] 64)):=by
 simp [execOp,hx,go_sem]
theorem bld3 (A B:Option Addr) (n c m d:Nat) (hx:ρ x=.slice A n c) (hy:ρ y=.slice B m d):(execOp ρ ⟨dst,.buildSlice 101 2 #[(0,x),(1,y)],ty,pos,after,gd⟩).run Tryd.prog w=.ok (.value (.slice (some ⟨w.heap.size,0,none⟩) 2 2)) (w.alloc (.cells #[.slice A n c,.slice B m d] 80)):=by
 simp [execOp,hx,hy,go_sem]
theorem loadS_run (t:TypeId) (g:Nat) (u:Value) (h1:u.oneCell'=true) (hx:ρ x=.pointer (some ⟨g,0,none⟩)) (hc:w.cell? ⟨g,0,none⟩=some u) (ht:t=9∨t=80) :
  (execOp ρ ⟨dst,.load t x,ty,pos,after,gd⟩).run Tryd.prog w=.ok (.value u) w:=by
 rcases ht with rfl | rfl <;> simp [execOp,hx,hc,go_sem]
end
theorem map_one {f:Operand→Value} {x:Operand} {u:Value} (h:f x=u):[x].map f=[u]:=by rw [List.map_cons,List.map_nil,h]
theorem map_two {f:Operand→Value} {x y:Operand} {u v:Value} (h:f x=u) (k:f y=v):[x,y].map f=[u,v]:=by rw [List.map_cons,List.map_cons,List.map_nil,h,k]
theorem rd_alloc (w:World) (t:TypeId) (xs:List Value):Rd (w.alloc (.cells xs.toArray t)) (some ⟨w.heap.size,0,none⟩) xs.length xs:=by
 refine ⟨rfl,fun _=>⟨_,0,rfl,by simp,fun j u hu=>?_⟩⟩
 rw [Nat.zero_add,cell_of_row _ w.heap.size j xs.toArray t (0,0) (heap_alloc_new w _)]
 simpa using hu
end Go.Proofs.YtlphnfajhpkleaaDoor.By
