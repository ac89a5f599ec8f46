/-
 The rules for guarded operations ('&&','||'): what is wanted,what is passed over;comparisons,choices.
-/
import Derived.Laws.BitsAllLaws
import Derived.Test.YtlphnfajhpkleaaDoorMBehind
import Derived.Test.YtlphnfajhpkleaaDoorMCoreH
import Derived.Test.YtlphnfajhpkleaaDoorMSet
namespace Go.Proofs.YtlphnfajhpkleaaDoor
set_option maxRecDepth 100000
open Go.RowKit
set_option linter.unusedSimpArgs false
set_option linter.unusedVariables false

section
variable {P:Program} {ops:Array Oper} {Q:Exit→Act→World→Prop} {md:Region.Mode} {S:World→Prop} {a:Act} {W:World} {cores:List Core}

/-- is the guard met,as soon as 'pre' have come up? -/
def Wants (ops:Array Oper) (a:Act) (cores:List Core) (pre:List Nat) (gd:Option (Nat × Bool)) (b:Bool):Prop:=
 ∀ (vs:List Value) (w:World),Fit a cores vs→(∀ j∈pre,∀ d:Core,cores[j]? = some d→∃ v,vs[j]? = some v∧d.kind.p v w) →
  ∀ o:Oper,o.guard=gd→Region.wanted o (yielded ops (over a (cores.map (·.d)) vs).tmps)=b
theorem wants_none {pre:List Nat}:Wants ops a cores pre none true:=fun _ _ _ _ o h=>by unfold Region.wanted;rw [h]
theorem wants_core {pre:List Nat} (g t j:Nat) (cc:Core) (c b:Bool) (hc:cores[j]? = some cc) (hcd:cc.d=t) (hd:(ops[g]?).bind (·.dst)=some t) (hk:Known a cores pre (.tmp t) (.bool c)) (r:Bool) (hr:r=(c==b)):Wants ops a cores pre (some (g,b)) r:=fun vs w hl hp o h=>by
 subst hr
 have e:(over a (cores.map (·.d)) vs).tmps.getD t undef=.bool c:=hk vs w hl hp
 have e2:(over a (cores.map (·.d)) vs).tmps[t]? = some (.bool c):=by
  have hs':t<(over a (cores.map (·.d)) vs).tmps.size:=by rw [over_size,← hcd];exact hl.sz _ (List.mem_map_of_mem (List.mem_of_getElem? hc))
  rw [Array.getD_eq_getD_getElem?,Array.getElem?_eq_getElem hs'] at e
  rw [Array.getElem?_eq_getElem hs']
  exact congrArg some e
 unfold Region.wanted yielded
 rw [h]
 simp only [hd,Option.bind_some,e2]
 cases c <;> cases b <;> rfl
theorem wc {pre:List Nat} (g t j:Nat) {cc:Core} {c b:Bool} (hk:Known a cores pre (.tmp t) (.bool c)) (hc:cores[j]? = some cc:=by rfl) (hcd:cc.d=t:=by rfl) (hd:(ops[g]?).bind (·.dst)=some t:=by rfl) {r:Bool} (hr:r=(c==b):=by rfl):Wants ops a cores pre (some (g,b)) r:=wants_core g t j cc c b hc hcd hd hk r hr
theorem want_if {o:Oper} {t:Array Value} {p q:Prop} (hw:Region.wanted o (yielded ops t)=true) (h:p):if Region.wanted o (yielded ops t)=true then p else q:=by
 rw [if_pos hw];exact h

theorem coreG_call (c:Core) (f:FuncId) (fn:Func) (code:Code) (xs:List Operand) (us:List Value) (tys:Array TypeId) (ty:TypeId) (pos:String) (after:Array Edge) (gd:Option (Nat × Bool)) (u:Value)
  (ho:ops[c.i]? = some ⟨some c.d,.call ⟨.value (.func f),xs.toArray,tys⟩,ty,pos,after,gd⟩) (hf:P.funcs[f]? = some fn) (hn:(fn.name == "runtime.NumGoroutine")=false) (hb:fn.body=some code)
  (hk:c.kind=Kind.val u) (hg:Wants ops a cores c.pre gd true) (hx:Args a cores c.pre xs us)
  (C:∀ w,Calls P f us.toArray w fun e w'=>e=.returned u∧Below w.heap.size w w'):StepOK P ops Q a W cores c:=by
 intro vs w hl _ hp o ho' K hK
 rw [ho] at ho'
 obtain rfl:=Option.some.inj ho'
 refine want_if (hg vs w hl hp _ rfl) ?_
 have hargs:xs.toArray.map (over a (cores.map (·.d)) vs).eval=us.toArray:=by
  rw [List.map_toArray]
  congr 1
  clear ho C ho'
  induction hx with
  | nil=>rfl
  | cons h _ ih=>rw [List.map_cons,h vs w hl hp,ih]
 have hrun:∀ w,(execOp (over a (cores.map (·.d)) vs).eval ⟨some c.d,.call ⟨.value (.func f),xs.toArray,tys⟩,ty,pos,after,gd⟩).run P w=.ok (.enter f us.toArray) w:=fun w=>by
  have h:=run_enter hf hn hb us.toArray w
  simp only [execOp,resolve,hargs]
  simpa [Act.eval,Deferred.ofValue,invoke,go_sem] using h
 unfold Oper.wp
 rw [hrun w,Oper.upon_enter]
 refine (C w).mono fun e w' ⟨he,hb⟩=>?_
 subst he
 exact hK.out u w' hb (by rw [hk];exact rfl) (fun h=>by rw [hk] at h;cases h)

theorem coreG_pure (c:Core) (op:Op) (ty:TypeId) (pos:String) (after:Array Edge) (gd:Option (Nat × Bool)) (u:Value)
  (ho:ops[c.i]? = some ⟨some c.d,op,ty,pos,after,gd⟩) (hk:c.kind=Kind.val u) (hg:Wants ops a cores c.pre gd true)
  (h : ∀ (vs : List Value) (w : World), Fit a cores vs → (∀ j ∈ c.pre, ∀ d : Core, cores[j]? = some d → ∃ v, vs[j]? = some v ∧ d.kind.p v w) →
   ∀ w,S w→(execOp (over a (cores.map (·.d)) vs).eval ⟨some c.d,op,ty,pos,after,gd⟩).run P w=.ok (.value u) w):PureOK P ops S a W cores c:=by
 intro _
 refine ⟨by rw [hk];rfl,fun vs w hl _ hp o ho'=>?_⟩
 rw [ho] at ho'
 obtain rfl:=Option.some.inj ho'
 exact ⟨u,by rw [hk];exact rfl,Or.inl ⟨hg vs w hl hp _ rfl,fun w' hS=>h vs w hl hp w' hS⟩⟩
theorem coreG_skip (c:Core) (op:Op) (ty:TypeId) (pos:String) (after:Array Edge) (gd:Option (Nat × Bool))
  (ho:ops[c.i]? = some ⟨some c.d,op,ty,pos,after,gd⟩) (hk:c.kind=Kind.val undef) (hg:Wants ops a cores c.pre gd false):PureOK P ops S a W cores c:=by
 intro _
 refine ⟨by rw [hk];rfl,fun vs w hl _ hp o ho'=>?_⟩
 rw [ho] at ho'
 obtain rfl:=Option.some.inj ho'
 exact ⟨undef,by rw [hk];exact rfl,Or.inr ⟨hg vs w hl hp _ rfl,rfl⟩⟩
theorem coreG_move (c:Core) (x:Operand) (ty:TypeId) (pos:String) (after:Array Edge) (gd:Option (Nat × Bool)) (u:Value)
  (ho:ops[c.i]? = some ⟨some c.d,.move x,ty,pos,after,gd⟩) (hk:c.kind=Kind.val u) (hg:Wants ops a cores c.pre gd true) (hx:Known a cores c.pre x u):PureOK P ops S a W cores c:=
 coreG_pure c _ ty pos after gd u ho hk hg fun vs w hl hp w' _=>by
  have:=hx vs w hl hp
  simp only [execOp,this];rfl
theorem coreG_extract (c:Core) (x:Operand) (j:Nat) (ty:TypeId) (pos:String) (after:Array Edge) (gd:Option (Nat × Bool)) (us:Array Value) (u:Value)
  (ho:ops[c.i]? = some ⟨some c.d,.extract x j,ty,pos,after,gd⟩) (hk:c.kind=Kind.val u) (hg:Wants ops a cores c.pre gd true) (hx:Known a cores c.pre x (.tuple us)) (hu:us[j]? = some u):PureOK P ops S a W cores c:=
 coreG_pure c _ ty pos after gd u ho hk hg fun vs w hl hp w' _=>by
  have:=hx vs w hl hp
  generalize (over a (cores.map (·.d)) vs).eval=ρ at this
  simp [execOp,this,go_sem,hu]
theorem coreG_pick (c:Core) (x y z:Operand) (ty:TypeId) (pos:String) (after:Array Edge) (gd:Option (Nat × Bool)) (b:Bool) (u v r:Value)
  (ho:ops[c.i]? = some ⟨some c.d,.pick x y z,ty,pos,after,gd⟩) (hk:c.kind=Kind.val r) (hg:Wants ops a cores c.pre gd true) (hx:Known a cores c.pre x (.bool b)) (hy:Known a cores c.pre y u) (hz:Known a cores c.pre z v)
  (hr:r=if b then u else v):PureOK P ops S a W cores c:=
 coreG_pure c _ ty pos after gd r ho hk hg fun vs w hl hp w' _=>by
  have e1:=hx vs w hl hp
  have e2:=hy vs w hl hp
  have e3:=hz vs w hl hp
  generalize (over a (cores.map (·.d)) vs).eval=ρ at e1 e2 e3
  subst hr
  cases b <;> simp [execOp,e1,e2,e3,go_sem]
theorem coreG_bin (c:Core) (b:BinOp) (T T2:TypeId) (x y:Operand) (ty:TypeId) (pos:String) (after:Array Edge) (gd:Option (Nat × Bool)) (u v r:Value)
  (ho:ops[c.i]? = some ⟨some c.d,.binOp b T x y T2,ty,pos,after,gd⟩) (hk:c.kind=Kind.val r) (hg:Wants ops a cores c.pre gd true) (hx:Known a cores c.pre x u) (hy:Known a cores c.pre y v)
  (hr:∀ (ρ:Operand→Value) (w:World),ρ x=u→ρ y=v→(execOp ρ ⟨some c.d,.binOp b T x y T2,ty,pos,after,gd⟩).run P w=.ok (.value r) w):PureOK P ops S a W cores c:=
 coreG_pure c _ ty pos after gd r ho hk hg fun vs w hl hp w' _=>hr _ w' (hx vs w hl hp) (hy vs w hl hp)
theorem coreG_loadP (c:Core) (x:Operand) (ty:TypeId) (pos:String) (after:Array Edge) (gd:Option (Nat × Bool)) (g:Nat) (u0 u1 u2 u3:Value)
  (ho:ops[c.i]? = some ⟨some c.d,.load 24 x,ty,pos,after,gd⟩) (hk:c.kind=Kind.val (.agg #[u0,u1,u2,u3])) (hg:Wants ops a cores c.pre gd true) (hx:Known a cores c.pre x (.pointer (some ⟨g,0,none⟩)))
  (hs:∀ w,S w→At w g 24 #[u0,u1,u2,u3]):PureOK Tryd.prog ops S a W cores c:=
 coreG_pure c _ ty pos after gd _ ho hk hg fun vs w hl hp w' hS=>load_run x _ ty pos after gd _ w' g u0 u1 u2 u3 (hx vs w hl hp) (hs w' hS)
end

/-- two long numbers compared -/
theorem eql_run (b:Bool) (x y:Operand) (dst:Option Tmp) (ty:TypeId) (pos:String) (after:Array Edge) (gd:Option (Nat × Bool)) (p0 p1 p2 p3 s0 s1 s2 s3:Int)
  (h:∀ w,(Op.equalIn 10000 24 (.agg #[.int .u64 p0,.int .u64 p1,.int .u64 p2,.int .u64 p3]) (.agg #[.int .u64 s0,.int .u64 s1,.int .u64 s2,.int .u64 s3])).run Tryd.prog w=.ok b w) (ρ:Operand→Value) (w:World) (hx:ρ x=.agg #[.int .u64 p0,.int .u64 p1,.int .u64 p2,.int .u64 p3]) (hy:ρ y=.agg #[.int .u64 s0,.int .u64 s1,.int .u64 s2,.int .u64 s3]) :
  (execOp ρ ⟨dst,.binOp .eql 24 x y 24,ty,pos,after,gd⟩).run Tryd.prog w=.ok (.value (.bool b)) w:=by
 simp only [execOp,hx,hy]
 simp [go_sem,h]
theorem neq_run (b:Bool) (x y:Operand) (dst:Option Tmp) (ty:TypeId) (pos:String) (after:Array Edge) (gd:Option (Nat × Bool)) (p0 p1 p2 p3 s0 s1 s2 s3:Int)
  (h:∀ w,(Op.equalIn 10000 24 (.agg #[.int .u64 p0,.int .u64 p1,.int .u64 p2,.int .u64 p3]) (.agg #[.int .u64 s0,.int .u64 s1,.int .u64 s2,.int .u64 s3])).run Tryd.prog w=.ok b w) (ρ:Operand→Value) (w:World) (hx:ρ x=.agg #[.int .u64 p0,.int .u64 p1,.int .u64 p2,.int .u64 p3]) (hy:ρ y=.agg #[.int .u64 s0,.int .u64 s1,.int .u64 s2,.int .u64 s3]) :
  (execOp ρ ⟨dst,.binOp .neq 24 x y 24,ty,pos,after,gd⟩).run Tryd.prog w=.ok (.value (.bool (!b))) w:=by
 simp only [execOp,hx,hy]
 simp [go_sem,h]

theorem over_defers:∀ (ds:List Nat) (vs:List Value) (a:Act),(over a ds vs).defers=a.defers
 | [],_,_=>by simp [over]
 | _::_,[],_=>by simp [over]
 | d::ds,v::vs,a=>by rw [over,over_defers ds vs];simp [Act.put]
theorem put_at (a:Act) (d:Nat) (v:Value) (h:d<a.tmps.size):(a.put (some d) v).tmps.getD d undef=v:=by simp [Act.put,Array.getD,h]
theorem put_defers (a:Act) (d:Option Tmp) (v:Value):(a.put d v).defers=a.defers:=by cases d <;> rfl
/-- the value that came up -/
theorem Came.at_ {cores:List Core} {W:World} {vs:List Value} {w:World} {a:Act} (h:Came cores W (List.replicate cores.length true) vs w) (hnd:(cores.map (·.d)).Nodup) (hsz:(cores.map (·.d)).all (fun d=>Nat.ble (d+1) a.tmps.size)=true)
  (k d:Nat) (c:Core) (u:Value) (hc:cores[k]? = some c) (hd:c.d=d) (hk:c.kind=Kind.val u):(over a (cores.map (·.d)) vs).eval (.tmp d)=u:=by
 have hlt:k<cores.length:=(List.getElem?_eq_some_iff.1 hc).1
 obtain ⟨v,hv,hp⟩:=h.ok k c hc (by rw [List.getElem?_replicate,if_pos hlt])
 rw [hk] at hp
 have hp:v=u:=hp
 subst hp
 subst hd
 exact over_at _ _ _ k _ _ hnd (by rw [List.getElem?_map,hc];rfl) hv (Nat.le_of_ble_eq_true (List.all_eq_true.1 hsz _ (List.mem_map_of_mem (List.mem_of_getElem? hc))))
end Go.Proofs.YtlphnfajhpkleaaDoor

/-
 Lists of a known length,opened. Nothing here speaks of the program.
-/
namespace Go.Proofs.YtlphnfajhpkleaaDoor
set_option linter.unusedSimpArgs false
set_option linter.unusedVariables false
theorem len16 (vs:List Value) (h:vs.length=16):∃ v0 v1 v2 v3 v4 v5 v6 v7 v8 v9 v10 v11 v12 v13 v14 v15,vs=[v0,v1,v2,v3,v4,v5,v6,v7,v8,v9,v10,v11,v12,v13,v14,v15]:=by
 match vs,h with
 | [v0,v1,v2,v3,v4,v5,v6,v7,v8,v9,v10,v11,v12,v13,v14,v15],_=>exact ⟨v0,v1,v2,v3,v4,v5,v6,v7,v8,v9,v10,v11,v12,v13,v14,v15,rfl⟩
theorem len20 (vs:List Value) (h:vs.length=20):∃ v0 v1 v2 v3 v4 v5 v6 v7 v8 v9 v10 v11 v12 v13 v14 v15 v16 v17 v18 v19,vs=[v0,v1,v2,v3,v4,v5,v6,v7,v8,v9,v10,v11,v12,v13,v14,v15,v16,v17,v18,v19]:=by
 match vs,h with
 | [v0,v1,v2,v3,v4,v5,v6,v7,v8,v9,v10,v11,v12,v13,v14,v15,v16,v17,v18,v19],_=>exact ⟨v0,v1,v2,v3,v4,v5,v6,v7,v8,v9,v10,v11,v12,v13,v14,v15,v16,v17,v18,v19,rfl⟩
theorem len25 (vs:List Value) (h:vs.length=25):∃ v0 v1 v2 v3 v4 v5 v6 v7 v8 v9 v10 v11 v12 v13 v14 v15 v16 v17 v18 v19 v20 v21 v22 v23 v24,vs=[v0,v1,v2,v3,v4,v5,v6,v7,v8,v9,v10,v11,v12,v13,v14,v15,v16,v17,v18,v19,v20,v21,v22,v23,v24]:=by
 match vs,h with
 | [v0,v1,v2,v3,v4,v5,v6,v7,v8,v9,v10,v11,v12,v13,v14,v15,v16,v17,v18,v19,v20,v21,v22,v23,v24],_=>exact ⟨v0,v1,v2,v3,v4,v5,v6,v7,v8,v9,v10,v11,v12,v13,v14,v15,v16,v17,v18,v19,v20,v21,v22,v23,v24,rfl⟩
end Go.Proofs.YtlphnfajhpkleaaDoor

/-
 One cell of a long number among the operations of a region that draws its order: read,written;arithmetic of words.
-/
namespace Go.Proofs.YtlphnfajhpkleaaDoor
set_option maxRecDepth 100000
open Go.RowKit
set_option linter.unusedSimpArgs false
set_option linter.unusedVariables false

section
variable {P:Program} {ops:Array Oper} {Q:Exit→Act→World→Prop} {md:Region.Mode} {S:World→Prop} {a:Act} {W:World} {cores:List Core}
/-- an operation that reads memory of which S tells -/
theorem core_heldC (c:Core) (op:Op) (ty:TypeId) (pos:String) (after:Array Edge) (u:Value) (x:Operand) (xv:Value)
  (ho:ops[c.i]? = some ⟨some c.d,op,ty,pos,after,none⟩) (hk:c.kind=Kind.val u) (hx:Known a cores c.pre x xv)
  (h:∀ (ρ:Operand→Value) (w:World),ρ x=xv→S w→(execOp ρ ⟨some c.d,op,ty,pos,after,none⟩).run P w=.ok (.value u) w):PureOK P ops S a W cores c:=by
 intro _
 refine ⟨by rw [hk];rfl,fun vs w hl _ hp o ho'=>?_⟩
 rw [ho] at ho'
 obtain rfl:=Option.some.inj ho'
 exact ⟨u,by rw [hk];exact rfl,Or.inl ⟨rfl,fun w' hS=>h _ w' (hx vs w hl hp) hS⟩⟩
/-- an operation of two operands that reads memory of which S tells -/
theorem core_held2C (c:Core) (op:Op) (ty:TypeId) (pos:String) (after:Array Edge) (u:Value) (x y:Operand) (xv yv:Value)
  (ho:ops[c.i]? = some ⟨some c.d,op,ty,pos,after,none⟩) (hk:c.kind=Kind.val u) (hx:Known a cores c.pre x xv) (hy:Known a cores c.pre y yv)
  (h:∀ (ρ:Operand→Value) (w:World),ρ x=xv→ρ y=yv→S w→(execOp ρ ⟨some c.d,op,ty,pos,after,none⟩).run P w=.ok (.value u) w):PureOK P ops S a W cores c:=by
 intro _
 refine ⟨by rw [hk];rfl,fun vs w hl _ hp o ho'=>?_⟩
 rw [ho] at ho'
 obtain rfl:=Option.some.inj ho'
 exact ⟨u,by rw [hk];exact rfl,Or.inl ⟨rfl,fun w' hS=>h _ w' (hx vs w hl hp) (hy vs w hl hp) hS⟩⟩
/-- an operation that reads memory that others may write in the end -/
theorem core_step (c:Core) (op:Op) (ty:TypeId) (pos:String) (after:Array Edge) (u:Value) (x:Operand) (xv:Value)
  (ho:ops[c.i]? = some ⟨some c.d,op,ty,pos,after,none⟩) (hk:c.kind=Kind.val u) (hx:Known a cores c.pre x xv)
  (h:∀ (ρ:Operand→Value) (w:World),ρ x=xv→Below W.heap.size W w→(execOp ρ ⟨some c.d,op,ty,pos,after,none⟩).run P w=.ok (.value u) w):StepOK P ops Q a W cores c:=by
 intro vs w hl hb hp o ho' K hK
 rw [ho] at ho'
 obtain rfl:=Option.some.inj ho'
 refine want_none rfl (wp_of_run_value (h _ w (hx vs w hl hp) hb) ?_)
 exact hK.out _ w (Below.refl _ _) (by rw [hk];exact rfl) (fun h=>by rw [hk] at h;cases h)
end
section
variable (dst:Option Tmp) (ty:TypeId) (pos:String) (after:Array Edge) (gd:Option (Nat × Bool)) (x y:Operand) (ρ:Operand→Value) (w:World)
end
theorem At.word {w:World} {g X k:Nat} {t:TypeId} (hk:k<4) (h:At w g t (ncs X)):w.cell? ⟨g,k,none⟩=some (.int .u64 (wd X k:Nat)):=by
 rw [h.cell k]
 match k,hk with
 | 0,_=>rfl
 | 1,_=>rfl
 | 2,_=>rfl
 | 3,_=>rfl
end Go.Proofs.YtlphnfajhpkleaaDoor
