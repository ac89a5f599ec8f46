import Derived.Laws.BitsAllLaws
import Derived.Test.YtmmgmljkmmgjdaaGreatDoorMBehind
import Derived.Test.YtmmgmljkmmgjdaaGreatDoorMCoreH
import Derived.Test.YtmmgmljkmmgjdaaGreatDoorMRCmp
import Derived.Test.YtmmgmljkmmgjdaaGreatDoorMSet
import Derived.Test.YtmmgmljkmmgjdaaGreatDoorMTree
namespace Go.Proofs.YtmmgmljkmmgjdaaGreatDoor
set_option maxRecDepth 100000
set_option maxHeartbeats 8000000
open Go.RowKit
set_option linter.unusedSimpArgs false
set_option linter.unusedVariables false

section
variable {P:Program} {ops:Array Oper} {Q:Exit→Act→World→Prop} {md:Region.Mode} {S:World→Prop} {a:Act} {W:World} {cores:List Core}

def Jdm (ops:Array Oper) (a:Act) (cores:List Core) (pre:List Nat) (gd:Option (Nat × Bool)) (b:Bool):Prop:=
 ∀ (vs:List Value) (w:World),Fit a cores vs→(∀ j∈pre,∀ d:Core,cores[j]? = some d→∃ v,vs[j]? = some v∧d.kind.p v w) →
  ∀ o:Oper,o.guard=gd→Region.wanted o (yielded ops (over a (cores.map (·.d)) vs).tmps)=b
theorem Jg {pre:List Nat}:Jdm ops a cores pre none true:=fun _ _ _ _ o h=>by unfold Region.wanted;rw [h]
theorem wants_core {pre:List Nat} (g t j:Nat) (cc:Core) (c b:Bool) (hc:cores[j]? = some cc) (hcd:cc.d=t) (hd:(ops[g]?).bind (·.dst)=some t) (hk:Vc a cores pre (.tmp t) (.bool c)) (r:Bool) (hr:r=(c==b)):Jdm ops a cores pre (some (g,b)) r:=fun vs w hl hp o h=>by
 subst hr
 have e:(over a (cores.map (·.d)) vs).tmps.getD t undef=.bool c:=hk vs w hl hp
 have e2:(over a (cores.map (·.d)) vs).tmps[t]? = some (.bool c):=by
  have hs':t<(over a (cores.map (·.d)) vs).tmps.size:=by rw [Wr,← hcd];exact hl.sz _ (List.mem_map_of_mem (List.mem_of_getElem? hc))
  rw [Array.getD_eq_getD_getElem?,Array.getElem?_eq_getElem hs'] at e
  rw [Array.getElem?_eq_getElem hs']
  exact congrArg some e
 unfold Region.wanted yielded
 rw [h]
 simp only [hd,Option.bind_some,e2]
 cases c <;> cases b <;> rfl
theorem wc {pre:List Nat} (g t j:Nat) {cc:Core} {c b:Bool} (hk:Vc a cores pre (.tmp t) (.bool c)) (hc:cores[j]? = some cc:=by rfl) (hcd:cc.d=t:=by rfl) (hd:(ops[g]?).bind (·.dst)=some t:=by rfl) {r:Bool} (hr:r=(c==b):=by rfl):Jdm ops a cores pre (some (g,b)) r:=wants_core g t j cc c b hc hcd hd hk r hr
theorem want_if {o:Oper} {t:Array Value} {p q:Prop} (hw:Region.wanted o (yielded ops t)=true) (h:p):if Region.wanted o (yielded ops t)=true then p else q:=by
 rw [if_pos hw];exact h

theorem Jl (c:Core) (f:FuncId) (fn:Func) (code:Code) (xs:List Operand) (us:List Value) (tys:Array TypeId) (ty:TypeId) (pos:String) (after:Array Edge) (gd:Option (Nat × Bool)) (u:Value)
  (ho:ops[c.i]? = some ⟨some c.d,.call ⟨.value (.func f),xs.toArray,tys⟩,ty,pos,after,gd⟩) (hf:P.funcs[f]? = some fn) (hn:(fn.name == "runtime.NumGoroutine")=false) (hb:fn.body=some code)
  (hk:c.kind=Kind.val u) (hg:Jdm ops a cores c.pre gd true) (hx:Args a cores c.pre xs us)
  (C:∀ w,Calls P f us.toArray w fun e w'=>e=.returned u∧Below w.heap.size w w'):Va P ops Q a W cores c:=by
 intro vs w hl _ hp o ho' K hK
 rw [ho] at ho'
 obtain rfl:=Option.some.inj ho'
 refine want_if (hg vs w hl hp _ rfl) ?_
 have hargs:xs.toArray.map (over a (cores.map (·.d)) vs).eval=us.toArray:=by
  rw [List.map_toArray]
  congr 1
  clear ho C ho'
  induction hx with
  | nil=>rfl
  | cons h _ ih=>rw [List.map_cons,h vs w hl hp,ih]
 have hrun:∀ w,(execOp (over a (cores.map (·.d)) vs).eval ⟨some c.d,.call ⟨.value (.func f),xs.toArray,tys⟩,ty,pos,after,gd⟩).run P w=.ok (.enter f us.toArray) w:=fun w=>by
  have h:=Wp hf hn hb us.toArray w
  simp only [execOp,resolve,hargs]
  simpa [Act.eval,Deferred.ofValue,invoke,go_sem] using h
 unfold Oper.wp
 rw [hrun w,Oper.upon_enter]
 refine (C w).mono fun e w' ⟨he,hb⟩=>?_
 subst he
 exact hK.out u w' hb (by rw [hk];exact rfl) (fun h=>by rw [hk] at h;cases h)

theorem Xd (c:Core) (op:Op) (ty:TypeId) (pos:String) (after:Array Edge) (gd:Option (Nat × Bool)) (u:Value)
  (ho:ops[c.i]? = some ⟨some c.d,op,ty,pos,after,gd⟩) (hk:c.kind=Kind.val u) (hg:Jdm ops a cores c.pre gd true)
  (h : ∀ (vs : List Value) (w : World), Fit a cores vs → (∀ j ∈ c.pre, ∀ d : Core, cores[j]? = some d → ∃ v, vs[j]? = some v ∧ d.kind.p v w) →
   ∀ w,S w→(execOp (over a (cores.map (·.d)) vs).eval ⟨some c.d,op,ty,pos,after,gd⟩).run P w=.ok (.value u) w):Vb P ops S a W cores c:=by
 intro _
 refine ⟨by rw [hk];rfl,fun vs w hl _ hp o ho'=>?_⟩
 rw [ho] at ho'
 obtain rfl:=Option.some.inj ho'
 exact ⟨u,by rw [hk];exact rfl,Or.inl ⟨hg vs w hl hp _ rfl,fun w' hS=>h vs w hl hp w' hS⟩⟩
theorem Kb (c:Core) (op:Op) (ty:TypeId) (pos:String) (after:Array Edge) (gd:Option (Nat × Bool))
  (ho:ops[c.i]? = some ⟨some c.d,op,ty,pos,after,gd⟩) (hk:c.kind=Kind.val undef) (hg:Jdm ops a cores c.pre gd false):Vb P ops S a W cores c:=by
 intro _
 refine ⟨by rw [hk];rfl,fun vs w hl _ hp o ho'=>?_⟩
 rw [ho] at ho'
 obtain rfl:=Option.some.inj ho'
 exact ⟨undef,by rw [hk];exact rfl,Or.inr ⟨hg vs w hl hp _ rfl,rfl⟩⟩
theorem Kr (c:Core) (x:Operand) (ty:TypeId) (pos:String) (after:Array Edge) (gd:Option (Nat × Bool)) (u:Value)
  (ho:ops[c.i]? = some ⟨some c.d,.move x,ty,pos,after,gd⟩) (hk:c.kind=Kind.val u) (hg:Jdm ops a cores c.pre gd true) (hx:Vc a cores c.pre x u):Vb P ops S a W cores c:=
 Xd c _ ty pos after gd u ho hk hg fun vs w hl hp w' _=>by
  have:=hx vs w hl hp
  simp only [execOp,this];rfl
theorem Kq (c:Core) (x y z:Operand) (ty:TypeId) (pos:String) (after:Array Edge) (gd:Option (Nat × Bool)) (b:Bool) (u v r:Value)
  (ho:ops[c.i]? = some ⟨some c.d,.pick x y z,ty,pos,after,gd⟩) (hk:c.kind=Kind.val r) (hg:Jdm ops a cores c.pre gd true) (hx:Vc a cores c.pre x (.bool b)) (hy:Vc a cores c.pre y u) (hz:Vc a cores c.pre z v)
  (hr:r=if b then u else v):Vb P ops S a W cores c:=
 Xd c _ ty pos after gd r ho hk hg fun vs w hl hp w' _=>by
  have e1:=hx vs w hl hp
  have e2:=hy vs w hl hp
  have e3:=hz vs w hl hp
  generalize (over a (cores.map (·.d)) vs).eval=ρ at e1 e2 e3
  subst hr
  cases b <;> simp [execOp,e1,e2,e3,go_sem]
theorem Ke (c:Core) (b:BinOp) (T T2:TypeId) (x y:Operand) (ty:TypeId) (pos:String) (after:Array Edge) (gd:Option (Nat × Bool)) (u v r:Value)
  (ho:ops[c.i]? = some ⟨some c.d,.binOp b T x y T2,ty,pos,after,gd⟩) (hk:c.kind=Kind.val r) (hg:Jdm ops a cores c.pre gd true) (hx:Vc a cores c.pre x u) (hy:Vc a cores c.pre y v)
  (hr:∀ (ρ:Operand→Value) (w:World),ρ x=u→ρ y=v→(execOp ρ ⟨some c.d,.binOp b T x y T2,ty,pos,after,gd⟩).run P w=.ok (.value r) w):Vb P ops S a W cores c:=
 Xd c _ ty pos after gd r ho hk hg fun vs w hl hp w' _=>hr _ w' (hx vs w hl hp) (hy vs w hl hp)
theorem Ju (c:Core) (x:Operand) (ty:TypeId) (pos:String) (after:Array Edge) (gd:Option (Nat × Bool)) (g:Nat) (u0 u1 u2 u3:Value)
  (ho:ops[c.i]? = some ⟨some c.d,.load 24 x,ty,pos,after,gd⟩) (hk:c.kind=Kind.val (.agg #[u0,u1,u2,u3])) (hg:Jdm ops a cores c.pre gd true) (hx:Vc a cores c.pre x (.pointer (some ⟨g,0,none⟩)))
  (hs:∀ w,S w→At w g 24 #[u0,u1,u2,u3]):Vb Tryz.prog ops S a W cores c:=
 Xd c _ ty pos after gd _ ho hk hg fun vs w hl hp w' hS=>Jec x _ ty pos after gd _ w' g u0 u1 u2 u3 (hx vs w hl hp) (hs w' hS)
end

theorem eql_run (b:Bool) (x y:Operand) (dst:Option Tmp) (ty:TypeId) (pos:String) (after:Array Edge) (gd:Option (Nat × Bool)) (p0 p1 p2 p3 s0 s1 s2 s3:Int)
  (h:∀ w,(Op.equalIn 10000 24 (.agg #[.int .u64 p0,.int .u64 p1,.int .u64 p2,.int .u64 p3]) (.agg #[.int .u64 s0,.int .u64 s1,.int .u64 s2,.int .u64 s3])).run Tryz.prog w=.ok b w) (ρ:Operand→Value) (w:World) (hx:ρ x=.agg #[.int .u64 p0,.int .u64 p1,.int .u64 p2,.int .u64 p3]) (hy:ρ y=.agg #[.int .u64 s0,.int .u64 s1,.int .u64 s2,.int .u64 s3]) :
  (execOp ρ ⟨dst,.binOp .eql 24 x y 24,ty,pos,after,gd⟩).run Tryz.prog w=.ok (.value (.bool b)) w:=by
 simp only [execOp,hx,hy]
 simp [go_sem,h]
theorem Jdg (b:Bool) (x y:Operand) (dst:Option Tmp) (ty:TypeId) (pos:String) (after:Array Edge) (gd:Option (Nat × Bool)) (p0 p1 p2 p3 s0 s1 s2 s3:Int)
  (h:∀ w,(Op.equalIn 10000 24 (.agg #[.int .u64 p0,.int .u64 p1,.int .u64 p2,.int .u64 p3]) (.agg #[.int .u64 s0,.int .u64 s1,.int .u64 s2,.int .u64 s3])).run Tryz.prog w=.ok b w) (ρ:Operand→Value) (w:World) (hx:ρ x=.agg #[.int .u64 p0,.int .u64 p1,.int .u64 p2,.int .u64 p3]) (hy:ρ y=.agg #[.int .u64 s0,.int .u64 s1,.int .u64 s2,.int .u64 s3]) :
  (execOp ρ ⟨dst,.binOp .neq 24 x y 24,ty,pos,after,gd⟩).run Tryz.prog w=.ok (.value (.bool (!b))) w:=by
 simp only [execOp,hx,hy]
 simp [go_sem,h]

theorem Vu:∀ (ds:List Nat) (vs:List Value) (a:Act),(over a ds vs).defers=a.defers
 | [],_,_=>by simp [over]
 | _::_,[],_=>by simp [over]
 | d::ds,v::vs,a=>by rw [over,Vu ds vs];simp [Act.put]
theorem Jgv (a:Act) (d:Nat) (v:Value) (h:d<a.tmps.size):(a.put (some d) v).tmps.getD d undef=v:=by simp [Act.put,Array.getD,h]
theorem Jao (a:Act) (d:Option Tmp) (v:Value):(a.put d v).defers=a.defers:=by cases d <;> rfl
theorem Came.at_ {cores:List Core} {W:World} {vs:List Value} {w:World} {a:Act} (h:Came cores W (List.replicate cores.length true) vs w) (hnd:(cores.map (·.d)).Nodup) (hsz:(cores.map (·.d)).all (fun d=>Nat.ble (d+1) a.tmps.size)=true)
  (k d:Nat) (c:Core) (u:Value) (hc:cores[k]? = some c) (hd:c.d=d) (hk:c.kind=Kind.val u):(over a (cores.map (·.d)) vs).eval (.tmp d)=u:=by
 have hlt:k<cores.length:=(List.getElem?_eq_some_iff.1 hc).1
 obtain ⟨v,hv,hp⟩:=h.ok k c hc (by rw [List.getElem?_replicate,if_pos hlt])
 rw [hk] at hp
 have hp:v=u:=hp
 subst hp
 subst hd
 exact Jew _ _ _ k _ _ hnd (by rw [List.getElem?_map,hc];rfl) hv (Nat.le_of_ble_eq_true (List.all_eq_true.1 hsz _ (List.mem_map_of_mem (List.mem_of_getElem? hc))))
theorem Jhf (vs:List Value) (h:vs.length=16):∃ v0 v1 v2 v3 v4 v5 v6 v7 v8 v9 v10 v11 v12 v13 v14 v15,vs=[v0,v1,v2,v3,v4,v5,v6,v7,v8,v9,v10,v11,v12,v13,v14,v15]:=by
 match vs,h with
 | [v0,v1,v2,v3,v4,v5,v6,v7,v8,v9,v10,v11,v12,v13,v14,v15],_=>exact ⟨v0,v1,v2,v3,v4,v5,v6,v7,v8,v9,v10,v11,v12,v13,v14,v15,rfl⟩
section
variable {P:Program} {ops:Array Oper} {Q:Exit→Act→World→Prop} {md:Region.Mode} {S:World→Prop} {a:Act} {W:World} {cores:List Core}
end
section
variable (dst:Option Tmp) (ty:TypeId) (pos:String) (after:Array Edge) (gd:Option (Nat × Bool)) (x y:Operand) (ρ:Operand→Value) (w:World)
theorem Vw (g k:Nat) (u:Value) (hx:ρ x=.pointer (some ⟨g,k,none⟩)) (h:w.cell? ⟨g,k,none⟩=some u) :
  (execOp ρ ⟨dst,.load 22 x,ty,pos,after,gd⟩).run Tryz.prog w=.ok (.value u) w:=by
 simp [execOp,hx,go_sem,h]
theorem Vi (g k:Nat) (hk:k<4) (hx:ρ x=.pointer (some ⟨g,0,none⟩)) (hy:ρ y=.int .i64 (k:Nat)) :
  (execOp ρ ⟨dst,.indexAddr 24 x y,ty,pos,after,gd⟩).run Tryz.prog w=.ok (.value (.pointer (some ⟨g,k,none⟩))) w:=by
 have h1:(k:Int)<4:=by omega
 have h0:(0:Int)≤(k:Int):=by omega
 simp [execOp,hx,hy,go_sem,h1,h0,hk]
theorem quo64_run (a b q:Nat) (hb:b≠0) (hq:q=a/b) (hl:q<18446744073709551616) (hx:ρ x=.int .u64 (a:Nat)) (hy:ρ y=.int .u64 (b:Nat)) :
  (execOp ρ ⟨dst,.binOp BinOp.quo 22 x y 22,ty,pos,after,gd⟩).run Tryz.prog w=.ok (.value (.int .u64 (q:Nat))) w:=by
 have hb0:(b:Int)≠0:=by omega
 have e:Int.tdiv (a:Int) (b:Int)=(q:Nat):=by rw [hq,Int.tdiv_eq_ediv_of_nonneg (by omega)];exact (Int.natCast_ediv _ _).symm
 have e2:(a:Int)/(b:Int)=(q:Nat):=by rw [hq];exact (Int.natCast_ediv _ _).symm
 have e3:IntKind.u64.wrap (q:Int)=(q:Nat):=by rw [IntKind.wrap_u64];omega
 simp [execOp,hx,hy,go_sem,hb,hb0,e,e2,e3]
theorem rem64_run (a b q:Nat) (hb:b≠0) (hq:q=a%b) (hl:q<18446744073709551616) (hx:ρ x=.int .u64 (a:Nat)) (hy:ρ y=.int .u64 (b:Nat)) :
  (execOp ρ ⟨dst,.binOp BinOp.rem 22 x y 22,ty,pos,after,gd⟩).run Tryz.prog w=.ok (.value (.int .u64 (q:Nat))) w:=by
 have hb0:(b:Int)≠0:=by omega
 have e:Int.tmod (a:Int) (b:Int)=(q:Nat):=by rw [hq,Int.tmod_eq_emod_of_nonneg (by omega)];exact (Int.natCast_emod _ _).symm
 have e2:(a:Int)%(b:Int)=(q:Nat):=by rw [hq];exact (Int.natCast_emod _ _).symm
 have e3:IntKind.u64.wrap (q:Int)=(q:Nat):=by rw [IntKind.wrap_u64];omega
 simp [execOp,hx,hy,go_sem,hb,hb0,e,e2,e3]
theorem Jdx (p k:Nat) (hk:k=p/64) (hp:p<256) (hx:ρ x=.int .i64 (p:Nat)) (hy:ρ y=.int .i64 64) :
  (execOp ρ ⟨dst,.binOp BinOp.quo 3 x y 3,ty,pos,after,gd⟩).run Tryz.prog w=.ok (.value (.int .i64 (k:Nat))) w:=by
 have e:Int.tdiv (p:Int) 64=(k:Nat):=by rw [Int.tdiv_eq_ediv_of_nonneg (by omega)];omega
 have e2:(p:Int)/64=(k:Nat):=by omega
 have e3:IntKind.i64.wrap (k:Int)=(k:Nat):=by rw [IntKind.wrap_i64];omega
 simp [execOp,hx,hy,go_sem,e,e2,e3]
theorem remI_run (p j:Nat) (hj:j=p%64) (hp:p<256) (hx:ρ x=.int .i64 (p:Nat)) (hy:ρ y=.int .i64 64) :
  (execOp ρ ⟨dst,.binOp BinOp.rem 3 x y 3,ty,pos,after,gd⟩).run Tryz.prog w=.ok (.value (.int .i64 (j:Nat))) w:=by
 have e:Int.tmod (p:Int) 64=(j:Nat):=by rw [Int.tmod_eq_emod_of_nonneg (by omega)];omega
 have e2:(p:Int)%64=(j:Nat):=by omega
 have e3:IntKind.i64.wrap (j:Int)=(j:Nat):=by rw [IntKind.wrap_i64];omega
 simp [execOp,hx,hy,go_sem,e,e2,e3]
theorem shlI_run (j t:Nat) (hj:j<64) (ht:t=2^j) (hx:ρ x=.int .u64 1) (hy:ρ y=.int .i64 (j:Nat)) :
  (execOp ρ ⟨dst,.binOp BinOp.shl 22 x y 3,ty,pos,after,gd⟩).run Tryz.prog w=.ok (.value (.int .u64 (t:Nat))) w:=by
 have h0:¬ (j:Int)<0:=by omega
 have h1:(0:Int)≤(j:Int):=by omega
 have h64:(j:Int)<64:=by omega
 have tl:t<18446744073709551616:=by
  rw [ht]
  have:(2:Nat)^j≤2^63:=Nat.pow_le_pow_right (by decide) (by omega)
  omega
 have e:((2:Int)^j)=(t:Nat):=by rw [ht];simp
 have e3:IntKind.u64.wrap (t:Int)=(t:Nat):=by rw [IntKind.wrap_u64];omega
 simp [execOp,hx,hy,go_sem,h0,h1,h64,hj,e,e3]
theorem Jgs (a b r:Nat) (h:a+b=r) (hl:r<18446744073709551616) (hx:ρ x=.int .u64 (a:Nat)) (hy:ρ y=.int .u64 (b:Nat)) :
  (execOp ρ ⟨dst,.binOp BinOp.add 22 x y 22,ty,pos,after,gd⟩).run Tryz.prog w=.ok (.value (.int .u64 (r:Nat))) w:=by
 have e:(a:Int)+(b:Int)=(r:Nat):=by omega
 have e3:IntKind.u64.wrap (r:Int)=(r:Nat):=by rw [IntKind.wrap_u64];omega
 simp [execOp,hx,hy,go_sem,e,e3]
end
theorem At.word {w:World} {g X k:Nat} {t:TypeId} (hk:k<4) (h:At w g t (ncs X)):w.cell? ⟨g,k,none⟩=some (.int .u64 (wd X k)):=by
 rw [h.cell k]
 match k,hk with
 | 0,_=>rfl
 | 1,_=>rfl
 | 2,_=>rfl
 | 3,_=>rfl
theorem add_in (Q p k j:Nat) (hp:p<256) (hk:k=p/64) (hj:j=p%64):wd (Q*2^(p+1)) k+2^j=wd ((2*Q+1)*2^p) k∧∀ i,i≠k→wd ((2*Q+1)*2^p) i=wd (Q*2^(p+1)) i:=by
 obtain ⟨b1,b2,b3⟩:=bit_in Q p 1 (Nat.le_refl _) k j hk hj
 refine ⟨?_,b3⟩
 rw [Nat.one_mul] at b1
 rw [← b1]
 refine (nat_join (j+1) _ _ ?_ (by rw [Nat.pow_succ];have:=Nat.two_pow_pos j;omega)).symm
 have e:Q*2^(p+1)=18446744073709551616^k*(Q*2^(j+1)):=by
  rw [Jip,show p+1=64*k+(j+1) by omega,Nat.pow_add];ac_rfl
 unfold wd
 rw [e,Nat.mul_div_cancel_left _ (Nat.pow_pos (by decide))]
 have dv:(2:Nat)^(j+1)∣18446744073709551616:=by
  rw [show (18446744073709551616:Nat)=2^64 from rfl];exact Nat.pow_dvd_pow 2 (by omega)
 rw [Nat.mod_mod_of_dvd _ dv,Nat.mul_mod_left]
section
variable {P:Program} {ops:Array Oper} {Q:Exit→Act→World→Prop} {a:Act} {W:World} {cores:List Core}
theorem core_callW (c:Core) (f:FuncId) (fn:Func) (code:Code) (xs:List Operand) (us:List Value) (tys:Array TypeId) (ty:TypeId) (pos:String) (after:Array Edge) (u:Value)
  (ho:ops[c.i]? = some ⟨some c.d,.call ⟨.value (.func f),xs.toArray,tys⟩,ty,pos,after,none⟩) (hf:P.funcs[f]? = some fn) (hn:(fn.name == "runtime.NumGoroutine")=false) (hb:fn.body=some code)
  (hk:c.kind=Kind.val u) (hx:Args a cores c.pre xs us)
  (C:∀ w,Below W.heap.size W w→Calls P f us.toArray w fun e w'=>e=.returned u∧Below w.heap.size w w'):Va P ops Q a W cores c:=by
 intro vs w hl hbw hp o ho' K hK
 rw [ho] at ho'
 obtain rfl:=Option.some.inj ho'
 refine Ky rfl ?_
 have hargs:xs.toArray.map (over a (cores.map (·.d)) vs).eval=us.toArray:=by
  rw [List.map_toArray]
  congr 1
  clear ho C ho'
  induction hx with
  | nil=>rfl
  | cons h _ ih=>rw [List.map_cons,h vs w hl hp,ih]
 have hrun:∀ w,(execOp (over a (cores.map (·.d)) vs).eval ⟨some c.d,.call ⟨.value (.func f),xs.toArray,tys⟩,ty,pos,after,none⟩).run P w=.ok (.enter f us.toArray) w:=fun w=>by
  have h:=Wp hf hn hb us.toArray w
  simp only [execOp,resolve,hargs]
  simpa [Act.eval,Deferred.ofValue,invoke,go_sem] using h
 unfold Oper.wp
 rw [hrun w,Oper.upon_enter]
 refine (C w hbw).mono fun e w' ⟨he,hb⟩=>?_
 subst he
 exact hK.out u w' hb (by rw [hk];exact rfl) (fun h=>by rw [hk] at h;cases h)
end

theorem slice_low_run (dst:Option Tmp) (ty:TypeId) (pos:String) (after:Array Edge) (gd:Option (Nat × Bool)) (x:Operand) (ρ:Operand→Value) (w:World) (g:Nat) (hx:ρ x=.pointer (some ⟨g,0,none⟩)) (hc:ρ (.const (.int .i64 16))=.int .i64 16) :
  (execOp ρ ⟨dst,.slice 265 x none (some (.const (.int .i64 16))) none,ty,pos,after,gd⟩).run Tryz.prog w=.ok (.value (.slice (some ⟨g,0,none⟩) 16 32)) w:=by
 simp [execOp,hx,hc,go_sem]
theorem slice_high_run (dst:Option Tmp) (ty:TypeId) (pos:String) (after:Array Edge) (gd:Option (Nat × Bool)) (x:Operand) (ρ:Operand→Value) (w:World) (g:Nat) (hx:ρ x=.pointer (some ⟨g,0,none⟩)) (hc:ρ (.const (.int .i64 16))=.int .i64 16) :
  (execOp ρ ⟨dst,.slice 265 x (some (.const (.int .i64 16))) none none,ty,pos,after,gd⟩).run Tryz.prog w=.ok (.value (.slice (some ⟨g,16,none⟩) 16 16)) w:=by
 simp [execOp,hx,hc,go_sem]

theorem rmul_num (x y m c:Nat) (hx:x<65536) (hy:y<65536) (hm:m<65536) (hc:c<65536):∃ n l c':Nat,n=m+x*y+c∧l=n%65536∧c'=n/65536∧l<65536∧c'<65536∧n<4294967296∧x*y<4294836226∧x*y+m+c=l+65536*c':=by
 have:x*y≤65535*65535:=Nat.mul_le_mul (by omega) (by omega)
 exact ⟨_,_,_,rfl,rfl,rfl,by omega,by omega,by omega,by omega,by omega⟩

def rmulRes (X Y:Nat) (e:Ending):Prop:=∃ L H:Nat,e=.returned (.tuple #[num L,num H])∧L<65536^16∧H<65536^16∧X*Y=L+65536^16*H
theorem rmul_walk (X Y:Nat) (hX:X<2^256) (hY:Y<2^256) (w:World):Calls Tryz.prog 205 #[num X,num Y] w fun e w'=>rmulRes X Y e∧Below w.heap.size w w':=by
 have CX:=Xo X;have CY:=Xo Y
 have HCX:=Jja CX;have HCY:=Jja CY
 clear CX CY
 have HX:=Jja hX;have HY:=Jja hY;clear hX hY
 go_enter Tryz.func205,Tryz.ntmps205
 go_wp2_with fail
 have BW:=Jja (Below.refl w.heap.size w)
 generalize hW1:((((w.alloc (.cells (ncs X) 24)).alloc (.cells (ncs Y) 24)).alloc (.cells #[.int .u64 0,.int .u64 0,.int .u64 0,.int .u64 0] 24)).alloc (.cells #[.int .u64 0,.int .u64 0,.int .u64 0,.int .u64 0] 24))=W1 at *
 have Na:At W1 (w.heap.size) _ _:=Jf hW1 ((((At.at_ _ _ _ _ (by simp)).alloc _).alloc _).alloc _)
 have Nb:At W1 (w.heap.size+1) _ _:=Jf hW1 (((At.at_ _ _ _ _ (by simp)).alloc _).alloc _)
 have Np:At W1 (w.heap.size+1+1) _ _:=Jf hW1 ((At.at_ _ _ _ _ (by simp)).alloc _)
 have Ep:w.heap.size≤w.heap.size+1+1:=by have:=BW.out.size;omega
 have Dap:w.heap.size≠w.heap.size+1+1:=by omega
 have Dbp:w.heap.size+1≠w.heap.size+1+1:=by omega
 have Nq:At W1 (w.heap.size+1+1+1) _ _:=Jf hW1 (At.at_ _ _ _ _ (by simp))
 have Eq:w.heap.size≤w.heap.size+1+1+1:=by have:=BW.out.size;omega
 have Daq:w.heap.size≠w.heap.size+1+1+1:=by omega
 have Dbq:w.heap.size+1≠w.heap.size+1+1+1:=by omega
 have Dpq:w.heap.size+1+1≠w.heap.size+1+1+1:=by omega
 have NB:=Ka hW1 (Jd (Jd (Jd (Jd BW.out _) _) _) _)
 clear BW
 clear hW1
 generalize w.heap.size+1+1+1=gq at *
 generalize w.heap.size+1+1=gp at *
 generalize w.heap.size+1=gb at *
 obtain ⟨ga,hg0⟩:∃ g,g=w.heap.size:=⟨_,rfl⟩
 rw [← hg0] at Na ⊢
 rw [← hg0] at Dap Daq
 clear hg0
 have Fa:=Jja Na
 have Fb:=Jja Nb
 have Fp:=Jja Np
 have Fq:=Jja Nq
 have BW:=Jja NB
 clear NB Na Nb Np Nq
 refine (HCX.out _).mono ?_
 rintro e v2 ⟨rfl,z2⟩
 have Na:=Jja (Fa.out.on z2)
 have Nb:=Jja (Fb.out.on z2)
 have Np:=Jja (Fp.out.on z2)
 have Nq:=Jja (Fq.out.on z2)
 have NB:=Jja (Jr BW.out z2)
 clear BW z2 Fa Fb Fp Fq
 have Fa:=Na
 have Fb:=Nb
 have Fp:=Np
 have Fq:=Nq
 have BW:=NB
 clear NB Na Nb Np Nq
 have Lb:=Fb.out.lt
 have cb0:=Fb.out.c0;have cb1:=Fb.out.c1;have cb2:=Fb.out.c2;have cb3:=Fb.out.c3
 go_wp2_with fail
 generalize hW3:(v2.alloc (.cells #[.int .u64 (dg X 0),.int .u64 (dg X 1),.int .u64 (dg X 2),.int .u64 (dg X 3),.int .u64 (dg X 4),.int .u64 (dg X 5),.int .u64 (dg X 6),.int .u64 (dg X 7),.int .u64 (dg X 8),.int .u64 (dg X 9),.int .u64 (dg X 10),.int .u64 (dg X 11),.int .u64 (dg X 12),.int .u64 (dg X 13),.int .u64 (dg X 14),.int .u64 (dg X 15)] 239))=W3 at *
 clear Lb cb0 cb1 cb2 cb3
 have Nx:At W3 (v2.heap.size) _ _:=Jf hW3 (At.at_ _ _ _ _ (by simp))
 have Dpx:gp≠v2.heap.size:=by have:=Fp.out.lt;omega
 have Dqx:gq≠v2.heap.size:=by have:=Fq.out.lt;omega
 have Na:=Jf hW3 (Fa.out.alloc _)
 have Nb:=Jf hW3 (Fb.out.alloc _)
 have Np:=Jf hW3 (Fp.out.alloc _)
 have Nq:=Jf hW3 (Fq.out.alloc _)
 have NB:=Ka hW3 (Jd BW.out _)
 clear BW Fa Fb Fp Fq
 clear hW3
 generalize v2.heap.size=gx at *
 have Fa:=Jja Na
 have Fb:=Jja Nb
 have Fp:=Jja Np
 have Fq:=Jja Nq
 have Fx:=Jja Nx
 have BW:=Jja NB
 clear NB Na Nb Np Nq Nx
 refine (HCY.out _).mono ?_
 rintro e v4 ⟨rfl,z4⟩
 have Na:=Jja (Fa.out.on z4)
 have Nb:=Jja (Fb.out.on z4)
 have Np:=Jja (Fp.out.on z4)
 have Nq:=Jja (Fq.out.on z4)
 have Nx:=Jja (Fx.out.on z4)
 have NB:=Jja (Jr BW.out z4)
 clear BW z4 Fa Fb Fp Fq Fx
 have Fa:=Na
 have Fb:=Nb
 have Fp:=Np
 have Fq:=Nq
 have Fx:=Nx
 have BW:=NB
 clear NB Na Nb Np Nq Nx
 go_wp2_with fail
 generalize hW5:((v4.alloc (.cells #[.int .u64 (dg Y 0),.int .u64 (dg Y 1),.int .u64 (dg Y 2),.int .u64 (dg Y 3),.int .u64 (dg Y 4),.int .u64 (dg Y 5),.int .u64 (dg Y 6),.int .u64 (dg Y 7),.int .u64 (dg Y 8),.int .u64 (dg Y 9),.int .u64 (dg Y 10),.int .u64 (dg Y 11),.int .u64 (dg Y 12),.int .u64 (dg Y 13),.int .u64 (dg Y 14),.int .u64 (dg Y 15)] 239)).alloc (.cells #[.int .u64 0,.int .u64 0,.int .u64 0,.int .u64 0,.int .u64 0,.int .u64 0,.int .u64 0,.int .u64 0,.int .u64 0,.int .u64 0,.int .u64 0,.int .u64 0,.int .u64 0,.int .u64 0,.int .u64 0,.int .u64 0,.int .u64 0,.int .u64 0,.int .u64 0,.int .u64 0,.int .u64 0,.int .u64 0,.int .u64 0,.int .u64 0,.int .u64 0,.int .u64 0,.int .u64 0,.int .u64 0,.int .u64 0,.int .u64 0,.int .u64 0,.int .u64 0] 265))=W5 at *
 have Ny:At W5 (v4.heap.size) _ _:=Jf hW5 ((At.at_ _ _ _ _ (by simp)).alloc _)
 have Dpy:gp≠v4.heap.size:=by have:=Fp.out.lt;omega
 have Dqy:gq≠v4.heap.size:=by have:=Fq.out.lt;omega
 have Nd:At W5 (v4.heap.size+1) _ _:=Jf hW5 (At.at_ _ _ _ _ (by simp))
 have Ed:w.heap.size≤v4.heap.size+1:=by have:=BW.out.size;omega
 have Dad:ga≠v4.heap.size+1:=by have:=Fa.out.lt;omega
 have Dbd:gb≠v4.heap.size+1:=by have:=Fb.out.lt;omega
 have Dpd:gp≠v4.heap.size+1:=by have:=Fp.out.lt;omega
 have Dqd:gq≠v4.heap.size+1:=by have:=Fq.out.lt;omega
 have Dxd:gx≠v4.heap.size+1:=by have:=Fx.out.lt;omega
 have Dyd:v4.heap.size≠v4.heap.size+1:=by omega
 have Na:=Jf hW5 ((Fa.out.alloc _).alloc _)
 have Nb:=Jf hW5 ((Fb.out.alloc _).alloc _)
 have Np:=Jf hW5 ((Fp.out.alloc _).alloc _)
 have Nq:=Jf hW5 ((Fq.out.alloc _).alloc _)
 have Nx:=Jf hW5 ((Fx.out.alloc _).alloc _)
 have NB:=Ka hW5 (Jd (Jd BW.out _) _)
 clear BW Fa Fb Fp Fq Fx
 clear hW5
 generalize v4.heap.size+1=gd at *
 generalize v4.heap.size=gy at *
 have Fa:=Jja Na
 have Fb:=Jja Nb
 have Fp:=Jja Np
 have Fq:=Jja Nq
 have Fx:=Jja Nx
 have Fy:=Jja Ny
 have Fd:=Jja Nd
 have BW:=Jja NB
 clear NB Na Nb Np Nq Nx Ny Nd
 clear Fa
 clear Fb
 go_loopw [9] (fun s wr=>∃ (i:Nat) (L:List Nat),i≤16∧s=.int .i64 (i:Nat)∧Hid (At wr gx 239 (ws (ds X))∧At wr gy 239 (ws (ds Y))∧At wr gp 24 #[.int .u64 0,.int .u64 0,.int .u64 0,.int .u64 0]∧At wr gq 24 #[.int .u64 0,.int .u64 0,.int .u64 0,.int .u64 0]∧At wr gd 265 (ws L)∧Below w.heap.size w wr∧L.length=32∧(∀ x∈L,x<65536)∧(∀ k,i+16≤k→L.getD k 0=0)∧lv 65536 L=X%65536^i*Y)) (fun s _=>16-(intOf s).toNat)
 case atStart=>
  refine ⟨0,List.replicate 32 0,by omega,rfl,⟨Fx.out,Fy.out,Fp.out,Fq.out,Fd.out,BW.out,by simp,fun x hx=>by rw [List.eq_of_mem_replicate hx];omega,fun k _=>?_,by simp [lv,Nat.mod_one]⟩⟩
  simp only [List.getD,List.getElem?_replicate];split <;> rfl
 case round=>
  obtain ⟨i,L,hi,rfl,hH⟩:=hrel
  clear Fx Fy Fp Fq Fd BW
  by_cases hlt:i<16
  ·have i0:(0:Int)≤(i:Int):=by omega
   have i16:(i:Int)<16:=by omega
   go_wp2_with fail
   go_loopw [10,11] (fun c s wr=>∃ (j cc:Nat) (L:List Nat),j≤16∧c=.int .u64 (cc:Nat)∧s=.int .i64 (j:Nat)∧Hid (At wr gx 239 (ws (ds X))∧At wr gy 239 (ws (ds Y))∧At wr gp 24 #[.int .u64 0,.int .u64 0,.int .u64 0,.int .u64 0]∧At wr gq 24 #[.int .u64 0,.int .u64 0,.int .u64 0,.int .u64 0]∧At wr gd 265 (ws L)∧Below w.heap.size w wr∧L.length=32∧(∀ x∈L,x<65536)∧(∀ k,i+16≤k→L.getD k 0=0)∧cc<65536∧lv 65536 L+65536^(i+j)*cc=X%65536^i*Y+65536^i*(dg X i*(Y%65536^j)))) (fun _ s _=>16-(intOf s).toNat)
   case atStart=>exact ⟨0,0,L,by omega,rfl,rfl,hH.out.1,hH.out.2.1,hH.out.2.2.1,hH.out.2.2.2.1,hH.out.2.2.2.2.1,hH.out.2.2.2.2.2.1,hH.out.2.2.2.2.2.2.1,hH.out.2.2.2.2.2.2.2.1,hH.out.2.2.2.2.2.2.2.2.1,by omega,by rw [hH.out.2.2.2.2.2.2.2.2.2];simp [Nat.mod_one]⟩
   case round=>
    clear hH
    obtain ⟨j,cc,M,hj,rfl,rfl,hM⟩:=hrel
    obtain ⟨Ax,Ay,Ap,Aq,Ad,AB,hlen,hbd,hze,hcc,hinv⟩:=hM.out
    have HAx:=Jja Ax;have HAy:=Jja Ay;have HAp:=Jja Ap;have HAq:=Jja Aq;have HAd:=Jja Ad;have HAB:=Jja AB;have HLEN:=Jja hlen;have HBD:=Jja hbd;have HZE:=Jja hze;have HCC:=Jja hcc;have HINV:=Jja hinv
    clear Ax Ay Ap Aq Ad AB hlen hbd hze hinv hM hcc
    by_cases hjt:j<16
    ·have hml:=Jhg HBD.out (i+j) (by rw [HLEN.out];omega)
     obtain ⟨n,l,c',hn,hl,hc',hll,hcl,hnl,hxy,hst⟩:=rmul_num (dg X i) (dg Y j) (M.getD (i+j) 0) cc (Jbp X i) (Jbp Y j) hml HCC.out
     have fx:wr.drew.cell? ⟨gx,i,none⟩=some (.int .u64 (dg X i)):=by rw [HAx.out.drew.cell,Wx _ _ (by rw [Jfk];omega),Jfl X i hlt]
     have fy:wr.drew.cell? ⟨gy,j,none⟩=some (.int .u64 (dg Y j)):=by rw [HAy.out.drew.cell,Wx _ _ (by rw [Jfk];omega),Jfl Y j hjt]
     have fd:wr.drew.cell? ⟨gd,i+j,none⟩=some (.int .u64 (M.getD (i+j) 0:Nat)):=by rw [HAd.out.drew.cell,Wx _ _ (by rw [HLEN.out];omega)]
     have ff:wr.drew.frozen? ⟨gd,i+j,none⟩=false:=HAd.out.drew.frozen (i+j)
     have hcc:=HCC.out
     have j0:(0:Int)≤(j:Int):=by omega
     have j16:(j:Int)<16:=by omega
     obtain ⟨s,hs⟩:∃ s,s=i+j:=⟨_,rfl⟩
     have v0:IntKind.i64.wrap ((i:Int)+(j:Int))=(s:Nat):=by rw [IntKind.wrap_i64];omega
     have v0b:(i:Int)+(j:Int)=(s:Nat):=by omega
     have v0c:IntKind.i64.wrap ((s:Nat):Int)=(s:Nat):=by rw [IntKind.wrap_i64];omega
     have s0:(0:Int)≤(s:Int):=by omega
     have s32:(s:Int)<32:=by omega
     have hmx:=Jbp X i
     have hmy:=Jbp Y j
     rw [← hs] at fd ff hn hst hml
     obtain ⟨m,hm⟩:∃ m,M.getD s 0=m:=⟨_,rfl⟩
     rw [hm] at fd hn hst hml
     have v1:IntKind.u64.wrap (((dg X i:Nat):Int)*((dg Y j:Nat):Int))=((dg X i*dg Y j:Nat):Int):=by rw [← Int.natCast_mul,IntKind.wrap_u64];omega
     have v2:IntKind.u64.wrap ((m:Int)+((dg X i*dg Y j:Nat):Int))=((m+dg X i*dg Y j:Nat):Int):=by rw [IntKind.wrap_u64];omega
     have v3:IntKind.u64.wrap (((m+dg X i*dg Y j:Nat):Int)+(cc:Int))=(n:Nat):=by rw [hn,IntKind.wrap_u64];omega
     have v4:Int.tmod (n:Int) 65536=(l:Nat):=by rw [hl,Int.tmod_eq_emod_of_nonneg (by omega)];omega
     have v5:Int.tdiv (n:Int) 65536=(c':Nat):=by rw [hc',Int.tdiv_eq_ediv_of_nonneg (by omega)];omega
     have v4b:(n:Int)%65536=(l:Nat):=by omega
     have v5b:(n:Int)/65536=(c':Nat):=by omega
     have HST:=Jja hst;have HLL:=Jja hll;have HCL:=Jja hcl;have HS:=Jja hs;have HM:=Jja hm
     clear hst hn hl hc' hll hcl hs hm
     generalize hq1:m+dg X i*dg Y j=q1 at *
     generalize hq2:dg X i*dg Y j=q2 at *
     have HQ1:=Jja hq1;have HQ2:=Jja hq2
     clear hq1 hq2
     generalize hq3:dg X i=xi at *
     generalize hq4:dg Y j=yj at *
     have HQ3:=Jja hq3;have HQ4:=Jja hq4
     clear hq3 hq4
     go_wp2_with fail
     refine wp_region_still_tail 15 (by kernel_rfl) (by kernel_rfl) ?_
     simp only [List.take_succ_cons,List.take_zero,List.drop_succ_cons,List.drop_zero]
     change wpStill _ _ wr.drew (fun a'=>wpList _ _ _ _ a' wr.drew) _ _
     obtain ⟨wj,hwj⟩:∃ wj,wr.drew=wj:=⟨_,rfl⟩
     have hwj':=Jja hwj
     rw [hwj] at fx fy fd ff ⊢
     clear hwj
     repeat still_step
     refine wpStill_nil ?_
     go_wp2
     go_roundw
     case rel=>
      first
       | refine ⟨j+1,c',M.set s l,by omega,rfl,by go_num,?_⟩
       | ((repeat apply Exists.intro);refine ⟨⟨j+1,c',M.set s l,by omega,rfl,by go_num,?_⟩,rfl⟩)
      rw [← hwj'.out]
      have hs:=HS.out
      have nx:gx≠gd:=by first | exact Dxd | exact Ddx.symm
      have ny:gy≠gd:=by first | exact Dyd | exact Ddy.symm
      have np:gp≠gd:=by first | exact Dpd | exact Ddp.symm
      have nq:gq≠gd:=by first | exact Dqd | exact Ddq.symm
      refine ⟨HAx.out.drew.far (by exact fun e=>nx e.symm) _,HAy.out.drew.far (by exact fun e=>ny e.symm) _,HAp.out.drew.far (by exact fun e=>np e.symm) _,HAq.out.drew.far (by exact fun e=>nq e.symm) _,by rw [← Ve];exact HAd.out.drew.set _ _,HAB.out.drew.setCell Ed _,by rw [List.length_set];exact HLEN.out,fun x hx=>?_,fun k h1=>?_,HCL.out,?_⟩
      ·rcases List.mem_or_eq_of_mem_set hx with h | h
       ·exact HBD.out x h
       ·rw [h];exact HLL.out
      ·rw [Uy _ _ _ _ (by omega)];exact HZE.out k h1
      ·rw [hs]
       refine row_step _ _ _ _ cc _ _ _ _ M (by rw [HLEN.out];omega) HINV.out ?_
       rw [← hs,HM.out]
       have e:=HST.out
       rw [← HQ2.out,← HQ4.out] at e
       exact e
     case measure=>simp [intOf];omega
    ·obtain rfl:j=16:=by omega
     have fm:wr.cell? ⟨gd,i+16,none⟩=some (.int .u64 0):=by rw [HAd.out.cell,Wx _ _ (by rw [HLEN.out];omega),HZE.out (i+16) (by omega)];rfl
     have ff:wr.frozen? ⟨gd,i+16,none⟩=false:=HAd.out.frozen _
     have v0:IntKind.i64.wrap ((i:Int)+16)=(i:Int)+16:=by rw [IntKind.wrap_i64];omega
     go_wp2
     go_roundw
     case rel=>
      have nx:gx≠gd:=by first | exact Dxd | exact Ddx.symm
      have ny:gy≠gd:=by first | exact Dyd | exact Ddy.symm
      have np:gp≠gd:=by first | exact Dpd | exact Ddp.symm
      have nq:gq≠gd:=by first | exact Dqd | exact Ddq.symm
      have goalH:Hid (At (wr.setCell ⟨gd,i+16,none⟩ (.int .u64 (cc:Nat))) gx 239 (ws (ds X))∧At (wr.setCell ⟨gd,i+16,none⟩ (.int .u64 (cc:Nat))) gy 239 (ws (ds Y))∧At (wr.setCell ⟨gd,i+16,none⟩ (.int .u64 (cc:Nat))) gp 24 #[.int .u64 0,.int .u64 0,.int .u64 0,.int .u64 0]∧At (wr.setCell ⟨gd,i+16,none⟩ (.int .u64 (cc:Nat))) gq 24 #[.int .u64 0,.int .u64 0,.int .u64 0,.int .u64 0]∧At (wr.setCell ⟨gd,i+16,none⟩ (.int .u64 (cc:Nat))) gd 265 (ws (M.set (i+16) cc))∧Below w.heap.size w (wr.setCell ⟨gd,i+16,none⟩ (.int .u64 (cc:Nat)))∧(M.set (i+16) cc).length=32∧(∀ x∈M.set (i+16) cc,x<65536)∧(∀ k,i+1+16≤k→(M.set (i+16) cc).getD k 0=0)∧lv 65536 (M.set (i+16) cc)=X%65536^(i+1)*Y):=by
       have hy:=HY.out
       refine ⟨HAx.out.far (by exact fun e=>nx e.symm) _,HAy.out.far (by exact fun e=>ny e.symm) _,HAp.out.far (by exact fun e=>np e.symm) _,HAq.out.far (by exact fun e=>nq e.symm) _,by rw [← Ve];exact HAd.out.set _ _,HAB.out.setCell Ed _,by rw [List.length_set];exact HLEN.out,fun x hx=>?_,fun k h1=>?_,?_⟩
       ·rcases List.mem_or_eq_of_mem_set hx with h | h
        ·exact HBD.out x h
        ·rw [h];exact HCC.out
       ·rw [Uy _ _ _ _ (by omega)];exact HZE.out k (by omega)
       ·exact row_done _ X Y 16 i cc M (by omega) (by rw [HLEN.out];omega) (HZE.out (i+16) (by omega)) HINV.out
      first
       | exact ⟨i+1,M.set (i+16) cc,by omega,by go_num,goalH⟩
       | ((repeat apply Exists.intro);exact ⟨⟨i+1,M.set (i+16) cc,by omega,by go_num,goalH⟩,rfl⟩)
     case measure=>simp [intOf];omega
  ·obtain rfl:i=16:=by omega
   obtain ⟨Ax,Ay,Ap,Aq,Ad,AB,hlen,hbd,hze,hinv⟩:=hH.out
   have hx:=HX.out
   have hy:=HY.out
   rw [Nat.mod_eq_of_lt (show X<65536^16 by omega)] at hinv
   have happ:=Jff 65536 (L.take 16) (L.drop 16)
   rw [List.take_append_drop,List.length_take,Nat.min_eq_left (by omega),hinv] at happ
   have h1:=Jhs 65536 (L.take 16) (fun x hx=>hbd x (List.mem_of_mem_take hx))
   have h2:=Jhs 65536 (L.drop 16) (fun x hx=>hbd x (List.mem_of_mem_drop hx))
   rw [List.length_take,Nat.min_eq_left (by omega)] at h1
   rw [List.length_drop,hlen] at h2
   have C1:=fun w' (hb:Below wr.heap.size wr w')=>Jgb (L.take 16) (by rw [List.length_take];omega) (fun x hx=>hbd x (List.mem_of_mem_take hx)) gd 0 32 w' (fun k hk=>by
    rw [Nat.zero_add,(Ad.on hb).cell,Wx _ _ (by omega)];simp [List.getD,List.getElem?_take,hk])
   have C2:=fun w' (hb:Below wr.heap.size wr w')=>Jgb (L.drop 16) (by rw [List.length_drop];omega) (fun x hx=>hbd x (List.mem_of_mem_drop hx)) gd 16 16 w' (fun k hk=>by
    rw [(Ad.on hb).cell,Wx _ _ (by omega)];simp [List.getD,List.getElem?_drop])
   obtain ⟨A,hA⟩:∃ A,lv 65536 (L.take 16)=A:=⟨_,rfl⟩
   obtain ⟨B,hB⟩:∃ B,lv 65536 (L.drop 16)=B:=⟨_,rfl⟩
   rw [hA] at C1 happ h1
   rw [hB] at C2 happ h2
   have HC1:=Jja C1;have HC2:=Jja C2;have HAPP:=Jja happ;have HH1:=Jja h1;have HH2:=Jja h2
   have Fp:=Jja Ap;have Fq:=Jja Aq;have BW:=Jja AB;have Fd:=Jja Ad
   clear C1 C2 happ h1 h2 hA hB Ap Aq AB Ad Ax Ay hlen hbd hze hinv hH hx hy
   go_wp2_with fail
   try simp only [List.append_eq,List.cons_append,List.nil_append]
   refine wp_region_noPanic ?_
   refine wp_region_held_drew (S:=fun w'=>True) (by kernel_rfl) (trivial) (fun _=>?_)
   refine Jy (fuel:=2) (⟨0,52,[],Kind.val (.slice (some ⟨gd,0,none⟩) 16 32),true⟩::⟨1,53,[0],Kind.val (num A),false⟩::⟨2,54,[],Kind.val (.slice (some ⟨gd,16,none⟩) 16 16),true⟩::⟨3,55,[2,1],Kind.val (num B),false⟩::[]) _ _ wr _ ?_ ?_ ?_ ?_ ?_ ?_ ?_ ?_ ?_ ?_ ?_
   ·rfl
   ·kernel_rfl
   ·exact of_decide_eq_true rfl
   ·(repeat refine all_cons ⟨_,rfl,rfl⟩ ?_);exact all_nil
   ·exact fun _ hb=>trivial
   ·exact (Below.refl _ _).drew
   ·kernel_rfl
   ·exact fun _ _ _ _ _ h=>h
   ·(repeat (refine all_cons ?_ ?_;rotate_left));exact all_nil
    ·exact Xc _ _ _ _ _ _ (by rfl) (by rfl) (fun vs w hl hp w'=>slice_low_run _ _ _ _ _ _ _ w' gd ((show Vc _ _ [] (.tmp 8) (.pointer (some ⟨gd,0,none⟩)) from Jcg 8 _ (of_decide_eq_true (by rfl)) (by rfl)) vs w hl (fun _ h=>by cases h)) rfl)
    ·exact Jm _ (by rfl)
    ·exact Xc _ _ _ _ _ _ (by rfl) (by rfl) (fun vs w hl hp w'=>slice_high_run _ _ _ _ _ _ _ w' gd ((show Vc _ _ [] (.tmp 8) (.pointer (some ⟨gd,0,none⟩)) from Jcg 8 _ (of_decide_eq_true (by rfl)) (by rfl)) vs w hl (fun _ h=>by cases h)) rfl)
    ·exact Jm _ (by rfl)
   ·(repeat (refine all_cons ?_ ?_;rotate_left));exact all_nil
    ·exact sA
    ·exact fun _=>core_callW _ 184 _ _ [.tmp 52] _ _ _ _ _ _ (by rfl) Tryz.func184 (by kernel_rfl) (by rfl) (by rfl) (.cons (kc 0 52) .nil) (HC1.out)
    ·exact sA
    ·exact fun _=>core_callW _ 184 _ _ [.tmp 54] _ _ _ _ _ _ (by rfl) Tryz.func184 (by kernel_rfl) (by rfl) (by rfl) (.cons (kc 2 54) .nil) (HC2.out)
   intro vs y51 hc
   obtain ⟨vv0,vv1,vv2,vv3,rfl⟩:=Jiu vs hc.lv
   have qq0:=okv hc 0
   have qq1:=okv hc 1
   have qq2:=okv hc 2
   have qq3:=okv hc 3
   have BZ:=hc.bel
   clear hc
   have Np:=Fp.out.on BZ
   have Nq:=Fq.out.on BZ
   have HSZ51:=BW.out.size
   have NB:=Jr BW.out BZ
   clear BW BZ Fp Fq
   subst qq0 qq1 qq2 qq3
   simp only [List.map_cons,List.map_nil,over,Act.put,List.setIfInBounds_toArray,List.set_cons_zero,List.set_cons_succ]
   have OLD:=Np
   replace Np:=p4a Np A
   replace Nq:=p4f Nq Dpq.symm A
   replace NB:=p4b NB Ep A
   refine Vg (i:=4) _ _ _ _ _ gp _ _ _ _ _ _ _ _ (by kernel_rfl) (by rfl) (by rfl) (by rfl) OLD (trivial) ?_
   clear OLD
   generalize (put4 y51 gp (.int .u64 (wd A 0)) (.int .u64 (wd A 1)) (.int .u64 (wd A 2)) (.int .u64 (wd A 3)))=y51_4 at *
   have OLD:=Nq
   replace Np:=p4f Np Dpq B
   replace Nq:=p4a Nq B
   replace NB:=p4b NB Eq B
   refine Vg (i:=5) _ _ _ _ _ gq _ _ _ _ _ _ _ _ (by kernel_rfl) (by rfl) (by rfl) (by rfl) OLD (trivial) ?_
   clear OLD
   generalize (put4 y51_4 gq (.int .u64 (wd B 0)) (.int .u64 (wd B 1)) (.int .u64 (wd B 2)) (.int .u64 (wd B 3)))=y51_5 at *
   refine wpAnyH_done (by kernel_rfl) ?_ _
   refine NoPanic.normal ?_
   have Fp:=Jja Np
   have Fq:=Jja Nq
   have BW:=Jja NB
   clear NB Np Nq
   clear HSZ51
   have Lp:=Fp.out.lt
   have cp0:=Fp.out.c0;have cp1:=Fp.out.c1;have cp2:=Fp.out.c2;have cp3:=Fp.out.c3
   have Lq:=Fq.out.lt
   have cq0:=Fq.out.c0;have cq1:=Fq.out.c1;have cq2:=Fq.out.c2;have cq3:=Fq.out.c3
   go_wp2_with fail
   refine bodyPost_ret (v:=.tuple #[num A,num B]) (by simp [results,Tryz.results205,go_sem, *]) rfl ⟨⟨A,B,rfl,HH1.out,HH2.out,HAPP.out⟩,BW.out⟩

theorem rmul_any (X Y L H:Nat) (hX:X<2^256) (hY:Y<2^256) (hL:L<2^256) (hH:H<2^256) (he:X*Y=L+2^256*H) (w:World):Calls Tryz.prog 205 #[num X,num Y] w fun e w'=>e=.returned (.tuple #[num L,num H])∧Below w.heap.size w w':=by
 refine (rmul_walk X Y hX hY w).mono ?_
 rintro e w' ⟨⟨L',H',rfl,h1,h2,h3⟩,hb⟩
 have e1:L'=L∧H'=H:=by omega
 obtain ⟨rfl,rfl⟩:=e1
 exact ⟨rfl,hb⟩
end Go.Proofs.YtmmgmljkmmgjdaaGreatDoor
