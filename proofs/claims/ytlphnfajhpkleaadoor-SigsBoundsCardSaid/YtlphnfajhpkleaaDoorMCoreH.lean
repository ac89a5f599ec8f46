/-
 limbs.Of and limbs.Cmp;==of two long numbers.
-/
import Derived.Laws.BitsLemmas
import Derived.Test.YtlphnfajhpkleaaDoorMSet
import Derived.Test.YtlphnfajhpkleaaDoorMSmall
namespace Go.Proofs.YtlphnfajhpkleaaDoor
open Go.RowKit
set_option linter.unusedSimpArgs false
set_option linter.unusedVariables false
attribute [local go_sem ↓] Go.wp_at_zero Go.wp_at_succ

/-- two long numbers,held against each other -/
theorem eqW (a b c d a' b' c' d':Int) (w:World):(Op.equalIn 10000 24 (.agg #[.int .u64 a,.int .u64 b,.int .u64 c,.int .u64 d]) (.agg #[.int .u64 a',.int .u64 b',.int .u64 c',.int .u64 d'])).run Tryd.prog w=.ok (decide (a=a'∧b=b'∧c=c'∧d=d')) w:=by
 have u3:=Tryd.underlying22
 have a3:=Tryd.isAgg22
 have z3:=Tryd.sizeOf22
 rw [show (10000:Nat)=9999+1 from rfl,Op.equalIn]
 simp only [Sem.run_bind,run_underlying Tryd.underlying24,Result.andThen_ok]
 simp only [Std.Legacy.Range.forIn_eq_forIn_range',Std.Legacy.Range.size,Nat.sub_zero,Nat.add_sub_cancel,Nat.div_one,List.range'_succ,List.range'_zero,List.forIn_cons,List.forIn_nil]
 go_simp
 by_cases h1:a=a' <;> by_cases h2:b=b' <;> by_cases h3:c=c' <;> by_cases h4:d=d' <;> simp [h1,h2,h3,h4]

theorem eqN (X Y:Nat) (hX:X<2^256) (hY:Y<2^256) (w:World):(Op.equalIn 10000 24 (num X) (num Y)).run Tryd.prog w=.ok (decide (X=Y)) w:=by
 rw [eqW]
 congr 1
 rw [decide_eq_decide,← wd_eq X Y hX hY]
 omega

/-- limbs.Of -/
theorem of_any (x:Nat) (hx:x<18446744073709551616) (w:World):Calls Tryd.prog 30 #[.int .u64 (x:Nat)] w fun e w'=>e=.returned (num x)∧Below w.heap.size w w':=by
 rw [← num_of x 0 0 0 hx (by omega) (by omega) (by omega) x (by omega)]
 go_enter Tryd.func30,Tryd.ntmps30
 go_wp2
 exact bodyPost_ret (v:=.agg #[.int .u64 (x:Nat),.int .u64 0,.int .u64 0,.int .u64 0]) (by simp [results,Tryd.results30,go_sem]) rfl
  ⟨rfl,by repeat (first | exact Below.refl _ _ | refine gr_alloc ?_ _ | refine Below.drew ?_ | refine gr_drewN ?_ _ | refine bel_tr ?_ (by assumption))⟩

/-- what Cmp tells -/
def cmpN (X Y:Nat):Int:=if X<Y then -1 else if X=Y then 0 else 1
theorem cmpN_lt {X Y:Nat} (h:X<Y):cmpN X Y=-1:=by unfold cmpN;rw [if_pos h]
theorem cmpN_eq (X:Nat):cmpN X X=0:=by unfold cmpN;simp
theorem cmpN_gt {X Y:Nat} (h:Y<X):cmpN X Y=1:=by unfold cmpN;rw [if_neg (by omega),if_neg (by omega)]

set_option maxHeartbeats 1000000 in
/-- limbs.Cmp -/
theorem cmp_any (X Y:Nat) (hX:X<2^256) (hY:Y<2^256) (w:World):Calls Tryd.prog 12 #[num X,num Y] w fun e w'=>e=.returned (.int .i64 (cmpN X Y))∧Below w.heap.size w w':=by
 obtain ⟨S,c,hS,hc,he,C⟩:=sub_ex X Y hX hY
 have C':=Lib.hid C
 rcases Nat.lt_trichotomy X Y with h | h | h
 ·rw [cmpN_lt h]
  have h1:c=1:=by omega
  subst h1
  have eq:∀ w,(Op.equalIn 10000 24 (num X) (num Y)).run Tryd.prog w=.ok false w:=fun w=>by rw [eqN X Y hX hY];simp;omega
  clear C he hS hc h
  go_enter Tryd.func12,Tryd.ntmps12
  go_wp2_with (first | simp only [eq] | (refine (C'.out _).mono ?_;rintro e w1 ⟨rfl,z1⟩))
  go_ret
  exact ⟨rfl,by repeat (first | exact Below.refl _ _ | refine gr_alloc ?_ _ | refine Below.drew ?_ | refine gr_drewN ?_ _ | refine bel_tr ?_ (by assumption))⟩
 ·subst h
  rw [cmpN_eq]
  have eq:∀ w,(Op.equalIn 10000 24 (num X) (num X)).run Tryd.prog w=.ok true w:=fun w=>by rw [eqN X X hX hX];simp
  go_enter Tryd.func12,Tryd.ntmps12
  go_wp2_with (simp only [eq])
  go_ret
  exact ⟨rfl,by repeat (first | exact Below.refl _ _ | refine gr_alloc ?_ _ | refine Below.drew ?_ | refine gr_drewN ?_ _ | refine bel_tr ?_ (by assumption))⟩
 ·rw [cmpN_gt h]
  have h1:c=0:=by omega
  subst h1
  have eq:∀ w,(Op.equalIn 10000 24 (num X) (num Y)).run Tryd.prog w=.ok false w:=fun w=>by rw [eqN X Y hX hY];simp;omega
  clear C he hS hc h
  go_enter Tryd.func12,Tryd.ntmps12
  go_wp2_with (first | simp only [eq] | (refine (C'.out _).mono ?_;rintro e w1 ⟨rfl,z1⟩))
  go_ret
  exact ⟨rfl,by repeat (first | exact Below.refl _ _ | refine gr_alloc ?_ _ | refine Below.drew ?_ | refine gr_drewN ?_ _ | refine bel_tr ?_ (by assumption))⟩
end Go.Proofs.YtlphnfajhpkleaaDoor

/-
 A long number stored into a block that is just its words: one step.
-/
namespace Go.Proofs.YtlphnfajhpkleaaDoor
open Go.RowKit
set_option linter.unusedSimpArgs false
set_option linter.unusedVariables false

/-- block g holds four words now -/
def put4 (w:World) (g:Nat) (a b c d:Value):World:=(((w.setCell ⟨g,0,none⟩ a).setCell ⟨g,1,none⟩ b).setCell ⟨g,2,none⟩ c).setCell ⟨g,3,none⟩ d

theorem store_run (x y:Operand) (dst:Option Tmp) (ty:TypeId) (pos:String) (after:Array Edge) (guard:Option (Nat × Bool)) (ρ:Operand→Value) (w:World) (g:Nat) (u0 u1 u2 u3:Value) (a b c d:Int)
  (hx:ρ x=.pointer (some ⟨g,0,none⟩)) (hy:ρ y=.agg #[.int .u64 a,.int .u64 b,.int .u64 c,.int .u64 d]) (h:At w g 24 #[u0,u1,u2,u3]) :
  (execOp ρ ⟨dst,.store 24 x y,ty,pos,after,guard⟩).run Tryd.prog w=.ok .skip (put4 w g (.int .u64 a) (.int .u64 b) (.int .u64 c) (.int .u64 d)):=by
 have c0:w.cell? ⟨g,0,none⟩=some u0:=h.cell 0
 have c1:w.cell? ⟨g,1,none⟩=some u1:=h.cell 1
 have c2:w.cell? ⟨g,2,none⟩=some u2:=h.cell 2
 have c3:w.cell? ⟨g,3,none⟩=some u3:=h.cell 3
 have f0:w.frozen? ⟨g,0,none⟩=false:=h.frozen 0
 have f1:w.frozen? ⟨g,1,none⟩=false:=h.frozen 1
 have f2:w.frozen? ⟨g,2,none⟩=false:=h.frozen 2
 have f3:w.frozen? ⟨g,3,none⟩=false:=h.frozen 3
 unfold put4
 simp [execOp,hx,hy,go_sem,c0,c1,c2,c3,f0,f1,f2,f3]

theorem load_run (x:Operand) (dst:Option Tmp) (ty:TypeId) (pos:String) (after:Array Edge) (guard:Option (Nat × Bool)) (ρ:Operand→Value) (w:World) (g:Nat) (u0 u1 u2 u3:Value)
  (hx:ρ x=.pointer (some ⟨g,0,none⟩)) (h:At w g 24 #[u0,u1,u2,u3]) :
  (execOp ρ ⟨dst,.load 24 x,ty,pos,after,guard⟩).run Tryd.prog w=.ok (.value (.agg #[u0,u1,u2,u3])) w:=by
 have c0:w.cell? ⟨g,0,none⟩=some u0:=h.cell 0
 have c1:w.cell? ⟨g,1,none⟩=some u1:=h.cell 1
 have c2:w.cell? ⟨g,2,none⟩=some u2:=h.cell 2
 have c3:w.cell? ⟨g,3,none⟩=some u3:=h.cell 3
 simp [execOp,hx,go_sem,c0,c1,c2,c3]

theorem alloc_run (dst:Option Tmp) (ty:TypeId) (pos:String) (after:Array Edge) (guard:Option (Nat × Bool)) (ρ:Operand→Value) (w:World) :
  (execOp ρ ⟨dst,.alloc 24,ty,pos,after,guard⟩).run Tryd.prog w=.ok (.value (.pointer (some ⟨w.heap.size,0,none⟩))) (w.alloc (.cells #[.int .u64 0,.int .u64 0,.int .u64 0,.int .u64 0] 24)):=by
 simp [execOp,go_sem]

section
variable {P:Program} {o:Oper} {a:Act} {K:Act→World→Prop} {Q:Exit→Act→World→Prop} {w w':World}
theorem wp_of_run_value {v:Value} (h:(execOp a.eval o).run P w=.ok (.value v) w') (hK:K (a.put o.dst v) w'):Oper.wp P o a w K Q:=by
 unfold Oper.wp;rw [h];exact hK
theorem wp_of_run_skip (h:(execOp a.eval o).run P w=.ok .skip w') (hK:K (a.put o.dst undef) w'):Oper.wp P o a w K Q:=by
 unfold Oper.wp;rw [h];exact hK
theorem want_none {ops:Array Oper} {t:Array Value} {p q:Prop} (ho:o.guard=none) (h:p):if Region.wanted o (yielded ops t)=true then p else q:=by
 rw [if_pos];exact h
 unfold Region.wanted;rw [ho]
end
theorem put4_at {w:World} {g:Nat} {t:TypeId} {a b c d:Value} (h:At w g t #[a,b,c,d]) (a' b' c' d':Value):At (put4 w g a' b' c' d') g t #[a',b',c',d']:=h.put4 _ _ _ _
theorem put4_far {w:World} {g g':Nat} {t:TypeId} {cs:Array Value} (h:At w g t cs) (hne:g≠g') (a' b' c' d':Value):At (put4 w g' a' b' c' d') g t cs:=h.far4 hne _ _ _ _
theorem put4_below {W w:World} {n g:Nat} (h:Below n W w) (hg:n≤g) (a b c d:Value):Below n W (put4 w g a b c d):=
 (((h.setCell hg _).setCell hg _).setCell hg _).setCell hg _
end Go.Proofs.YtlphnfajhpkleaaDoor

/-
 The operations of a region that draws its order,one rule each: calls,copies,parts of tuples,loads,new blocks;and what stands behind them: stores and assignments.
-/
namespace Go.Proofs.YtlphnfajhpkleaaDoor
set_option maxRecDepth 100000
open Go.RowKit
set_option linter.unusedSimpArgs false
set_option linter.unusedVariables false

theorem over_out:∀ (ds:List Nat) (vs:List Value) (a:Act) (t:Nat),t ∉ ds→(over a ds vs).tmps.getD t undef=a.tmps.getD t undef
 | [],_,_,_,_=>by simp [over]
 | _::_,[],_,_,_=>by simp [over]
 | d::ds,v::vs,a,t,h=>by
  rw [over,over_out ds vs _ t (fun h'=>h (List.mem_cons_of_mem _ h'))]
  have:d≠t:=fun e=>h (by rw [e];simp)
  simp only [Act.put,Array.getD_eq_getD_getElem?]
  rw [Array.getElem?_setIfInBounds_ne this]
theorem over_size:∀ (ds:List Nat) (vs:List Value) (a:Act),(over a ds vs).tmps.size=a.tmps.size
 | [],_,_=>by simp [over]
 | _::_,[],_=>by simp [over]
 | d::ds,v::vs,a=>by rw [over,over_size ds vs];simp [Act.put]
theorem over_at:∀ (ds:List Nat) (vs:List Value) (a:Act) (k d:Nat) (v:Value),ds.Nodup→ds[k]? = some d→vs[k]? = some v→d<a.tmps.size→(over a ds vs).tmps.getD d undef=v
 | [],_,_,_,_,_,_,h,_,_=>by simp at h
 | _::_,[],_,_,_,_,_,_,h,_=>by simp at h
 | e::ds,u::vs,a,0,d,v,hn,h,hv,hd=>by
  simp only [List.getElem?_cons_zero,Option.some.injEq] at h hv
  subst h hv
  rw [over,over_out ds vs _ e (List.nodup_cons.1 hn).1]
  simp [Act.put,Array.getD,hd]
 | e::ds,u::vs,a,k+1,d,v,hn,h,hv,hd=>by
  rw [over]
  exact over_at ds vs _ k d v (List.nodup_cons.1 hn).2 (by simpa using h) (by simpa using hv) (by simpa [Act.put] using hd)

theorem all_nil {F:Core→Prop}:∀ c∈([]:List Core),F c:=fun _ h=>by cases h
theorem all_cons {F:Core→Prop} {c:Core} {cs:List Core} (h:F c) (hs:∀ c∈cs,F c):∀ c'∈c::cs,F c':=fun c' h'=>by
 rcases List.mem_cons.1 h' with rfl | h'
 ·exact h
 ·exact hs _ h'
/-- c's operation is o -/
def Has (ops:Array Oper) (c:Core):Prop:=∃ o,ops[c.i]? = some o∧o.dst=some c.d

section
variable {P:Program} {ops:Array Oper} {Q:Exit→Act→World→Prop} {md:Region.Mode} {S:World→Prop} {a:Act} {W:World} {cores:List Core}

/-- what an operand holds,as soon as 'pre' have come up -/
def Known (a:Act) (cores:List Core) (pre:List Nat) (x:Operand) (u:Value):Prop:=
 ∀ (vs:List Value) (w:World),Fit a cores vs→(∀ j∈pre,∀ d:Core,cores[j]? = some d→∃ v,vs[j]? = some v∧d.kind.p v w)→(over a (cores.map (·.d)) vs).eval x=u
theorem known_const {pre:List Nat} (v:Value):Known a cores pre (.const v) v:=fun _ _ _ _=>rfl
theorem known_core {pre:List Nat} (j t:Nat) (c:Core) (u:Value) (hj:j∈pre) (hc:cores[j]? = some c) (hk:c.kind=Kind.val u) (hd:c.d=t) :
  Known a cores pre (.tmp t) u:=fun vs w hl hp=>by
 obtain ⟨v,hv,hp⟩:=hp j hj c hc
 rw [hk] at hp
 have hp:v=u:=hp
 subst hp
 subst hd
 exact over_at _ _ _ j _ _ hl.nd (by rw [List.getElem?_map,hc];rfl) hv (hl.sz _ (List.mem_map_of_mem (List.mem_of_getElem? hc)))
theorem kc {pre:List Nat} (j t:Nat) {c:Core} {u:Value} (hj:j∈pre:=by exact of_decide_eq_true (by rfl)) (hc:cores[j]? = some c:=by rfl) (hk:c.kind=Kind.val u:=by rfl) (hd:c.d=t:=by rfl):Known a cores pre (.tmp t) u:=known_core j t c u hj hc hk hd
theorem known_old {pre:List Nat} (t:Nat) (u:Value) (ht:t ∉ cores.map (·.d)) (hu:a.tmps.getD t undef=u):Known a cores pre (.tmp t) u:=fun vs w _ _=>by
 show (over a _ vs).tmps.getD t undef=u
 rw [over_out _ _ _ _ ht,hu]

theorem ko {pre:List Nat} (t:Nat) {u:Value} (ht:t ∉ cores.map (·.d):=by exact of_decide_eq_true (by rfl)) (hu:a.tmps.getD t undef=u:=by rfl):Known a cores pre (.tmp t) u:=known_old t u ht hu
inductive Args (a:Act) (cores:List Core) (pre:List Nat):List Operand→List Value→Prop
 | nil:Args a cores pre [] []
 | cons {x:Operand} {u:Value} {xs:List Operand} {us:List Value}:Known a cores pre x u→Args a cores pre xs us→Args a cores pre (x::xs) (u::us)

theorem run_enter {f:FuncId} {fn:Func} {c:Code} (hf:P.funcs[f]? = some fn) (hname:(fn.name == "runtime.NumGoroutine")=false) (hb:fn.body=some c) (args:Array Value) (w:World) :
  (callFunc f args).run P w=.ok (.enter f args) w:=by
 have h1:fn.name ≠ "runtime.NumGoroutine":=by simpa using hname
 simp [callFunc,hf,h1,hb]

theorem core_call (c:Core) (f:FuncId) (fn:Func) (code:Code) (xs:List Operand) (us:List Value) (tys:Array TypeId) (ty:TypeId) (pos:String) (after:Array Edge) (u:Value)
  (ho:ops[c.i]? = some ⟨some c.d,.call ⟨.value (.func f),xs.toArray,tys⟩,ty,pos,after,none⟩) (hf:P.funcs[f]? = some fn) (hn:(fn.name == "runtime.NumGoroutine")=false) (hb:fn.body=some code)
  (hk:c.kind=Kind.val u) (hx:Args a cores c.pre xs us)
  (C:∀ w,Calls P f us.toArray w fun e w'=>e=.returned u∧Below w.heap.size w w'):StepOK P ops Q a W cores c:=by
 intro vs w hl _ hp o ho' K hK
 rw [ho] at ho'
 obtain rfl:=Option.some.inj ho'
 refine want_none rfl ?_
 have hargs:xs.toArray.map (over a (cores.map (·.d)) vs).eval=us.toArray:=by
  rw [List.map_toArray]
  congr 1
  clear ho C ho'
  induction hx with
  | nil=>rfl
  | cons h _ ih=>rw [List.map_cons,h vs w hl hp,ih]
 have hrun:∀ w,(execOp (over a (cores.map (·.d)) vs).eval ⟨some c.d,.call ⟨.value (.func f),xs.toArray,tys⟩,ty,pos,after,none⟩).run P w=.ok (.enter f us.toArray) w:=fun w=>by
  have h:=run_enter hf hn hb us.toArray w
  simp only [execOp,resolve,hargs]
  simpa [Act.eval,Deferred.ofValue,invoke,go_sem] using h
 unfold Oper.wp
 rw [hrun w,Oper.upon_enter]
 refine (C w).mono fun e w' ⟨he,hb⟩=>?_
 subst he
 exact hK.out u w' hb (by rw [hk];exact rfl) (fun h=>by rw [hk] at h;cases h)

theorem core_pure (c:Core) (op:Op) (ty:TypeId) (pos:String) (after:Array Edge) (u:Value)
  (ho:ops[c.i]? = some ⟨some c.d,op,ty,pos,after,none⟩) (hk:c.kind=Kind.val u)
  (h : ∀ (vs : List Value) (w : World), Fit a cores vs → (∀ j ∈ c.pre, ∀ d : Core, cores[j]? = some d → ∃ v, vs[j]? = some v ∧ d.kind.p v w) →
   ∀ w,(execOp (over a (cores.map (·.d)) vs).eval ⟨some c.d,op,ty,pos,after,none⟩).run P w=.ok (.value u) w):PureOK P ops S a W cores c:=by
 intro _
 refine ⟨by rw [hk];rfl,fun vs w hl _ hp o ho'=>?_⟩
 rw [ho] at ho'
 obtain rfl:=Option.some.inj ho'
 exact ⟨u,by rw [hk];exact rfl,Or.inl ⟨rfl,fun w' _=>h vs w hl hp w'⟩⟩
theorem core_move (c:Core) (x:Operand) (ty:TypeId) (pos:String) (after:Array Edge) (u:Value)
  (ho:ops[c.i]? = some ⟨some c.d,.move x,ty,pos,after,none⟩) (hk:c.kind=Kind.val u) (hx:Known a cores c.pre x u):PureOK P ops S a W cores c:=
 core_pure c _ ty pos after u ho hk fun vs w hl hp w'=>by
  have:=hx vs w hl hp
  simp only [execOp,this];rfl
theorem core_extract (c:Core) (x:Operand) (j:Nat) (ty:TypeId) (pos:String) (after:Array Edge) (us:Array Value) (u:Value)
  (ho:ops[c.i]? = some ⟨some c.d,.extract x j,ty,pos,after,none⟩) (hk:c.kind=Kind.val u) (hx:Known a cores c.pre x (.tuple us)) (hu:us[j]? = some u):PureOK P ops S a W cores c:=
 core_pure c _ ty pos after u ho hk fun vs w hl hp w'=>by
  have:=hx vs w hl hp
  generalize (over a (cores.map (·.d)) vs).eval=ρ at this
  simp [execOp,this,go_sem,hu]
theorem core_pureAs (c:Core) (h:c.pure=false):PureOK P ops S a W cores c:=fun h'=>by rw [h] at h';cases h'
theorem core_load (c:Core) (x:Operand) (ty:TypeId) (pos:String) (after:Array Edge) (g:Nat) (u0 u1 u2 u3:Value)
  (ho:ops[c.i]? = some ⟨some c.d,.load 24 x,ty,pos,after,none⟩) (hk:c.kind=Kind.val (.agg #[u0,u1,u2,u3])) (hx:Known a cores c.pre x (.pointer (some ⟨g,0,none⟩)))
  (hg:At W g 24 #[u0,u1,u2,u3]):StepOK Tryd.prog ops Q a W cores c:=by
 intro vs w hl hb hp o ho' K hK
 rw [ho] at ho'
 obtain rfl:=Option.some.inj ho'
 refine want_none rfl (wp_of_run_value (load_run x _ ty pos after none _ w g u0 u1 u2 u3 (hx vs w hl hp) (hg.on hb)) ?_)
 exact hK.out _ w (Below.refl _ _) (by rw [hk];exact rfl) (fun h=>by rw [hk] at h;cases h)
theorem core_loadP (c:Core) (x:Operand) (ty:TypeId) (pos:String) (after:Array Edge) (g:Nat) (u0 u1 u2 u3:Value)
  (ho:ops[c.i]? = some ⟨some c.d,.load 24 x,ty,pos,after,none⟩) (hk:c.kind=Kind.val (.agg #[u0,u1,u2,u3])) (hx:Known a cores c.pre x (.pointer (some ⟨g,0,none⟩)))
  (hg:∀ w,S w→At w g 24 #[u0,u1,u2,u3]):PureOK Tryd.prog ops S a W cores c:=by
 intro _
 refine ⟨by rw [hk];rfl,fun vs w hl _ hp o ho'=>?_⟩
 rw [ho] at ho'
 obtain rfl:=Option.some.inj ho'
 exact ⟨_,by rw [hk];exact rfl,Or.inl ⟨rfl,fun w' hS=>load_run x _ ty pos after none _ w' g u0 u1 u2 u3 (hx vs w hl hp) (hg w' hS)⟩⟩
theorem core_alloc (c:Core) (n:Nat) (ty:TypeId) (pos:String) (after:Array Edge)
  (ho:ops[c.i]? = some ⟨some c.d,.alloc 24,ty,pos,after,none⟩) (hk:c.kind=Kind.cell n 24 #[.int .u64 0,.int .u64 0,.int .u64 0,.int .u64 0]) (hn:n≤W.heap.size):StepOK Tryd.prog ops Q a W cores c:=by
 intro vs w hl hb hp o ho' K hK
 rw [ho] at ho'
 obtain rfl:=Option.some.inj ho'
 refine want_none rfl (wp_of_run_value (alloc_run _ ty pos after none _ w) ?_)
 exact hK.out _ _ (gr_alloc (Below.refl _ _) _) (by rw [hk];exact ⟨_,rfl,Nat.le_trans hn hb.size,At.new _ _ _⟩) (fun _=>⟨rfl,by simp⟩)
theorem core_stepAs (c:Core) (h:c.pure=true):c.pure=false→StepOK P ops Q a W cores c:=fun h'=>by rw [h] at h';cases h'

theorem sA {c:Core} (h:c.pure=true:=by rfl):c.pure=false→StepOK P ops Q a W cores c:=core_stepAs c h
/-- a store behind all -/
theorem store_one {fuel i:Nat} {listed:Array Bool} {b:Act} {w:World} (x y:Operand) (ty:TypeId) (pos:String) (after:Array Edge) (g:Nat) (u0 u1 u2 u3:Value) (k0 k1 k2 k3:Int)
  (hr:Region.ready md ops listed=[i]) (ho:ops[i]? = some ⟨none,.store 24 x y,ty,pos,after,none⟩) (hx:b.eval x=.pointer (some ⟨g,0,none⟩))
  (hy:b.eval y=.agg #[.int .u64 k0,.int .u64 k1,.int .u64 k2,.int .u64 k3]) (hg:At w g 24 #[u0,u1,u2,u3]) (hS:S (put4 w g (.int .u64 k0) (.int .u64 k1) (.int .u64 k2) (.int .u64 k3)))
  (h:wpAnyH Tryd.prog md ops Q S fuel (listed.setIfInBounds i true) b (put4 w g (.int .u64 k0) (.int .u64 k1) (.int .u64 k2) (.int .u64 k3))):wpAnyH Tryd.prog md ops Q S (fuel+1) listed b w:=
 wpAnyH_one hr ho fun K hK=>want_none rfl (wp_of_run_skip (store_run x y _ ty pos after none _ w g u0 u1 u2 u3 k0 k1 k2 k3 hx hy hg) (hK.out _ _ hS h))
/-- an assignment behind all -/
theorem assign_one {fuel i:Nat} {listed:Array Bool} {b:Act} {w:World} (x:Operand) (d:Nat) (ty:TypeId) (pos:String) (after:Array Edge) (v:Value)
  (hr:Region.ready md ops listed=[i]) (ho:ops[i]? = some ⟨some d,.assign x,ty,pos,after,none⟩) (hx:b.eval x=v) (hS:S w)
  (h:wpAnyH P md ops Q S fuel (listed.setIfInBounds i true) (b.put (some d) v) w):wpAnyH P md ops Q S (fuel+1) listed b w:=
 wpAnyH_one hr ho fun K hK=>want_none rfl (wp_of_run_value (by simp only [execOp,hx];rfl) (hK.out _ _ hS h))
end
end Go.Proofs.YtlphnfajhpkleaaDoor

/-
 The same rules for blocks of divides.held,four words as well;arithmetic among the operations.
-/
namespace Go.Proofs.YtlphnfajhpkleaaDoor
set_option maxRecDepth 100000
open Go.RowKit
set_option linter.unusedSimpArgs false
set_option linter.unusedVariables false

theorem store_runH (x y:Operand) (dst:Option Tmp) (ty:TypeId) (pos:String) (after:Array Edge) (guard:Option (Nat × Bool)) (ρ:Operand→Value) (w:World) (g:Nat) (u0 u1 u2 u3:Value) (a b c d:Int)
  (hx:ρ x=.pointer (some ⟨g,0,none⟩)) (hy:ρ y=.agg #[.int .u64 a,.int .u64 b,.int .u64 c,.int .u64 d]) (h:At w g 120 #[u0,u1,u2,u3]) :
  (execOp ρ ⟨dst,.store 120 x y,ty,pos,after,guard⟩).run Tryd.prog w=.ok .skip (put4 w g (.int .u64 a) (.int .u64 b) (.int .u64 c) (.int .u64 d)):=by
 have c0:w.cell? ⟨g,0,none⟩=some u0:=h.cell 0
 have c1:w.cell? ⟨g,1,none⟩=some u1:=h.cell 1
 have c2:w.cell? ⟨g,2,none⟩=some u2:=h.cell 2
 have c3:w.cell? ⟨g,3,none⟩=some u3:=h.cell 3
 have f0:w.frozen? ⟨g,0,none⟩=false:=h.frozen 0
 have f1:w.frozen? ⟨g,1,none⟩=false:=h.frozen 1
 have f2:w.frozen? ⟨g,2,none⟩=false:=h.frozen 2
 have f3:w.frozen? ⟨g,3,none⟩=false:=h.frozen 3
 unfold put4
 simp [execOp,hx,hy,go_sem,c0,c1,c2,c3,f0,f1,f2,f3]


theorem load_runH (x:Operand) (dst:Option Tmp) (ty:TypeId) (pos:String) (after:Array Edge) (guard:Option (Nat × Bool)) (ρ:Operand→Value) (w:World) (g:Nat) (u0 u1 u2 u3:Value)
  (hx:ρ x=.pointer (some ⟨g,0,none⟩)) (h:At w g 120 #[u0,u1,u2,u3]) :
  (execOp ρ ⟨dst,.load 120 x,ty,pos,after,guard⟩).run Tryd.prog w=.ok (.value (.agg #[u0,u1,u2,u3])) w:=by
 have c0:w.cell? ⟨g,0,none⟩=some u0:=h.cell 0
 have c1:w.cell? ⟨g,1,none⟩=some u1:=h.cell 1
 have c2:w.cell? ⟨g,2,none⟩=some u2:=h.cell 2
 have c3:w.cell? ⟨g,3,none⟩=some u3:=h.cell 3
 simp [execOp,hx,go_sem,c0,c1,c2,c3]


theorem alloc_runH (dst:Option Tmp) (ty:TypeId) (pos:String) (after:Array Edge) (guard:Option (Nat × Bool)) (ρ:Operand→Value) (w:World) :
  (execOp ρ ⟨dst,.alloc 120,ty,pos,after,guard⟩).run Tryd.prog w=.ok (.value (.pointer (some ⟨w.heap.size,0,none⟩))) (w.alloc (.cells #[.int .u64 0,.int .u64 0,.int .u64 0,.int .u64 0] 120)):=by
 simp [execOp,go_sem]


section
variable {P:Program} {ops:Array Oper} {Q:Exit→Act→World→Prop} {md:Region.Mode} {S:World→Prop} {a:Act} {W:World} {cores:List Core}
theorem core_loadH (c:Core) (x:Operand) (ty:TypeId) (pos:String) (after:Array Edge) (g:Nat) (u0 u1 u2 u3:Value)
  (ho:ops[c.i]? = some ⟨some c.d,.load 120 x,ty,pos,after,none⟩) (hk:c.kind=Kind.val (.agg #[u0,u1,u2,u3])) (hx:Known a cores c.pre x (.pointer (some ⟨g,0,none⟩)))
  (hg:At W g 120 #[u0,u1,u2,u3]):StepOK Tryd.prog ops Q a W cores c:=by
 intro vs w hl hb hp o ho' K hK
 rw [ho] at ho'
 obtain rfl:=Option.some.inj ho'
 refine want_none rfl (wp_of_run_value (load_runH x _ ty pos after none _ w g u0 u1 u2 u3 (hx vs w hl hp) (hg.on hb)) ?_)
 exact hK.out _ w (Below.refl _ _) (by rw [hk];exact rfl) (fun h=>by rw [hk] at h;cases h)

theorem core_allocH (c:Core) (n:Nat) (ty:TypeId) (pos:String) (after:Array Edge)
  (ho:ops[c.i]? = some ⟨some c.d,.alloc 120,ty,pos,after,none⟩) (hk:c.kind=Kind.cell n 120 #[.int .u64 0,.int .u64 0,.int .u64 0,.int .u64 0]) (hn:n≤W.heap.size):StepOK Tryd.prog ops Q a W cores c:=by
 intro vs w hl hb hp o ho' K hK
 rw [ho] at ho'
 obtain rfl:=Option.some.inj ho'
 refine want_none rfl (wp_of_run_value (alloc_runH _ ty pos after none _ w) ?_)
 exact hK.out _ _ (gr_alloc (Below.refl _ _) _) (by rw [hk];exact ⟨_,rfl,Nat.le_trans hn hb.size,At.new _ _ _⟩) (fun _=>⟨rfl,by simp⟩)

theorem store_oneH {fuel i:Nat} {listed:Array Bool} {b:Act} {w:World} (x y:Operand) (ty:TypeId) (pos:String) (after:Array Edge) (g:Nat) (u0 u1 u2 u3:Value) (k0 k1 k2 k3:Int)
  (hr:Region.ready md ops listed=[i]) (ho:ops[i]? = some ⟨none,.store 120 x y,ty,pos,after,none⟩) (hx:b.eval x=.pointer (some ⟨g,0,none⟩))
  (hy:b.eval y=.agg #[.int .u64 k0,.int .u64 k1,.int .u64 k2,.int .u64 k3]) (hg:At w g 120 #[u0,u1,u2,u3]) (hS:S (put4 w g (.int .u64 k0) (.int .u64 k1) (.int .u64 k2) (.int .u64 k3)))
  (h:wpAnyH Tryd.prog md ops Q S fuel (listed.setIfInBounds i true) b (put4 w g (.int .u64 k0) (.int .u64 k1) (.int .u64 k2) (.int .u64 k3))):wpAnyH Tryd.prog md ops Q S (fuel+1) listed b w:=
 wpAnyH_one hr ho fun K hK=>want_none rfl (wp_of_run_skip (store_runH x y _ ty pos after none _ w g u0 u1 u2 u3 k0 k1 k2 k3 hx hy hg) (hK.out _ _ hS h))

theorem core_bin (c:Core) (b:BinOp) (T T2:TypeId) (x y:Operand) (ty:TypeId) (pos:String) (after:Array Edge) (u v r:Value)
  (ho:ops[c.i]? = some ⟨some c.d,.binOp b T x y T2,ty,pos,after,none⟩) (hk:c.kind=Kind.val r) (hx:Known a cores c.pre x u) (hy:Known a cores c.pre y v)
  (hr:∀ (ρ:Operand→Value) (w:World),ρ x=u→ρ y=v→(execOp ρ ⟨some c.d,.binOp b T x y T2,ty,pos,after,none⟩).run P w=.ok (.value r) w):PureOK P ops S a W cores c:=
 core_pure c _ ty pos after r ho hk fun vs w hl hp w'=>hr _ w' (hx vs w hl hp) (hy vs w hl hp)
theorem core_un (c:Core) (b:UnOp) (T:TypeId) (x:Operand) (ty:TypeId) (pos:String) (after:Array Edge) (u r:Value)
  (ho:ops[c.i]? = some ⟨some c.d,.unOp b T x,ty,pos,after,none⟩) (hk:c.kind=Kind.val r) (hx:Known a cores c.pre x u)
  (hr:∀ (ρ:Operand→Value) (w:World),ρ x=u→(execOp ρ ⟨some c.d,.unOp b T x,ty,pos,after,none⟩).run P w=.ok (.value r) w):PureOK P ops S a W cores c:=
 core_pure c _ ty pos after r ho hk fun vs w hl hp w'=>hr _ w' (hx vs w hl hp)
end
end Go.Proofs.YtlphnfajhpkleaaDoor

/-
 limbs.mulAdd.
-/
namespace Go.Proofs.YtlphnfajhpkleaaDoor
open Go.RowKit
set_option linter.unusedSimpArgs false
set_option linter.unusedVariables false
attribute [local go_sem ↓] Go.wp_at_zero Go.wp_at_succ

theorem mulAdd_words (x y c d P Q s1 c1 l c2 h1 h:Nat)
  (m:∀ w,Calls Tryd.prog 91 #[.int .u64 x,.int .u64 y] w fun e w'=>e=.returned (.tuple #[.int .u64 (P:Nat),.int .u64 (Q:Nat)])∧w=w')
  (a1:∀ w,(callFunc 73 #[.int .u64 Q,.int .u64 c,.int .u64 0]).run Tryd.prog w=.ok (.value (.tuple #[.int .u64 s1,.int .u64 c1])) w)
  (a2:∀ w,(callFunc 73 #[.int .u64 s1,.int .u64 d,.int .u64 0]).run Tryd.prog w=.ok (.value (.tuple #[.int .u64 l,.int .u64 c2])) w)
  (b1:IntKind.u64.wrap ((P:Int)+c1)=(h1:Nat)) (b2:IntKind.u64.wrap ((h1:Int)+c2)=(h:Nat)) (w:World) :
  Calls Tryd.prog 74 #[.int .u64 x,.int .u64 y,.int .u64 c,.int .u64 d] w fun e w'=>e=.returned (.tuple #[.int .u64 h,.int .u64 l])∧w'=w:=by
 go_enter Tryd.func74,Tryd.ntmps74
 go_wp2_with (first | simp only [a1,a2] | (refine (m _).mono ?_;rintro e w1 ⟨rfl,rfl⟩))
 go_ret2
 exact ⟨rfl,rfl⟩

/-- limbs.mulAdd -/
theorem mulAdd_ex (x y c d:Nat) (hx:x<18446744073709551616) (hy:y<18446744073709551616) (hc:c<18446744073709551616) (hd:d<18446744073709551616) :
  ∃ h l:Nat,h<18446744073709551616∧l<18446744073709551616∧x*y+c+d=l+18446744073709551616*h ∧
  ∀ w,Calls Tryd.prog 74 #[.int .u64 x,.int .u64 y,.int .u64 c,.int .u64 d] w fun e w'=>e=.returned (.tuple #[.int .u64 h,.int .u64 l])∧w'=w:=by
 have bd:x*y≤18446744073709551615*18446744073709551615:=Nat.mul_le_mul (by omega) (by omega)
 have M:=mul64 x y hx hy
 obtain ⟨P,hP⟩:∃ P,P=x*y/18446744073709551616:=⟨_,rfl⟩
 obtain ⟨Q,hQ⟩:∃ Q,Q=x*y%18446744073709551616:=⟨_,rfl⟩
 rw [← hP,← hQ] at M
 obtain ⟨s1,c1,l1,k1,e1,p1,q1⟩:=add_step Q c 0 (by omega) hc (by omega)
 obtain ⟨l,c2,l2,k2,e2,p2,q2⟩:=add_step s1 d 0 l1 hd (by omega)
 refine ⟨P+c1+c2,l,?_,l2,?_,fun w=>mulAdd_words x y c d P Q s1 c1 l c2 (P+c1) (P+c1+c2) M (fun w=>add64 _ _ 0 _ _ (by omega) p1 q1 w) (fun w=>add64 _ _ 0 _ _ (by omega) p2 q2 w) ?_ ?_ w⟩
 ·clear p1 q1 p2 q2;omega
 ·clear p1 q1 p2 q2;omega
 ·clear p1 q1 p2 q2;rw [IntKind.wrap_u64];omega
 ·clear p1 q1 p2 q2;rw [IntKind.wrap_u64];omega
end Go.Proofs.YtlphnfajhpkleaaDoor

/-
 limbs.word,limbs.Bit.
-/
namespace Go.Proofs.YtlphnfajhpkleaaDoor
open Go.RowKit
set_option linter.unusedSimpArgs false
set_option linter.unusedVariables false
attribute [local go_sem ↓] Go.wp_at_zero Go.wp_at_succ

/-- limbs.word: there is none -/
theorem word_none (X:Nat) (i:Int) (h:i<0∨4≤i) (w:World):Calls Tryd.prog 64 #[num X,.int .i64 i] w fun e w'=>e=.returned (.int .u64 0)∧w'=w.alloc (.cells (ncs X) 24):=by
 by_cases h0:i<0
 ·go_enter Tryd.func64,Tryd.ntmps64
  go_wp2
  go_ret
  exact ⟨rfl,rfl⟩
 ·have h1:4≤i:=by omega
  have h2:¬ i<0:=h0
  go_enter Tryd.func64,Tryd.ntmps64
  go_wp2
  go_ret
  exact ⟨rfl,rfl⟩

/-- limbs.word -/
theorem word_one (X:Nat) (i:Nat) (h:i<4) (w:World):Calls Tryd.prog 64 #[num X,.int .i64 (i:Int)] w fun e w'=>e=.returned (.int .u64 (wd X i:Nat))∧w'=w.alloc (.cells (ncs X) 24):=by
 match i,h with
 | 0,_ | 1,_ | 2,_ | 3,_=>
  go_enter Tryd.func64,Tryd.ntmps64
  go_wp2
  go_ret
  exact ⟨rfl,rfl⟩

/-- word i of X,0 where there is none -/
def wi (X:Nat) (i:Int):Nat:=if i<0 then 0 else wd X i.toNat
theorem word_any (X:Nat) (hX:X<2^256) (i:Int) (w:World):Calls Tryd.prog 64 #[num X,.int .i64 i] w fun e w'=>e=.returned (.int .u64 (wi X i:Nat))∧w'=w.alloc (.cells (ncs X) 24):=by
 unfold wi
 by_cases h0:i<0
 ·rw [if_pos h0];exact word_none X i (Or.inl h0) w
 rw [if_neg h0]
 obtain ⟨n,rfl⟩:∃ n:Nat,i=n:=⟨i.toNat,by omega⟩
 by_cases h4:n<4
 ·exact word_one X n h4 w
 ·have e:wd X (n:Int).toNat=0:=by
   have h:X<18446744073709551616^n:=Nat.lt_of_lt_of_le (show X<18446744073709551616^4 by omega) (Nat.pow_le_pow_right (by decide) (by omega))
   unfold wd
   rw [Int.toNat_natCast,Nat.div_eq_of_lt h]
  rw [e];exact word_none X n (Or.inr (by omega)) w
end Go.Proofs.YtlphnfajhpkleaaDoor

/-
 limbs.Bit.
-/
namespace Go.Proofs.YtlphnfajhpkleaaDoor
open Go.RowKit
set_option linter.unusedSimpArgs false
set_option linter.unusedVariables false
attribute [local go_sem ↓] Go.wp_at_zero Go.wp_at_succ

theorem and63 (n:Int):bits .and .i64 n 63=n%64:=by
 have h63:(BitVec.ofInt 64 63).toNat=2^6-1:=by decide
 have key:(BitVec.ofInt 64 n &&& BitVec.ofInt 64 63).toNat=(n%((2^64:Nat):Int)).toNat%2^6:=by
  rw [BitVec.toNat_and,BitVec.toNat_ofInt,h63,Nat.and_two_pow_sub_one_eq_mod]
 show IntKind.i64.wrap ((BitVec.ofInt 64 n &&& BitVec.ofInt 64 63).toNat:Nat)=n%64
 rw [key,IntKind.wrap_i64]
 omega
theorem and1 (a:Nat) (ha:a<18446744073709551616):bits .and .u64 (a:Int) 1=((a%2:Nat):Int):=by
 have h:=bits_and_u64_nat a 1 ha (by omega)
 have e:a &&& 1=a%2:=Nat.and_two_pow_sub_one_eq_mod a 1
 rw [e] at h
 exact h

/-- bit i of X,0 where there is none -/
def bt (X:Nat) (i:Int):Nat:=if i<0 then 0 else X/2^i.toNat%2
theorem B_pow (q:Nat):18446744073709551616^q=2^(64*q):=by rw [Nat.pow_mul]
theorem wd_bit (X q j:Nat) (h:j<64):wd X q/2^j%2=X/2^(64*q+j)%2:=by
 unfold wd
 have e:(18446744073709551616:Nat)=2^j*2^(64-j):=by rw [← Nat.pow_add,show j+(64-j)=64 by omega]
 rw [B_pow]
 conv=>lhs;arg 1;arg 1;arg 2;rw [e]
 rw [Nat.mod_mul_right_div_self,Nat.mod_mod_of_dvd _ (Nat.dvd_trans (by decide) (Nat.pow_dvd_pow 2 (show 1≤64-j by omega))),Nat.div_div_eq_div_mul,← Nat.pow_add]
theorem bt_wi (X j:Nat) (i:Int) (h:i%64=j):wi X (i/64)/2^j%2=bt X i:=by
 unfold wi bt
 by_cases h0:i<0
 ·rw [if_pos h0,if_pos (by omega)];simp
 ·rw [if_neg h0,if_neg (by omega),wd_bit X _ j (by omega)]
  congr 3
  omega
theorem wi_lt (X:Nat) (i:Int):wi X i<18446744073709551616:=by
 unfold wi;split
 ·omega
 ·exact wd_lt _ _

theorem bit_any (X:Nat) (hX:X<2^256) (i:Int) (w:World):Calls Tryd.prog 51 #[num X,.int .i64 i] w fun e w'=>e=.returned (.int .u64 (bt X i:Nat))∧Below w.heap.size w w':=by
 go_enter Tryd.func51,Tryd.ntmps51
 go_wp2_with fail
 refine (word_any X hX (i/64) _).mono ?_
 rintro e w1 ⟨rfl,rfl⟩
 have h1:=and63 i
 obtain ⟨j,hj⟩:∃ j:Nat,i%64=j:=⟨(i%64).toNat,by omega⟩
 have hj':j<64:=by omega
 have hb:=bt_wi X j i hj
 have hl:=wi_lt X (i/64)
 rw [hj] at h1
 generalize wi X (i/64)=x at *
 have hd:bits .and .u64 ((x:Int)/2^j) 1=(bt X i:Nat):=by
  have e:(x:Int)/2^j=((x/2^j:Nat):Int):=by simp
  rw [e,and1 _ (Nat.lt_of_le_of_lt (Nat.div_le_self _ _) hl),hb]
 clear hb hl hj
 go_wp2
 go_ret
 exact ⟨rfl,by repeat (first | exact Below.refl _ _ | refine gr_alloc ?_ _ | refine Below.drew ?_ | refine gr_drewN ?_ _ | refine bel_tr ?_ (by assumption))⟩
end Go.Proofs.YtlphnfajhpkleaaDoor

/-
 limbs.Shift.
-/
namespace Go.Proofs.YtlphnfajhpkleaaDoor
set_option maxRecDepth 100000
open Go.RowKit
set_option linter.unusedSimpArgs false
set_option linter.unusedVariables false
attribute [local go_sem ↓] Go.wp_at_zero Go.wp_at_succ

set_option maxHeartbeats 2000000 in
theorem shift_words (X:Nat) (hX:X<2^256) (n q y0 y1 y2 y3 y4:Int) (p r:Nat) (hq:n/64=q) (hp:bits .and .i64 n 63=(p:Nat)) (hp':p<64) (hr:IntKind.i64.wrap (64-(p:Int))=(r:Nat)) (hr':r≤64)
  (v1:IntKind.i64.wrap (-q)=y1) (v2:IntKind.i64.wrap (1-q)=y2) (v3:IntKind.i64.wrap (2-q)=y3) (v4:IntKind.i64.wrap (3-q)=y4)
  (u1:IntKind.i64.wrap (y1-1)=y0) (u2:IntKind.i64.wrap (y2-1)=y1) (u3:IntKind.i64.wrap (y3-1)=y2) (u4:IntKind.i64.wrap (y4-1)=y3)
  (o0 o1 o2 o3:Nat)
  (e0:bits .or .u64 (IntKind.u64.wrap ((wi X y1:Nat)*2^p)) ((wi X y0:Nat)/2^r)=(o0:Nat))
  (e1:bits .or .u64 (IntKind.u64.wrap ((wi X y2:Nat)*2^p)) ((wi X y1:Nat)/2^r)=(o1:Nat))
  (e2:bits .or .u64 (IntKind.u64.wrap ((wi X y3:Nat)*2^p)) ((wi X y2:Nat)/2^r)=(o2:Nat))
  (e3:bits .or .u64 (IntKind.u64.wrap ((wi X y4:Nat)*2^p)) ((wi X y3:Nat)/2^r)=(o3:Nat))
  (w:World) :
  Calls Tryd.prog 87 #[num X,.int .i64 n] w fun e w'=>e=.returned (.agg #[.int .u64 o0,.int .u64 o1,.int .u64 o2,.int .u64 o3])∧Below w.heap.size w w':=by
 have hr2:(r:Int)≤64:=by omega
 have hr3:(0:Int)≤(r:Int):=by omega
 go_enter Tryd.func87,Tryd.ntmps87
 go_wp2
 refine wp_loop_rounds 6 ?_
 rw [rounds_succ]
 go_wp2
 go_region_held3 (fun w'=>w'.cell? ⟨w.heap.size,0,none⟩=some (.int .u64 (wd X 0:Nat))∧w'.cell? ⟨w.heap.size,1,none⟩=some (.int .u64 (wd X 1:Nat))∧w'.cell? ⟨w.heap.size,2,none⟩=some (.int .u64 (wd X 2:Nat))∧w'.cell? ⟨w.heap.size,3,none⟩=some (.int .u64 (wd X 3:Nat))) (simp [go_sem,World.cell?_alloc_past])
  ((go_at_call 64;refine (word_any X hX _ _).mono ?_;rintro e w' ⟨rfl,rfl⟩))
 go_wp2
 rw [rounds_succ]
 go_wp2
 go_region_held3 (fun w'=>w'.cell? ⟨w.heap.size,0,none⟩=some (.int .u64 (wd X 0:Nat))∧w'.cell? ⟨w.heap.size,1,none⟩=some (.int .u64 (wd X 1:Nat))∧w'.cell? ⟨w.heap.size,2,none⟩=some (.int .u64 (wd X 2:Nat))∧w'.cell? ⟨w.heap.size,3,none⟩=some (.int .u64 (wd X 3:Nat))) (simp [go_sem,World.cell?_alloc_past])
  ((go_at_call 64;refine (word_any X hX _ _).mono ?_;rintro e w' ⟨rfl,rfl⟩))
 go_wp2
 rw [rounds_succ]
 go_wp2
 go_region_held3 (fun w'=>w'.cell? ⟨w.heap.size,0,none⟩=some (.int .u64 (wd X 0:Nat))∧w'.cell? ⟨w.heap.size,1,none⟩=some (.int .u64 (wd X 1:Nat))∧w'.cell? ⟨w.heap.size,2,none⟩=some (.int .u64 (wd X 2:Nat))∧w'.cell? ⟨w.heap.size,3,none⟩=some (.int .u64 (wd X 3:Nat))) (simp [go_sem,World.cell?_alloc_past])
  ((go_at_call 64;refine (word_any X hX _ _).mono ?_;rintro e w' ⟨rfl,rfl⟩))
 go_wp2
 rw [rounds_succ]
 go_wp2
 go_region_held3 (fun w'=>w'.cell? ⟨w.heap.size,0,none⟩=some (.int .u64 (wd X 0:Nat))∧w'.cell? ⟨w.heap.size,1,none⟩=some (.int .u64 (wd X 1:Nat))∧w'.cell? ⟨w.heap.size,2,none⟩=some (.int .u64 (wd X 2:Nat))∧w'.cell? ⟨w.heap.size,3,none⟩=some (.int .u64 (wd X 3:Nat))) (simp [go_sem,World.cell?_alloc_past])
  ((go_at_call 64;refine (word_any X hX _ _).mono ?_;rintro e w' ⟨rfl,rfl⟩))
 go_wp2
 rw [rounds_succ]
 go_wp2
 exact bodyPost_ret (v:=.agg #[.int .u64 o0,.int .u64 o1,.int .u64 o2,.int .u64 o3]) (by simp [results,Tryd.results87,go_sem]) rfl
  ⟨rfl,by repeat (first | exact Below.refl _ _ | refine gr_alloc ?_ _ | refine Below.drew ?_ | refine gr_drewN ?_ _ | refine bel_tr ?_ (by assumption))⟩
end Go.Proofs.YtlphnfajhpkleaaDoor

/-
 divides.hold,held.num and step: one bit more of a division.
-/
namespace Go.Proofs.YtlphnfajhpkleaaDoor
open Go.RowKit
set_option linter.unusedSimpArgs false
set_option linter.unusedVariables false
attribute [local go_sem ↓] Go.wp_at_zero Go.wp_at_succ

/-- divides.hold -/
theorem hold_any (X:Nat) (w:World):Calls Tryd.prog 88 #[num X] w fun e w'=>e=.returned (num X)∧Below w.heap.size w w':=by
 go_enter Tryd.func88,Tryd.ntmps88
 go_wp2
 exact bodyPost_ret (v:=num X) (by simp [results,Tryd.results88,go_sem]) rfl
  ⟨rfl,by repeat (first | exact Below.refl _ _ | refine gr_alloc ?_ _ | refine Below.drew ?_ | refine gr_drewN ?_ _ | refine bel_tr ?_ (by assumption))⟩

/-- held.num -/
theorem hnum_any (X:Nat) (w:World):Calls Tryd.prog 90 #[num X] w fun e w'=>e=.returned (num X)∧Below w.heap.size w w':=by
 go_enter Tryd.func90,Tryd.ntmps90
 go_wp2
 exact bodyPost_ret (v:=num X) (by simp [results,Tryd.results90,go_sem]) rfl
  ⟨rfl,by repeat (first | exact Below.refl _ _ | refine gr_alloc ?_ _ | refine Below.drew ?_ | refine gr_drewN ?_ _ | refine bel_tr ?_ (by assumption))⟩

end Go.Proofs.YtlphnfajhpkleaaDoor
