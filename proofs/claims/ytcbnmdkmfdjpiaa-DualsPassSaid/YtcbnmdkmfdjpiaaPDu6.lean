import Derived.Deep.Cut
import Derived.Test.YtcbnmdkmfdjpiaaPDu4
import Derived.Test.YtcbnmdkmfdjpiaaPShort
namespace Go.Proofs.Ytcbnmdkmfdjpiaa
set_option maxRecDepth 100000
open Go.RowKit
set_option linter.unusedSimpArgs false
set_option linter.unusedVariables false
attribute [local go_sem ↓] Go.wp_at_zero Go.wp_at_succ

section
variable {x:Operand} {dst:Option Tmp} {ty:TypeId} {pos:String} {after:Array Edge} {guard:Option (Nat × Bool)} {ρ:Operand→Value} {w:World}
theorem o_buildW (n:Nat) (h:n<18446744073709551616) (hc:ρ (.const (.int .u64 (n:Nat)))=.int .u64 (n:Nat)):(execOp ρ ⟨dst,.build 24 #[(0,.const (.int .u64 (n:Nat)))],ty,pos,after,guard⟩).run Try.prog w=.ok (.value (num n)) w:=by
 have h0:wd n 0=n:=by unfold wd;rw [Nat.pow_zero,Nat.div_one,Nat.mod_eq_of_lt h]
 have hk:∀ k,wd n (k+1)=0:=fun k=>by unfold wd;rw [Nat.div_eq_of_lt (Nat.lt_of_lt_of_le h (by rw [Nat.pow_succ];exact Nat.le_mul_of_pos_left _ (Nat.pow_pos (by decide))))]
 have h1:=hk 0;have h2:=hk 1;have h3:=hk 2
 have e:(execOp ρ ⟨dst,.build 24 #[(0,.const (.int .u64 (n:Nat)))],ty,pos,after,guard⟩).run Try.prog w=.ok (.value (.agg #[.int .u64 (n:Nat),.int .u64 0,.int .u64 0,.int .u64 0])) w:=by simp [execOp,hc,go_sem]
 rw [e]
 simp [h0,h1,h2,h3]
theorem Jaw {a b c:Nat} (ha:ρ (.const (.int .u64 (a:Nat)))=.int .u64 (a:Nat)) (hb:ρ (.const (.int .u64 (b:Nat)))=.int .u64 (b:Nat)) (hc:ρ (.const (.int .u64 (c:Nat)))=.int .u64 (c:Nat)):(execOp ρ ⟨dst,.buildSlice 69 3 #[(0,.const (.int .u64 (a:Nat))),(1,.const (.int .u64 (b:Nat))),(2,.const (.int .u64 (c:Nat)))],ty,pos,after,guard⟩).run Try.prog w=.ok (.value (.slice (some ⟨w.heap.size,0,none⟩) 3 3)) (w.alloc (.cells (us [a,b,c]) 22)):=by
 have h:(execOp ρ ⟨dst,.buildSlice 69 3 #[(0,.const (.int .u64 (a:Nat))),(1,.const (.int .u64 (b:Nat))),(2,.const (.int .u64 (c:Nat)))],ty,pos,after,guard⟩).run Try.prog w=.ok (.value (.slice (some ⟨w.heap.size,0,none⟩) 3 3)) (w.alloc (.cells #[.int .u64 (a:Nat),.int .u64 (b:Nat),.int .u64 (c:Nat)] 22)):=by simp [execOp,ha,hb,hc,go_sem]
 exact h
end
section
variable {P:Program} {ops:Array Oper} {Q:Exit→Act→World→Prop} {a:Act} {n0:Nat} {w w0:World} {rest:List Oper} {o:Oper} {N:Nat} {L:List (Nat × Value)} {df:List Deferred} {M:List (Nat × TypeId × Array Value)}
end
section
variable {x y:Operand} {dst:Option Tmp} {ty:TypeId} {pos:String} {after:Array Edge} {guard:Option (Nat × Bool)} {ρ:Operand→Value} {w:World} {g o:Nat}
theorem o_buildFl {k:Int} (hx:ρ x=.int .i64 k):(execOp ρ ⟨dst,.build 85 #[(0,x)],ty,pos,after,guard⟩).run Try.prog w=.ok (.value (.agg #[.int .i64 k])) w:=by simp [execOp,hx,go_sem]
theorem o_ifaceFl {u:Value} (hx:ρ x=u):(execOp ρ ⟨dst,.makeInterface 85 x,ty,pos,after,guard⟩).run Try.prog w=.ok (.value (.iface 85 u)) w:=by simp [execOp,hx,go_sem]
theorem o_recover {tys:Array TypeId}:(execOp ρ ⟨dst,.call ⟨.builtin .recover,#[],tys⟩,ty,pos,after,guard⟩).run Try.prog w=.ok .recover w:=by simp [execOp,go_sem]
end
theorem NR.rnD {b:Nat} {w:World} {v:Value} {xs:List Nat} (h:NR b w v xs) (h0:xs≠[]) (hx:∀ x∈xs,x<2^256):∃ a cap,v=.slice a xs.length cap∧RN w.heap.size w a xs.length cap xs:=by
 obtain ⟨g,cap2,cur,e,hg,hat,h1,h2,hp⟩:=NR.row h h0
 exact ⟨_,_,e,hp.rsA hat rfl h1 h2 hx⟩
section
variable {P:Program} {ops:Array Oper} {Q:Exit→Act→World→Prop} {a:Act} {w:World} {rest:List Oper} {o:Oper} {N:Nat} {L:List (Nat × Value)} {df:List Deferred}
theorem lx_callP {d:Nat} {f:FuncId} {args:Array Value} {u:Value} {T:World→Prop} {T2:List PanicEntry→World→Prop} (F:Fr a N L df) (hw:Region.wanted o (yielded ops a.tmps)=true) (hdst:o.dst=some d) (hd:Nat.blt d N=true)
  (hr:(execOp a.eval o).run P w=.ok (.enter f args) w) (C:Calls P f args w fun e w'=>(e=.returned u∧T w')∨∃ ch,e=.panicked ch∧T2 ch w')
  (h2:∀ ch w',T2 ch w'→Q (.panic ch) a w') (h:∀ a' w',T w'→Fr a' N ((d,u)::L) df→wpList P ops Q rest a' w'):wpList P ops Q (o::rest) a w:=by
 unfold wpList
 rw [if_pos hw]
 left
 unfold Oper.wp
 rw [hr]
 refine Calls.mono C fun e w' he=>?_
 rcases he with ⟨rfl,hT⟩ | ⟨ch,rfl,hT⟩
 ·show wpList P ops Q rest (a.put o.dst u) w'
  rw [hdst]
  exact h _ _ hT (F.put u hd)
 ·exact h2 _ _ hT
theorem lx_defer {d:Deferred} (F:Fr a N L df) (hw:Region.wanted o (yielded ops a.tmps)=true) (hdst:o.dst=none) (hr:(execOp a.eval o).run P w=.ok (.defer d) w)
  (h:∀ a',Fr a' N L (d::df)→wpList P ops Q rest a' w):wpList P ops Q (o::rest) a w:=by
 unfold wpList
 rw [if_pos hw]
 left
 unfold Oper.wp
 rw [hr]
 show wpList P ops Q rest ({ a with defers:=d::a.defers }.put o.dst undef) w
 rw [hdst]
 exact h _ ⟨F.size,by simp [Act.put,F.defers],F.get⟩
theorem o_defer {x:Operand} {dst:Option Tmp} {ty:TypeId} {pos:String} {after:Array Edge} {guard:Option (Nat × Bool)} {ρ:Operand→Value} {f:FuncId} {cap:Array Value} {tys:Array TypeId} (hx:ρ x=.func (.func f) #[] cap):(execOp ρ ⟨dst,.defer ⟨.value x,#[],tys⟩,ty,pos,after,guard⟩).run P w=.ok (.defer { target:=.fn (.func f) cap,args:=#[] }) w:=by
 simp only [execOp,resolve,hx]
 simp [Deferred.ofValue,go_sem]
end
section
variable {P:Program} {ops:Array Oper} {Q:Exit→Act→List Frame→World→Prop} {a:Act} {w:World} {rest:List Oper} {N:Nat} {L:List (Nat × Value)} {df:List Deferred} {cs:List Frame}
theorem opsS_of (hL:¬ LetsOut fun e a w=>Q e a cs w) (T:List Nat):∀ (a:Act) (w:World),wpOps P ops (fun e a w=>Q e a cs w) T a w→wpOpsS P ops Q T a cs w:=by
 induction T with
 | nil=>exact fun _ _ h=>h
 | cons i T ih=>
  intro a w h
  simp only [wpOps] at h
  simp only [wpOpsS]
  cases ho:ops[i]? with
  | none=>simp only [ho] at h ⊢;exact ih a w h
  | some o=>
   simp only [ho] at h ⊢
   by_cases hw:Region.wanted o (yielded ops a.tmps)=true
   ·simp only [hw,if_true] at h ⊢
    have h:=h.resolve_right (fun h=>hL h.2)
    unfold Oper.wp at h
    split
    ·rename_i hr;rw [hr] at h;exact h.elim
    ·generalize (execOp a.eval o).run P w=r at h ⊢
     unfold Oper.upon at h ⊢
     split at h
     ·exact ih _ _ h
     ·exact ih _ _ h
     ·exact ih _ _ h
     ·refine Calls.mono h fun e w' he=>?_
      cases e with
      | returned v=>exact ih _ _ he
      | panicked ch=>exact he
      | outgrown=>exact he
     ·exact Rows.mono h fun v w' he=>ih _ _ he
     ·exact h
     ·exact h.elim
   ·simp only [hw,if_false,Bool.false_eq_true] at h ⊢
    exact ih _ _ h
theorem rS_lit {id d:Nat} {o:Oper} {T:List Oper} {v:Value} {cs':List Frame} (F:Fr a N L df) (hg:o.guard=none) (hdst:o.dst=some d) (hd:Nat.blt d N=true) (hr:(execOp a.eval o).run P w=.ok .recover w)
  (hv:(recoverD cs).getD (.nilIface,cs)=(v,cs')) (hL:¬ LetsOut fun e a w=>Q e a cs' w) (h:∀ a',Fr a' N ((d,v)::L) df→wpList P (o::T).toArray (fun e a w=>Q e a cs' w) T a' w) :
  (Code.region id (o::T).toArray false).wpS P Q a cs w:=by
 refine wpS_region ?_
 have e:List.range (o::T).toArray.size=0::List.range' 1 T.length:=by simp [List.range_eq_range',List.range'_succ]
 rw [e]
 unfold wpOpsS
 have ho:(o::T).toArray[0]? = some o:=rfl
 rw [ho]
 have hw:Region.wanted o (yielded (o::T).toArray a.tmps)=true:=by unfold Region.wanted;rw [hg]
 simp only [hw,if_true,hr]
 have h2:∀ a',Fr a' N ((d,v)::L) df→wpOpsS P (o::T).toArray Q (List.range' 1 T.length) a' cs' w:=fun a' F'=>opsS_of hL _ _ _ (by
  rw [wpOps_eq_wpList T 1 (fun j=>by simp [Nat.add_comm 1 j])]
  exact h _ F')
 cases hrec:recoverD cs with
 | none=>
  rw [hrec] at hv
  cases hv
  show wpOpsS P _ Q _ (a.put o.dst _) _ w
  rw [hdst]
  exact h2 _ (F.put _ hd)
 | some p=>
  obtain ⟨v1,cs1⟩:=p
  rw [hrec] at hv
  cases hv
  show wpOpsS P _ Q _ (a.put o.dst _) _ w
  rw [hdst]
  exact h2 _ (F.put _ hd)
theorem callsDIn_of_wpS {n:Nat} {f:FuncId} {fn:Func} {c:Code} {args:Array Value} {u:FrameMode} {R:Ending→FrameMode→World→Prop} (hf:P.funcs[f]? = some fn) (hb:fn.body=some c)
  (h:∀ (c₀:Frame) (cs:List Frame),c₀.mode=u→c.wpS P (bodyPostS P fn c₀ cs R) { tmps:=args++Array.replicate (fn.ntmps-args.size) undef,defers:=[] } (c₀::cs) w):CallsDIn Fence.wide n P f args u w R:=by
 refine ⟨trivial,fun c₀ cs hu _=>?_⟩
 let b:Frame:={ (default:Frame) with fn:=f,kind:=.deferred }
 have henter:Frame.enter P f args .deferred =
   b.at { tmps:=args++Array.replicate (fn.ntmps-args.size) undef,defers:=[] } [.code c]:=by
  simp [Frame.enter,Frame.at,hf,hb,b]
 obtain ⟨e,a',cs',w',hq,harr⟩:=h c₀ cs hu b [] rfl rfl
 rw [← henter] at harr
 cases e with
 | normal=>
  obtain ⟨hd,u',rfl,v,hr,hR⟩:=hq
  exact ⟨.returned v,u',w',_,hR,comesIn_wide.2 (Steps.trans harr (.one step_end)),rfl,rfl,rfl,hd,fn,hf,hr⟩
 | ret=>
  obtain ⟨hd,u',rfl,v,hr,hR⟩:=hq
  obtain ⟨todo,hs⟩:=harr
  exact ⟨.returned v,u',w',_,hR,comesIn_wide.2 hs,rfl,rfl,rfl,hd,fn,hf,hr⟩
 | panic chain=>
  obtain ⟨hd,u',rfl,hR⟩:=hq
  obtain ⟨todo,hs⟩:=harr
  exact ⟨.panicked chain,u',w',_,hR,comesIn_wide.2 hs,rfl,rfl,rfl,hd,fn,hf⟩
 | exit id=>exact hq.elim
 | goto l=>exact hq.elim
 | outgrown=>
  obtain ⟨u',hR⟩:=hq
  exact ⟨.outgrown,u',w',b,hR,harr.resolve_left (by simp [b]),rfl,rfl,trivial⟩
theorem sx_enterS {n:Nat} {f:FuncId} {fn:Func} {c:Code} {args:List Value} {u:FrameMode} {R:Ending→FrameMode→World→Prop} (hf:P.funcs[f]? = some fn) (hb:fn.body=some c) (hN:fn.ntmps=N) (hl:Nat.ble args.length N=true)
  (h:∀ a (c₀:Frame) (cs:List Frame),c₀.mode=u→Fr a N (idx 0 args) []→c.wpS P (bodyPostS P fn c₀ cs R) a (c₀::cs) w):CallsDIn Fence.wide n P f args.toArray u w R:=
 callsDIn_of_wpS hf hb fun c₀ cs hu=>h _ c₀ cs hu (Fr.start args _ N hN hl)
end
set_option maxRecDepth 100000 in
set_option maxHeartbeats 800000 in
theorem must_e (P Q G H n m capv capp:Nat) (pv pp:Option Addr) (bs ps:List Nat) (w0:World) (hP:P<2^256) (hQ:Q<2^256) (rv:RN w0.heap.size w0 pv n capv bs) (E:Int) (hE:¬ E=0) (hW:∀ u,Below w0.heap.size w0 u→Calls Try.prog 15 #[grp P Q G H,.int .i64 (n:Nat),.slice pp m capp] u fun e w'=>e=.returned (.tuple #[.slice none 0 0,.int .i64 E])∧Below u.heap.size u w'):Calls Try.prog 62 #[grp P Q G H,.slice pv n capv,.slice pp m capp] w0 fun e w'=>e=.panicked [{ v:=.iface 85 (.agg #[.int .i64 E]),recovered:=false }]∧Below w0.heap.size w0 w':=by
 refine Kc (args:=[grp P Q G H,.slice pv n capv,.slice pp m capp]) Try.func62 rfl Try.ntmps62 (by rfl) fun a F HM=>?_
 refine Kgr ?_
 refine Jn F HM (Ja rfl _) rfl (by rfl) (Kn (F.ev rfl)) fun a w gg F HM=>?_
 refine Jf ?_
 refine Kgr ?_
 refine lxv (grp P Q G H) F (Jy (F.ev rfl) (HM.get 0 rfl)) fun a F=>?_
 refine lxv (.slice pv n capv) F (Jc (F.ev rfl)) fun a F=>?_
 refine lxv (.int .i64 (n:Nat)) F (Ur (F.ev rfl)) fun a F=>?_
 refine lxv (.slice pp m capp) F (Jc (F.ev rfl)) fun a F=>?_
 refine Jr F (Ja rfl _) rfl (by rfl) (Ji Try.func15 (by kernel_rfl) (by rfl) (.cons (F.ev rfl) (.cons (F.ev rfl) (.cons (F.ev rfl) .nil))) _) (hW _ HM.bel) fun a w z F=>?_
 replace HM:=HM.on z
 clear z
 refine lxv (.tuple #[.slice none 0 0,.int .i64 E]) F (Jc (F.ev rfl)) fun a F=>?_
 refine lxv (.slice none 0 0) F (Jk (F.ev rfl) rfl) fun a F=>?_
 refine lxv (.int .i64 E) F (Jk (F.ev rfl) rfl) fun a F=>?_
 refine lxv (.slice none 0 0) F (Jg (F.ev rfl)) fun a F=>?_
 refine lxv (.int .i64 E) F (Jg (F.ev rfl)) fun a F=>?_
 refine Jf ?_
 refine Kgr ?_
 refine lxv (.int .i64 E) F (Jc (F.ev rfl)) fun a F=>?_
 refine lxv (.bool true) F (Jfi (b:=false) (decide_eq_false hE) (F.ev rfl) rfl rfl) fun a F=>?_
 refine Jf ?_
 refine Kgq ?_
 refine wp_cond_true (F.ev rfl) ?_
 refine Kgr ?_
 refine lxv (.int .i64 E) F (Jc (F.ev rfl)) fun a F=>?_
 refine lxv (.agg #[.int .i64 E]) F (o_buildFl (F.ev rfl)) fun a F=>?_
 refine lxv (.iface 85 (.agg #[.int .i64 E])) F (o_ifaceFl (F.ev rfl)) fun a F=>?_
 refine lx_panic (Ja rfl _) (o_panic (F.ev rfl)) ?_
 exact ⟨F.defers,rfl,HM.bel⟩

set_option maxRecDepth 100000 in
set_option maxHeartbeats 800000 in
theorem must_y (P Q G H n m capv capp:Nat) (pv pp:Option Addr) (bs ps:List Nat) (w0:World) (hP:P<2^256) (hQ:Q<2^256) (rv:RN w0.heap.size w0 pv n capv bs) (ws:List Nat) (hX:prV P bs ws<2^256) (hpb:prB P bs ws=true) (hz:decide (prV P bs ws=1)=true) (hW:∀ u,Below w0.heap.size w0 u→Calls Try.prog 15 #[grp P Q G H,.int .i64 (n:Nat),.slice pp m capp] u fun e w'=>∃ v,e=.returned v∧∃ a k c,v=.tuple #[.slice a k c,.int .i64 0]∧ws.length=k∧Below u.heap.size u w'∧RN w'.heap.size w' a k c ws):Calls Try.prog 62 #[grp P Q G H,.slice pv n capv,.slice pp m capp] w0 fun e w'=>e=.returned (.tuple #[])∧Below w0.heap.size w0 w':=by
 refine Kc (args:=[grp P Q G H,.slice pv n capv,.slice pp m capp]) Try.func62 rfl Try.ntmps62 (by rfl) fun a F HM=>?_
 refine Kgr ?_
 refine Jn F HM (Ja rfl _) rfl (by rfl) (Kn (F.ev rfl)) fun a w gg F HM=>?_
 refine Jf ?_
 refine Kgr ?_
 refine lxv (grp P Q G H) F (Jy (F.ev rfl) (HM.get 0 rfl)) fun a F=>?_
 refine lxv (.slice pv n capv) F (Jc (F.ev rfl)) fun a F=>?_
 refine lxv (.int .i64 (n:Nat)) F (Ur (F.ev rfl)) fun a F=>?_
 refine lxv (.slice pp m capp) F (Jc (F.ev rfl)) fun a F=>?_
 refine Xo F (Ja rfl _) rfl (by rfl) (Ji Try.func15 (by kernel_rfl) (by rfl) (.cons (F.ev rfl) (.cons (F.ev rfl) (.cons (F.ev rfl) .nil))) _) (hW _ HM.bel) fun a w u hu F=>?_
 obtain ⟨a_,k_,c_,rfl,hk,z,rw1⟩:=hu
 replace HM:=HM.on z
 clear z
 refine lxv (.tuple #[.slice a_ k_ c_,.int .i64 0]) F (Jc (F.ev rfl)) fun a F=>?_
 refine lxv (.slice a_ k_ c_) F (Jk (F.ev rfl) rfl) fun a F=>?_
 refine lxv (.int .i64 0) F (Jk (F.ev rfl) rfl) fun a F=>?_
 refine lxv (.slice a_ k_ c_) F (Jg (F.ev rfl)) fun a F=>?_
 refine lxv (.int .i64 0) F (Jg (F.ev rfl)) fun a F=>?_
 refine Jf ?_
 refine Kgr ?_
 refine lxv (.int .i64 0) F (Jc (F.ev rfl)) fun a F=>?_
 refine lxv (.bool false) F (Ua (u:=.int .i64 0) (v:=.int .i64 0) (fun ρ hx hy=>by simp only [execOp,hx,hy];simp [go_sem]) (F.ev rfl) rfl) fun a F=>?_
 refine Jf ?_
 refine Kgq ?_
 refine wp_cond_false (F.ev rfl) ?_
 refine Kgr ?_
 refine lxv (grp P Q G H) F (Jy (F.ev rfl) (HM.get 0 rfl)) fun a F=>?_
 refine lxv (.slice pv n capv) F (Jc (F.ev rfl)) fun a F=>?_
 refine lxv (.slice a_ k_ c_) F (Jc (F.ev rfl)) fun a F=>?_
 refine Jr F (Ja rfl _) rfl (by rfl) (Ji Try.func59 (by kernel_rfl) (by rfl) (.cons (F.ev rfl) (.cons (F.ev rfl) (.cons (F.ev rfl) .nil))) _) (Jff P Q G H n capv k_ c_ pv a_ bs ws hP _ hpb (rv.call HM.bel HM.bel.size) rw1) fun a w z F=>?_
 replace HM:=HM.on z
 clear z
 refine lxv (.tuple #[num ((prV P bs ws)),.int .i64 0]) F (Jc (F.ev rfl)) fun a F=>?_
 refine lxv (num ((prV P bs ws))) F (Jk (F.ev rfl) rfl) fun a F=>?_
 refine lxv (.int .i64 0) F (Jk (F.ev rfl) rfl) fun a F=>?_
 refine Jn F HM (Ja rfl _) rfl (by rfl) (Kd) fun a w gx F HM=>?_
 refine Ju F HM (Ja rfl _) rfl (k:=0) rfl (Ka (F.ev rfl) (F.ev rfl) (HM.get 0 rfl)) (M2:=[(gx,24,ncs ((prV P bs ws))),(gg,26,gcs P Q G H)]) (rfl) fun w HM=>?_
 refine lxv (.int .i64 0) F (Jg (F.ev rfl)) fun a F=>?_
 refine Jf ?_
 refine Kgr ?_
 refine lxv (.int .i64 0) F (Jc (F.ev rfl)) fun a F=>?_
 refine lxv (.bool false) F (Ua (u:=.int .i64 0) (v:=.int .i64 0) (fun ρ hx hy=>by simp only [execOp,hx,hy];simp [go_sem]) (F.ev rfl) rfl) fun a F=>?_
 refine lxv (.bool false) F (Jc (F.ev rfl)) fun a F=>?_
 refine lxw 31 false (num ((prV P bs ws))) F (Kg (F.ev rfl) (HM.get 0 rfl)) fun a F=>?_
 refine lxw 31 false (num 1) F (o_buildW 1 (by decide) rfl) fun a F=>?_
 refine lxw 31 false (.bool false) F (Jax hX (by decide) hz (F.ev rfl) (F.ev rfl)) fun a F=>?_
 refine lxv (.bool false) F (Jt (b:=false) (r:=.bool false) (F.ev rfl) rfl (F.ev rfl) rfl) fun a F=>?_
 refine Jf ?_
 refine Kgq ?_
 refine wp_cond_false (F.ev rfl) ?_
 refine Kgq ?_
 exact bodyPost_end (Vt rfl) F.defers ⟨rfl,HM.bel⟩

set_option maxRecDepth 100000 in
set_option maxHeartbeats 800000 in
theorem must_n (P Q G H n m capv capp:Nat) (pv pp:Option Addr) (bs ps:List Nat) (w0:World) (hP:P<2^256) (hQ:Q<2^256) (rv:RN w0.heap.size w0 pv n capv bs) (ws:List Nat) (hX:prV P bs ws<2^256) (hpb:prB P bs ws=true) (hz:decide (prV P bs ws=1)=false) (hW:∀ u,Below w0.heap.size w0 u→Calls Try.prog 15 #[grp P Q G H,.int .i64 (n:Nat),.slice pp m capp] u fun e w'=>∃ v,e=.returned v∧∃ a k c,v=.tuple #[.slice a k c,.int .i64 0]∧ws.length=k∧Below u.heap.size u w'∧RN w'.heap.size w' a k c ws):Calls Try.prog 62 #[grp P Q G H,.slice pv n capv,.slice pp m capp] w0 fun e w'=>e=.panicked [{ v:=.iface 85 (.agg #[.int .i64 0]),recovered:=false }]∧Below w0.heap.size w0 w':=by
 refine Kc (args:=[grp P Q G H,.slice pv n capv,.slice pp m capp]) Try.func62 rfl Try.ntmps62 (by rfl) fun a F HM=>?_
 refine Kgr ?_
 refine Jn F HM (Ja rfl _) rfl (by rfl) (Kn (F.ev rfl)) fun a w gg F HM=>?_
 refine Jf ?_
 refine Kgr ?_
 refine lxv (grp P Q G H) F (Jy (F.ev rfl) (HM.get 0 rfl)) fun a F=>?_
 refine lxv (.slice pv n capv) F (Jc (F.ev rfl)) fun a F=>?_
 refine lxv (.int .i64 (n:Nat)) F (Ur (F.ev rfl)) fun a F=>?_
 refine lxv (.slice pp m capp) F (Jc (F.ev rfl)) fun a F=>?_
 refine Xo F (Ja rfl _) rfl (by rfl) (Ji Try.func15 (by kernel_rfl) (by rfl) (.cons (F.ev rfl) (.cons (F.ev rfl) (.cons (F.ev rfl) .nil))) _) (hW _ HM.bel) fun a w u hu F=>?_
 obtain ⟨a_,k_,c_,rfl,hk,z,rw1⟩:=hu
 replace HM:=HM.on z
 clear z
 refine lxv (.tuple #[.slice a_ k_ c_,.int .i64 0]) F (Jc (F.ev rfl)) fun a F=>?_
 refine lxv (.slice a_ k_ c_) F (Jk (F.ev rfl) rfl) fun a F=>?_
 refine lxv (.int .i64 0) F (Jk (F.ev rfl) rfl) fun a F=>?_
 refine lxv (.slice a_ k_ c_) F (Jg (F.ev rfl)) fun a F=>?_
 refine lxv (.int .i64 0) F (Jg (F.ev rfl)) fun a F=>?_
 refine Jf ?_
 refine Kgr ?_
 refine lxv (.int .i64 0) F (Jc (F.ev rfl)) fun a F=>?_
 refine lxv (.bool false) F (Ua (u:=.int .i64 0) (v:=.int .i64 0) (fun ρ hx hy=>by simp only [execOp,hx,hy];simp [go_sem]) (F.ev rfl) rfl) fun a F=>?_
 refine Jf ?_
 refine Kgq ?_
 refine wp_cond_false (F.ev rfl) ?_
 refine Kgr ?_
 refine lxv (grp P Q G H) F (Jy (F.ev rfl) (HM.get 0 rfl)) fun a F=>?_
 refine lxv (.slice pv n capv) F (Jc (F.ev rfl)) fun a F=>?_
 refine lxv (.slice a_ k_ c_) F (Jc (F.ev rfl)) fun a F=>?_
 refine Jr F (Ja rfl _) rfl (by rfl) (Ji Try.func59 (by kernel_rfl) (by rfl) (.cons (F.ev rfl) (.cons (F.ev rfl) (.cons (F.ev rfl) .nil))) _) (Jff P Q G H n capv k_ c_ pv a_ bs ws hP _ hpb (rv.call HM.bel HM.bel.size) rw1) fun a w z F=>?_
 replace HM:=HM.on z
 clear z
 refine lxv (.tuple #[num ((prV P bs ws)),.int .i64 0]) F (Jc (F.ev rfl)) fun a F=>?_
 refine lxv (num ((prV P bs ws))) F (Jk (F.ev rfl) rfl) fun a F=>?_
 refine lxv (.int .i64 0) F (Jk (F.ev rfl) rfl) fun a F=>?_
 refine Jn F HM (Ja rfl _) rfl (by rfl) (Kd) fun a w gx F HM=>?_
 refine Ju F HM (Ja rfl _) rfl (k:=0) rfl (Ka (F.ev rfl) (F.ev rfl) (HM.get 0 rfl)) (M2:=[(gx,24,ncs ((prV P bs ws))),(gg,26,gcs P Q G H)]) (rfl) fun w HM=>?_
 refine lxv (.int .i64 0) F (Jg (F.ev rfl)) fun a F=>?_
 refine Jf ?_
 refine Kgr ?_
 refine lxv (.int .i64 0) F (Jc (F.ev rfl)) fun a F=>?_
 refine lxv (.bool false) F (Ua (u:=.int .i64 0) (v:=.int .i64 0) (fun ρ hx hy=>by simp only [execOp,hx,hy];simp [go_sem]) (F.ev rfl) rfl) fun a F=>?_
 refine lxv (.bool false) F (Jc (F.ev rfl)) fun a F=>?_
 refine lxw 31 false (num ((prV P bs ws))) F (Kg (F.ev rfl) (HM.get 0 rfl)) fun a F=>?_
 refine lxw 31 false (num 1) F (o_buildW 1 (by decide) rfl) fun a F=>?_
 refine lxw 31 false (.bool true) F (Jax hX (by decide) hz (F.ev rfl) (F.ev rfl)) fun a F=>?_
 refine lxv (.bool true) F (Jt (b:=false) (r:=.bool true) (F.ev rfl) rfl (F.ev rfl) rfl) fun a F=>?_
 refine Jf ?_
 refine Kgq ?_
 refine wp_cond_true (F.ev rfl) ?_
 refine Kgr ?_
 refine lxv (.int .i64 0) F (Jc (F.ev rfl)) fun a F=>?_
 refine lxv (.agg #[.int .i64 0]) F (o_buildFl (F.ev rfl)) fun a F=>?_
 refine lxv (.iface 85 (.agg #[.int .i64 0])) F (o_ifaceFl (F.ev rfl)) fun a F=>?_
 refine lx_panic (Ja rfl _) (o_panic (F.ev rfl)) ?_
 exact ⟨F.defers,rfl,HM.bel⟩

section
variable {x y:Operand} {dst:Option Tmp} {ty:TypeId} {pos:String} {after:Array Edge} {guard:Option (Nat × Bool)} {ρ:Operand→Value} {w:World} {g o:Nat}
theorem o_allocFl:(execOp ρ ⟨dst,.alloc 85,ty,pos,after,guard⟩).run Try.prog w=.ok (.value (.pointer (some ⟨w.heap.size,0,none⟩))) (w.alloc (.cells #[.int .i64 0] 85)):=by simp [execOp,go_sem]
theorem o_storeFl {k:Int} {u:Value} (hx:ρ x=.pointer (some ⟨g,0,none⟩)) (hy:ρ y=.agg #[.int .i64 k]) (h:At w g 85 #[u]):(execOp ρ ⟨dst,.store 85 x y,ty,pos,after,guard⟩).run Try.prog w=.ok .skip (puts w g 0 [.int .i64 k]):=by
 have c0:w.cell? ⟨g,0,none⟩=some u:=h.cell 0
 have f0:=h.frozen 0
 simp [execOp,hx,hy,go_sem,puts,c0,f0]
theorem o_fieldFl (hx:ρ x=.pointer (some ⟨g,0,none⟩)):(execOp ρ ⟨dst,.fieldAddr 85 x 0,ty,pos,after,guard⟩).run Try.prog w=.ok (.value (.pointer (some ⟨g,0,none⟩))) w:=by simp [execOp,hx,go_sem]
theorem o_loadEr {k:Int} (hx:ρ x=.pointer (some ⟨g,o,none⟩)) (h:w.cell? ⟨g,o,none⟩=some (.int .i64 k)):(execOp ρ ⟨dst,.load 33 x,ty,pos,after,guard⟩).run Try.prog w=.ok (.value (.int .i64 k)) w:=by simp [execOp,hx,go_sem,h]
theorem run_asY (u:Value) (w:World):(Instr.typeAssert (.iface 85 u) 20 85 true).run Try.prog w=.ok (.tuple #[u,.bool true]) w:=by
 first | kernel_rfl | (simp [Instr.typeAssert,go_sem,Try.underlying85])
theorem run_asN (w:World):(Instr.typeAssert .nilIface 20 85 true).run Try.prog w=.ok (.tuple #[.agg #[.int .i64 0],.bool false]) w:=by
 first | kernel_rfl | (simp [Instr.typeAssert,go_sem,Try.underlying85])
theorem o_assertY {k:Int} (hx:ρ x=.iface 85 (.agg #[.int .i64 k])):(execOp ρ ⟨dst,.typeAssert x 20 85 true,ty,pos,after,guard⟩).run Try.prog w=.ok (.value (.tuple #[.agg #[.int .i64 k],.bool true])) w:=by simp [execOp,hx,go_sem,run_asY,Result.andThen]
theorem o_assertN (hx:ρ x=.nilIface):(execOp ρ ⟨dst,.typeAssert x 20 85 true,ty,pos,after,guard⟩).run Try.prog w=.ok (.value (.tuple #[.agg #[.int .i64 0],.bool false])) w:=by simp [execOp,hx,go_sem,run_asN,Result.andThen]
end
set_option maxRecDepth 100000 in
set_option maxHeartbeats 800000 in
theorem rec_p (k:Int) (n ga ge n0:Nat) (M:List (Nat × TypeId × Array Value)) (w0 w:World) (HM:Mem n0 w0 w ((ga,4,#[.bool false])::(ge,33,#[.int .i64 0])::M)):CallsDIn Fence.wide n Try.prog 60 #[.pointer (some ⟨ga,0,none⟩),.pointer (some ⟨ge,0,none⟩)] (.panicking [{ v:=.iface 85 (.agg #[.int .i64 k]),recovered:=false }]) w fun e u' w'=>e=.returned (.tuple #[])∧u'=.panicking [{ v:=.iface 85 (.agg #[.int .i64 k]),recovered:=true }]∧Mem n0 w0 w' ((ga,4,#[.bool false])::(ge,33,#[.int .i64 k])::M):=by
 refine sx_enterS (args:=[.pointer (some ⟨ga,0,none⟩),.pointer (some ⟨ge,0,none⟩)]) Try.func60 rfl Try.ntmps60 (by rfl) fun a c₀ cs hu F=>?_
 refine wpS_seq ?_
 refine rS_lit (v:=.iface 85 (.agg #[.int .i64 k])) (cs':={ c₀ with mode:=.panicking [{ v:=.iface 85 (.agg #[.int .i64 k]),recovered:=true }] }::cs) F rfl rfl (by rfl) o_recover (by simp [recoverD,hu]) (by rintro ⟨_,_,_,h,_⟩;cases h) fun a F=>?_
 refine lxv (.tuple #[.agg #[.int .i64 k],.bool true]) F (o_assertY (F.ev rfl)) fun a F=>?_
 refine lxv (.tuple #[.agg #[.int .i64 k],.bool true]) F (Jc (F.ev rfl)) fun a F=>?_
 refine lxv (.agg #[.int .i64 k]) F (Jk (F.ev rfl) rfl) fun a F=>?_
 refine lxv (.bool true) F (Jk (F.ev rfl) rfl) fun a F=>?_
 refine Jn F HM (Ja rfl _) rfl (by rfl) (o_allocFl) fun a w gf F HM=>?_
 refine Ju F HM (Ja rfl _) rfl (k:=0) rfl (o_storeFl (F.ev rfl) (F.ev rfl) (HM.get 0 rfl)) (M2:=((gf,85,#[.int .i64 k])::(ga,4,#[.bool false])::(ge,33,#[.int .i64 0])::M)) (rfl) fun w HM=>?_
 refine lxv (.bool true) F (Jg (F.ev rfl)) fun a F=>?_
 refine Jf ?_
 refine wpS_of_wp ?_
 refine Kgr ?_
 refine lxv (.bool true) F (Jc (F.ev rfl)) fun a F=>?_
 refine Jf ?_
 refine Kgq ?_
 refine wp_cond_true (F.ev rfl) ?_
 replace HM:=HM.front 2 rfl (M2:=((ge,33,#[.int .i64 0])::(gf,85,#[.int .i64 k])::(ga,4,#[.bool false])::M)) rfl
 replace HM:=HM.front 2 rfl (M2:=((ga,4,#[.bool false])::(ge,33,#[.int .i64 0])::(gf,85,#[.int .i64 k])::M)) rfl
 refine Kgq ?_
 refine Ks (S:=fun w'=>Mem _ _ w' ((gf,85,#[.int .i64 k])::M)) HM (fun _ h=>h.subl (by repeat (first | exact List.Sublist.refl _ | refine List.Sublist.cons _ ?_))) (by kernel_rfl) fun w HM HBW=>?_
 clear HBW
 try simp only [List.append_eq,List.cons_append,List.nil_append]
 refine Kw [⟨0,10,[],.val (.pointer (some ⟨gf,0,none⟩)),true⟩,
   ⟨1,11,[0],.val (.int .i64 k),true⟩] 2 _ F HM (fun _ h=>h.subl (by first | exact List.Sublist.refl _ | (repeat (first | exact List.Sublist.refl _ | refine List.Sublist.cons_cons _ ?_ | refine List.Sublist.cons _ ?_)))) (by kernel_rfl) (by rfl) ?_ ?_ ?_ ?_ ?_ ?_ ?_
 ·kernel_rfl
 ·exact of_decide_eq_true (by kernel_rfl)
 ·(repeat refine all_cons ⟨_,by rfl,by rfl⟩ ?_);exact Jj
 ·kernel_rfl
 ·refine all_cons ?_ (all_cons ?_ (Jj))
  ·exact Ug _ _ _ _ _ _ _ (by rfl) (by rfl) Jh (fun ρ w kn hs=>o_fieldFl (kn _ _ (F.old (by rfl) rfl)))
  ·exact crS (fun ρ w kn hs=>o_loadEr (kn _ _ (kc 0 10)) ((((hs.get 0 rfl)).cell 0).trans rfl))
 ·refine all_cons ?_ (all_cons ?_ (Jj))
  ·exact sA
  ·exact sA
 intro gs rs a w hgs hrs F HM HBW HR HO HT
 obtain rfl:=nl0 rs hrs
 obtain rfl:=nl0 gs hgs
 clear hrs hgs HR HBW HO
 clear HT
 refine Vh (i:=2) HM (by kernel_rfl) (by rfl) rfl rfl (k:=0) rfl (o_storeBo (F.ev rfl) rfl (HM.get 0 rfl)) (M2:=((ga,4,#[.bool false])::(ge,33,#[.int .i64 0])::(gf,85,#[.int .i64 k])::M)) (rfl) (fun _ h=>h.subl (by first | exact List.Sublist.refl _ | (repeat (first | exact List.Sublist.refl _ | refine List.Sublist.cons_cons _ ?_ | refine List.Sublist.cons _ ?_)))) fun w HM=>?_
 refine Vh (i:=3) HM (by kernel_rfl) (by rfl) rfl rfl (k:=1) rfl (Vi (F.ev rfl) (F.ev rfl) (HM.get 1 rfl)) (M2:=((ga,4,#[.bool false])::(ge,33,#[.int .i64 k])::(gf,85,#[.int .i64 k])::M)) (rfl) (fun _ h=>h.subl (by first | exact List.Sublist.refl _ | (repeat (first | exact List.Sublist.refl _ | refine List.Sublist.cons_cons _ ?_ | refine List.Sublist.cons _ ?_)))) fun w HM=>?_
 refine Ui (by kernel_rfl) ?_ _
 replace HM:=HM.erase 2 (M2:=((ga,4,#[.bool false])::(ge,33,#[.int .i64 k])::M)) rfl
 refine Kgq ?_
 exact ⟨F.defers,_,rfl,_,Vt rfl,rfl,rfl,HM⟩

set_option maxRecDepth 100000 in
set_option maxHeartbeats 800000 in
theorem rec_r (k:Int) (b:Bool) (n ga ge n0:Nat) (M:List (Nat × TypeId × Array Value)) (w0 w:World) (HM:Mem n0 w0 w ((ga,4,#[.bool b])::(ge,33,#[.int .i64 k])::M)):CallsDIn Fence.wide n Try.prog 60 #[.pointer (some ⟨ga,0,none⟩),.pointer (some ⟨ge,0,none⟩)] .returning w fun e u' w'=>e=.returned (.tuple #[])∧u'=.returning∧Mem n0 w0 w' ((ga,4,#[.bool b])::(ge,33,#[.int .i64 k])::M):=by
 refine sx_enterS (args:=[.pointer (some ⟨ga,0,none⟩),.pointer (some ⟨ge,0,none⟩)]) Try.func60 rfl Try.ntmps60 (by rfl) fun a c₀ cs hu F=>?_
 refine wpS_seq ?_
 refine rS_lit (v:=.nilIface) (cs':=c₀::cs) F rfl rfl (by rfl) o_recover (by simp [recoverD,hu]) (by rintro ⟨_,_,_,h,_⟩;cases h) fun a F=>?_
 refine lxv (.tuple #[.agg #[.int .i64 0],.bool false]) F (o_assertN (F.ev rfl)) fun a F=>?_
 refine lxv (.tuple #[.agg #[.int .i64 0],.bool false]) F (Jc (F.ev rfl)) fun a F=>?_
 refine lxv (.agg #[.int .i64 0]) F (Jk (F.ev rfl) rfl) fun a F=>?_
 refine lxv (.bool false) F (Jk (F.ev rfl) rfl) fun a F=>?_
 refine Jn F HM (Ja rfl _) rfl (by rfl) (o_allocFl) fun a w gf F HM=>?_
 refine Ju F HM (Ja rfl _) rfl (k:=0) rfl (o_storeFl (F.ev rfl) (F.ev rfl) (HM.get 0 rfl)) (M2:=((gf,85,#[.int .i64 0])::(ga,4,#[.bool b])::(ge,33,#[.int .i64 k])::M)) (rfl) fun w HM=>?_
 refine lxv (.bool false) F (Jg (F.ev rfl)) fun a F=>?_
 refine Jf ?_
 refine wpS_of_wp ?_
 refine Kgr ?_
 refine lxv (.bool false) F (Jc (F.ev rfl)) fun a F=>?_
 refine Jf ?_
 refine Kgq ?_
 refine wp_cond_false (F.ev rfl) ?_
 refine Kgq ?_
 exact ⟨F.defers,_,rfl,_,Vt rfl,rfl,hu,HM.tail (A:=[(gf,85,#[.int .i64 0])])⟩

end Go.Proofs.Ytcbnmdkmfdjpiaa
