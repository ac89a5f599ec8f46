import Derived.Deep.Cut
import Derived.Test.YtcbnmdkmfdjpiaaPDu3
import Derived.Test.YtcbnmdkmfdjpiaaPShort
namespace Go.Proofs.Ytcbnmdkmfdjpiaa
set_option maxRecDepth 100000
open Go.RowKit
set_option linter.unusedSimpArgs false
set_option linter.unusedVariables false
attribute [local go_sem ↓] Go.wp_at_zero Go.wp_at_succ

set_option maxRecDepth 100000 in
set_option maxHeartbeats 800000 in
theorem mayMul_y (P Q G H m capw:Nat) (pw:Option Addr) (bs:List Nat) (w0:World) (hP:P<2^256) (hn:m≤1000) (rw_:RN w0.heap.size w0 pw m capw bs) (hz:prB P bs (List.replicate m 0)=true):Calls Try.prog 43 #[grp P Q G H,.slice pw m capw] w0 fun e w'=>e=.returned (.bool true)∧Below w0.heap.size w0 w':=by
 refine Kc (args:=[grp P Q G H,.slice pw m capw]) Try.func43 rfl Try.ntmps43 (by rfl) fun a F HM=>?_
 refine Kgr ?_
 refine Jn F HM (Ja rfl _) rfl (by rfl) (Kn (F.ev rfl)) fun a w gg F HM=>?_
 refine lxv (.bool false) F (Jg rfl) fun a F=>?_
 refine Jf ?_
 refine Kgq ?_
 refine Ks (S:=fun w'=>Mem _ _ w' [(gg,26,gcs P Q G H)]) HM (fun _ h=>h) (by kernel_rfl) fun w HM HBW=>?_
 clear HBW
 try simp only [List.append_eq,List.cons_append,List.nil_append]
 refine Kw [⟨0,8,[],.val (grp P Q G H),true⟩,
   ⟨1,9,[0],.val (.slice pw m capw),true⟩,
   ⟨2,10,[1],.val (.slice pw m capw),true⟩,
   ⟨9,5,[],.cell 24 (ncs 0),false⟩,
   ⟨3,11,[2],.val (.int .i64 (m:Nat)),true⟩,
   ⟨4,12,[4],.row 24 (madeCells (num 0).cells (m*4)) m,false⟩,
   ⟨5,13,[0,1,4,5],.val (.tuple #[num ((prV P bs (List.replicate m 0))),.int .i64 0]),false⟩,
   ⟨6,7,[6],.val (.tuple #[num ((prV P bs (List.replicate m 0))),.int .i64 0]),true⟩,
   ⟨7,14,[7],.val (num ((prV P bs (List.replicate m 0)))),true⟩,
   ⟨8,15,[7,8],.val (.int .i64 0),true⟩] 2 _ F HM (fun _ h=>h.subl (by first | exact List.Sublist.refl _ | (repeat (first | exact List.Sublist.refl _ | refine List.Sublist.cons_cons _ ?_ | refine List.Sublist.cons _ ?_)))) (by kernel_rfl) (by rfl) ?_ ?_ ?_ ?_ ?_ ?_ ?_
 ·kernel_rfl
 ·exact of_decide_eq_true (by kernel_rfl)
 ·(repeat refine all_cons ⟨_,by rfl,by rfl⟩ ?_);exact Jj
 ·kernel_rfl
 ·(repeat (refine all_cons ?_ ?_;rotate_left));exact Jj
  all_goals try exact Jq _ (by rfl)
  ·exact Ug _ _ _ _ _ _ _ (by rfl) (by rfl) Jh (fun ρ w kn hs=>Jy (kn _ _ (F.old (by rfl) rfl)) (hs.get 0 rfl))
  ·exact Ug _ _ _ _ _ _ _ (by rfl) (by rfl) Jh (fun ρ w kn hs=>Jc (kn _ _ (F.old (by rfl) rfl)))
  ·exact Ug _ _ _ _ _ _ _ (by rfl) (by rfl) Jh (fun ρ w kn hs=>Jc (kn _ _ (F.old (by rfl) rfl)))
  ·exact crS (fun ρ w kn hs=>Ur (kn _ _ (kc 2 10)))
  ·exact crS (fun ρ w kn hs=>Jc (kn _ _ (kc 6 13)))
  ·exact crS (fun ρ w kn hs=>Jk (kn _ _ (kc 7 7)) rfl)
  ·exact crS (fun ρ w kn hs=>Jk (kn _ _ (kc 7 7)) rfl)
 ·(repeat (refine all_cons ?_ ?_;rotate_left));exact Jj
  all_goals try exact sA
  ·exact fun _=>Jam _ _ _ _ _ _ _ _ (by rfl) (by rfl) (Nat.le_refl _) (fun ρ w=>Kd)
  ·exact fun _=>Xr _ _ _ _ _ _ _ _ (by rfl) (by rfl) (fun ρ w kn=>o_make (by omega) (kn _ _ (kc 4 11)) (kn _ _ (kc 4 11)))
  ·intro _
   refine Wl _ 59 _ _ [.tmp 8,.tmp 9,.tmp 12] _ _ _ _ _ (by rfl) Try.func59 (by kernel_rfl) (by rfl) (by rfl) (fun vs w hl hb hp=>?_)
   obtain ⟨g12,he12,hat12⟩:=Jci hl hp 5 12 24 (madeCells (num 0).cells (m*4)) m (of_decide_eq_true (by rfl)) (by rfl) (by rfl) (by rfl)
   exact ⟨[grp P Q G H,.slice pw m capw,.slice (some ⟨g12,0,none⟩) m m],(Ue ((kc 0 8) vs w hl hp) (Ue ((kc 1 9) vs w hl hp) (Ue (he12) Vz))),Jff P Q G H m capw m m pw _ bs (List.replicate m 0) hP _ hz (rw_.call (HM.on hb).bel (HM.on hb).bel.size) ((Pf.made m).rsA hat12 (by simp) (Nat.le_refl _) (by omega) (fun x hx=>by rw [List.eq_of_mem_replicate hx];decide))⟩
 intro gs rs a w hgs hrs F HM HBW HR HO HT
 obtain ⟨go,rfl⟩:=nl1 rs hrs
 obtain ⟨gz,rfl⟩:=nl1 gs hgs
 have hato:=HR _ List.mem_cons_self
 clear hrs hgs HR HBW HO
 clear HT
 refine Vh (i:=10) HM (by kernel_rfl) (by rfl) rfl rfl (k:=0) rfl (Ka (F.ev rfl) (F.ev rfl) (HM.get 0 rfl)) (M2:=[(gz,24,ncs ((prV P bs (List.replicate m 0)))),(gg,26,gcs P Q G H)]) (rfl) (fun _ h=>h.subl (by first | exact List.Sublist.refl _ | (repeat (first | exact List.Sublist.refl _ | refine List.Sublist.cons_cons _ ?_ | refine List.Sublist.cons _ ?_)))) fun w HM=>?_
 refine Kq (i:=11) (d:=6) (x:=.tmp 15) (v:=.int .i64 0) F ((HM.subl (by first | exact List.Sublist.refl _ | (repeat (first | exact List.Sublist.refl _ | refine List.Sublist.cons_cons _ ?_ | refine List.Sublist.cons _ ?_))))) (by kernel_rfl) (by rfl) (by rfl) (F.ev rfl) fun a F=>?_
 refine Ui (by kernel_rfl) ?_ _
 refine Kgr ?_
 refine lxv (.int .i64 0) F (Jc (F.ev rfl)) fun a F=>?_
 refine lxv (.bool true) F (Ua (u:=.int .i64 0) (v:=.int .i64 0) (fun ρ hx hy=>by simp only [execOp,hx,hy];simp [go_sem]) (F.ev rfl) rfl) fun a F=>?_
 refine lxv (.bool true) F (Jg (F.ev rfl)) fun a F=>?_
 refine Jf ?_
 refine Kgq ?_
 refine wp_ret ?_
 repeat (first | refine Jv ?_ | refine Jp ?_)
 exact Kv F HM (Kt F rfl (s:=4) rfl)

set_option maxRecDepth 100000 in
set_option maxHeartbeats 800000 in
theorem powers_ex (P Q G H k:Nat) (w0:World):Calls Try.prog 61 #[grp P Q G H,.int .i64 (k:Nat)] w0 fun e w'=>∃ u,e=.returned u∧∃ gN gG,u=.func (.func 72) #[] #[.pointer (some ⟨gN,0,none⟩),.pointer (some ⟨gG,0,none⟩)]∧Below w0.heap.size w0 w'∧w0.heap.size≤gN∧w0.heap.size≤gG∧gN≠gG∧At w' gN 3 #[.int .i64 (k:Nat)]∧At w' gG 26 (gcs P Q G H):=by
 refine Kc (args:=[grp P Q G H,.int .i64 (k:Nat)]) Try.func61 rfl Try.ntmps61 (by rfl) fun a F HM=>?_
 refine Kgr ?_
 refine Jn F HM (Ja rfl _) rfl (by rfl) (Kn (F.ev rfl)) fun a w gg F HM=>?_
 refine Jn F HM (Ja rfl _) rfl (by rfl) (Jao (F.ev rfl)) fun a w gn F HM=>?_
 refine lxv (.nilFunc) F (Jg rfl) fun a F=>?_
 refine Jf ?_
 refine Kgr ?_
 refine lxv (.func (.func 72) #[] #[.pointer (some ⟨gn,0,none⟩),.pointer (some ⟨gg,0,none⟩)]) F (Jfz (F.ev rfl) (F.ev rfl)) fun a F=>?_
 refine lxv (.func (.func 72) #[] #[.pointer (some ⟨gn,0,none⟩),.pointer (some ⟨gg,0,none⟩)]) F (Jg (F.ev rfl)) fun a F=>?_
 refine Jf ?_
 refine Kgq ?_
 refine wp_ret ?_
 repeat (first | refine Jv ?_ | refine Jp ?_)
 exact bodyPost_ret (Kt F rfl (s:=4) rfl) F.defers ⟨_,rfl,gn,gg,rfl,HM.bel,HM.own _ List.mem_cons_self,HM.own _ (List.mem_cons_of_mem _ List.mem_cons_self),fun e=>by have:=(List.nodup_cons.1 HM.nd).1;simp [e] at this,HM.get 0 rfl,HM.get 1 rfl⟩

def Jdf (Q j:Nat):List Nat:=List.replicate j 0++[Ki Q 1]
abbrev PW:=Nat × Option Addr × Nat
def DX (Q k:Nat) (x:PW) (W:World):Prop:=x.1<k∧RN W.heap.size W x.2.1 (x.1+1) x.2.2 (Jdf Q x.1)
theorem pf_flatD {cs:Array Value} {xs:List Nat} (h:Pf cs xs) (hz:cs.size=xs.length*4):cs.toList.take (xs.length*4)=flat xs:=by
 rw [List.take_of_length_le (by rw [Array.length_toList];omega)]
 apply List.ext_getElem?
 intro j
 by_cases hj:j<xs.length*4
 ·have h1:=h.2 (j/4) (by omega) (j%4) (by omega)
  have h2:=Jaj xs (j/4) (by omega) (j%4) (by omega)
  rw [show j/4*4+j%4=j by omega] at h1 h2
  rw [h2,Array.getElem?_toList,h1]
 ·rw [List.getElem?_eq_none (by rw [Array.length_toList];omega),List.getElem?_eq_none (by rw [Jbc];omega)]
section
variable {P:Program} {ops:Array Oper} {Q:Exit→Act→World→Prop} {a:Act} {w:World} {N:Nat} {L:List (Nat × Value)} {df:List Deferred} {S:World→Prop} {md:Region.Mode} {fuel:Nat} {listed:Array Bool} {rest:List Oper} {o:Oper}
def Stp (P:Program) (md:Region.Mode) (ops:Array Oper) (Q:Exit→Act→World→Prop) (S:World→Prop) (fuel:Nat) (listed:Array Bool) (a:Act) (w:World) (i:Nat) (o:Oper):Prop:=
 ∀ K':Act→World→Prop,Shut (∀ a w,S w→(S w→wpAnyH P md ops Q S fuel (listed.setIfInBounds i true) a w)→K' a w)→if Region.wanted o (yielded ops a.tmps)=true then Oper.wp P o a w K' Q else K' (a.put o.dst undef) w
theorem stp_val {i d:Nat} {o:Oper} {v:Value} {w':World} (F:Fr a N L df) (hg:o.guard=none) (hdst:o.dst=some d) (hd:Nat.blt d N=true) (hrun:(execOp a.eval o).run P w=.ok (.value v) w') (hS:S w')
  (h:∀ a',Fr a' N ((d,v)::L) df→wpAnyH P md ops Q S fuel (listed.setIfInBounds i true) a' w'):Stp P md ops Q S fuel listed a w i o:=fun K hK=>Ub hg (Ko hrun (by
  rw [hdst]
  exact hK.out _ _ hS fun _=>h _ (F.put v hd)))
theorem sx_ready1 {i:Nat} {oi:Oper} (hr:Region.ready md ops listed=[i]) (hi:ops[i]? = some oi) (h1:Stp P md ops Q S fuel listed a w i oi):wpAnyH P md ops Q S (fuel+1) listed a w:=
 wpAnyH_ready hr (by simp) (.cons hi h1 .nil)
theorem o_panic {x:Operand} {dst:Option Tmp} {ty:TypeId} {pos:String} {after:Array Edge} {guard:Option (Nat × Bool)} {ρ:Operand→Value} {T:TypeId} {u:Value} (hx:ρ x=.iface T u):(execOp ρ ⟨dst,.panic x,ty,pos,after,guard⟩).run P w=.halt (.panic (.iface T u)) w:=by
 have h:(Instr.panic (.iface T u)).run P w=.halt (.panic (.iface T u)) w:=rfl
 simp [execOp,hx,go_sem,h,Result.andThen]
theorem lx_panic {v:Value} (hw:Region.wanted o (yielded ops a.tmps)=true) (hr:(execOp a.eval o).run P w=.halt (.panic v) w) (h:Q (.panic [{ v,recovered:=false }]) a w):wpList P ops Q (o::rest) a w:=by
 unfold wpList
 rw [if_pos hw]
 left
 unfold Oper.wp
 rw [hr]
 exact h
def Qs (n:Nat) (P:Program) (ops:Array Oper) (Q:Exit→Act→World→Prop) (m:Nat):Exit→Act→World→Prop
 | .normal,a,w=>wpAnyIn Fence.wide n P .any ops Q 2 (Array.replicate m true++#[false,false]) a w
 | _,_,_=>False
theorem anyIn_splitL {n m:Nat} {T:List Oper} (hc:(T.take m).all (fun o=>Jap o && o.guard.isNone)=true) (hk:Jcg T.toArray (T.take m).toArray m m (Array.replicate m false)=true)
  (h:wpAnyH P .any (T.take m).toArray (NoPanic (Qs n P T.toArray Q m)) S m (Array.replicate m false) a w):wpAnyIn Fence.wide n P .any T.toArray Q (m+2) (Array.replicate m false++#[false,false]) a w:=by
 refine anyIn_split (m:=m) (ops7:=(T.take m).toArray) (S:=S) (fun i hi=>by simp [List.getElem?_take,hi]) (fun i o hi ho=>?_) (by rintro ⟨_,_,h⟩;exact h) (fun _ _ _ h=>h) (fun _ _ h=>h) _ _ _ _ hk h
 have hm:o∈T.take m:=List.mem_of_getElem? (i:=i) (by rw [List.getElem?_take,if_pos hi];simpa using ho)
 have:=List.all_eq_true.1 hc o hm
 rw [Bool.and_eq_true] at this
 refine ⟨fun c e=>?_,by simpa using this.2⟩
 rw [Jap,e] at this
 have h2:false=true:=this.1
 cases h2
theorem li_last {n d d2 r m:Nat} {args:Array Value} {R:Ending→World→Prop} {o2:Oper} (F:Fr a N L df) (h1:Region.ready .any ops (Array.replicate m true++#[false,false])=[m]) (ho:ops[m]? = some o) (hg:o.guard=none) (hD:∀ c,o.op≠.defer c) (hdst:o.dst=some d) (hd:Nat.blt d N=true)
  (h2:Region.ready .any ops ((Array.replicate m true++#[false,false]).setIfInBounds m true)=[m+1]) (ho2:ops[m+1]? = some o2) (hg2:o2.guard=none) (hD2:∀ c,o2.op≠.defer c) (hdst2:o2.dst=some d2) (hd2:Nat.blt d2 N=true)
  (h3:Region.ready .any ops (((Array.replicate m true++#[false,false]).setIfInBounds m true).setIfInBounds (m+1) true)=[])
  (hr:(execOp a.eval o).run P w=(Instr.yield r args).run P w) (Y:YieldAt Fence.wide (n-1) P r args w R)
  (hr2:∀ (a:Act) (b:Bool) (L':List (Nat × Value)) (w:World),Fr a N ((d,.bool b)::L') df→(execOp a.eval o2).run P w=.ok (.value (.bool (!b))) w)
  (h:∀ e w',R e w'→(∃ b,e=.returned (.bool b)∧∀ a',Fr a' N ((d2,.bool (!b))::(d,.bool b)::L) df→Q .normal a' w')∨∃ ch,e=.panicked ch∧Q (.panic ch) a w') :
  wpAnyIn Fence.wide n P .any ops Q 2 (Array.replicate m true++#[false,false]) a w:=by
 obtain ⟨fn,tmps,assign,body,hy,hR⟩:=Y
 refine ⟨fun e=>(by rw [h1] at e;cases e),fun i hi=>?_⟩
 rw [h1] at hi
 obtain rfl:=List.mem_singleton.1 hi
 unfold wpOpIn
 rw [ho]
 have hw:Region.wanted o (yielded ops a.tmps)=true:=by unfold Region.wanted;rw [hg]
 simp only [hw,if_true]
 refine ⟨fun _ _=>trivial,?_⟩
 rw [Oper.semAt_eq _ _ _ hD,hr,hy,Oper.uponIn_round]
 refine ⟨fun h=>(by cases h),hR.mono fun e w' he=>?_⟩
 rcases h e w' he with ⟨b,rfl,hk⟩ | ⟨ch,rfl,hk⟩
 ·show wpAnyIn Fence.wide n P .any ops Q 1 _ (a.put o.dst (.bool b)) w'
  rw [hdst]
  have F1:=F.put (.bool b) hd
  refine ⟨fun e=>(by rw [h2] at e;cases e),fun i hi=>?_⟩
  rw [h2] at hi
  obtain rfl:=List.mem_singleton.1 hi
  unfold wpOpIn
  rw [ho2]
  have hw2:Region.wanted o2 (yielded ops (a.put (some d) (.bool b)).tmps)=true:=by unfold Region.wanted;rw [hg2]
  simp only [hw2,if_true]
  refine ⟨fun _ _=>trivial,?_⟩
  rw [Oper.semAt_eq _ _ _ hD2,hr2 _ b L w' F1]
  show wpAnyIn Fence.wide n P .any ops Q 0 _ ((a.put (some d) (.bool b)).put o2.dst (.bool (!b))) w'
  rw [hdst2]
  exact ⟨h3,hk _ (F1.put (.bool (!b)) hd2)⟩
 ·exact hk
end
set_option maxRecDepth 100000 in
set_option maxHeartbeats 800000 in
theorem pow_in (P Q G H k l gN gG n₀ n:Nat) (hQ:Q<2^256) (hk:k≤1000) (J:List PW→World→Prop) (Jx:List PanicEntry→World→Prop)
  (hZ:∀ pre W,J pre W→pre=[]∨1<Q)
  (hY : ∀ pre x W, J pre W → DX Q k x W → pre.length < k → YieldAt Fence.wide (n - 1) Try.prog l #[.slice x.2.1 (x.1 + 1) x.2.2] W fun e W' =>
   (e=.returned (.bool true)∧J (pre++[x]) W'∧KQ n₀ gN gG W W')∨(∃ ch,e=.panicked ch∧Jx ch W'))
  (W:World) (hW:n₀≤W.heap.size) (hJ:AbidesFrom W.heap.size J) (hN:At W gN 3 #[.int .i64 (k:Nat)]) (hG:At W gG 26 (gcs P Q G H)) (h0:J [] W) :
  CallsIn Fence.wide n Try.prog 72 #[.func (.yield l) #[] #[],.pointer (some ⟨gN,0,none⟩),.pointer (some ⟨gG,0,none⟩)] W fun e W'=>(∃ v xs,e=.returned v∧xs.map (·.1)=List.range k∧J xs W')∨(∃ ch,e=.panicked ch∧Jx ch W'):=by
 refine sx_enterI (args:=[.func (.yield l) #[] #[],.pointer (some ⟨gN,0,none⟩),.pointer (some ⟨gG,0,none⟩)]) Try.func72 rfl Try.ntmps72 (by rfl) fun a F=>?_
 repeat (first | refine Js ?_ | refine Jo ?_ | refine wpIn_seq ?_ | refine wpIn_block ?_ | refine wpIn_skip ?_)
 refine wpIn_region_lit ?_
 refine Uf (v:=.int .i64 (k:Nat)) F (fun _ h=>by cases h) (Ja rfl _) rfl (by rfl) (Vr (F.ev rfl) ((hN.cell 0).trans rfl)) fun a F=>?_
 refine Uf (v:=.int .i64 0) F (fun _ h=>by cases h) (Ja rfl _) rfl (by rfl) (Jc rfl) fun a F=>?_
 refine Jab ?_
 repeat (first | refine Js ?_ | refine Jo ?_ | refine wpIn_seq ?_ | refine wpIn_block ?_ | refine wpIn_skip ?_)
 refine wpIn_loop (fun a w=>∃ (i:Nat) (xs:List PW),i≤k∧xs.map (·.1)=List.range i∧Fr a 19 [(6,.int .i64 (i:Nat)),(5,.int .i64 (k:Nat)),(0,.func (.yield l) #[] #[]),(2,.pointer (some ⟨gG,0,none⟩))] []∧J xs w∧KQ n₀ gN gG W w) (fun a _=>k-(intOf (a.tmps.getD 6 undef)).toNat) ⟨0,[],Nat.zero_le _,rfl,F.sub [6,5,0,2],h0,KQ.refl _ _ _ _⟩ ?_
 clear F
 rintro aS w ⟨i,xs,hi,hxs,FS,hJi,hkq⟩
 have F:=FS
 have hG2:=hG.box hkq.2
 have hwr:n₀≤w.heap.size:=Nat.le_trans hW hkq.1.bel.size
 have hxl:xs.length=i:=by have:=congrArg List.length hxs;simpa using this
 by_cases hlt:i<k
 ·repeat (first | refine Js ?_ | refine Jo ?_ | refine wpIn_seq ?_ | refine wpIn_block ?_ | refine wpIn_skip ?_)
  refine wpIn_region_lit ?_
  refine Uf (v:=.bool true) F (fun _ h=>by cases h) (Ja rfl _) rfl (by rfl) (Ua (u:=.int .i64 (i:Nat)) (v:=.int .i64 (k:Nat)) (fun ρ hx hy=>by simp only [execOp,hx,hy];simp [go_sem];omega) (F.ev rfl) (F.ev rfl)) fun a F=>?_
  refine Jab ?_
  repeat (first | refine Js ?_ | refine Jo ?_ | refine wpIn_seq ?_ | refine wpIn_block ?_ | refine wpIn_skip ?_)
  refine wpIn_cond_true (F.ev rfl) ?_
  repeat (first | refine Js ?_ | refine Jo ?_ | refine wpIn_seq ?_ | refine wpIn_block ?_ | refine wpIn_skip ?_)
  refine wpIn_region_lit ?_
  refine Uf (v:=.int .i64 (i:Nat)) F (fun _ h=>by cases h) (Ja rfl _) rfl (by rfl) (Jc (F.ev rfl)) fun a F=>?_
  refine Uf (v:=.int .i64 (i:Nat)) F (fun _ h=>by cases h) (Ja rfl _) rfl (by rfl) (Jg (F.ev rfl)) fun a F=>?_
  refine Jab ?_
  repeat (first | refine Js ?_ | refine Jo ?_ | refine wpIn_seq ?_ | refine wpIn_block ?_ | refine wpIn_skip ?_)
  refine wpIn_region_any (by kernel_rfl) ?_
  have HM:=(Mem.start w).drew
  show wpAnyIn Fence.wide n Try.prog .any _ _ (7+2) (Array.replicate 7 false++#[false,false]) a w.drew
  generalize w.drew=wd at HM ⊢
  refine anyIn_splitL (m:=7) (S:=fun w'=>Mem w.heap.size w w' []) (by rfl) (by kernel_rfl) ?_
  replace HM:Mem w.heap.size w wd []:=HM
  have HLT:=HM.lt;have HLE:=Nat.le_trans HM.le HM.bel.size
  refine Kw [⟨0,9,[],.val (.func (.yield l) #[] #[]),true⟩,
   ⟨1,10,[0],.val (.int .i64 (i:Nat)),true⟩,
   ⟨2,11,[1],.own 24 (madeCells (num 0).cells (i*4)) i,false⟩,
   ⟨3,12,[1],.val (grp P Q G H),true⟩,
   ⟨4,13,[3],.val (num (Ki Q 1)),false⟩,
   ⟨5,14,[4],.own 24 (Xs (Ki Q 1)) 1,false⟩] 1 _ F HM (fun _ h=>h) (by kernel_rfl) (by rfl) ?_ ?_ ?_ ?_ ?_ ?_ ?_
  ·kernel_rfl
  ·exact of_decide_eq_true (by kernel_rfl)
  ·(repeat refine all_cons ⟨_,by rfl,by rfl⟩ ?_);exact Jj
  ·kernel_rfl
  ·(repeat (refine all_cons ?_ ?_;rotate_left));exact Jj
   all_goals try exact Jq _ (by rfl)
   ·exact Ug _ _ _ _ _ _ _ (by rfl) (by rfl) Jh (fun ρ w kn hs=>Jc (kn _ _ (F.old (by rfl) rfl)))
   ·exact Ug _ _ _ _ _ _ _ (by rfl) (by rfl) Jh (fun ρ w kn hs=>Jc (kn _ _ (F.old (by rfl) rfl)))
   ·exact Ug _ _ _ _ _ _ _ (by rfl) (by rfl) Jh (fun ρ w kn hs=>Jy (kn _ _ (F.old (by rfl) rfl)) (hG2.on hs.bel))
  ·(repeat (refine all_cons ?_ ?_;rotate_left));exact Jj
   all_goals try exact sA
   ·exact fun _=>Jdn _ _ _ _ _ _ _ _ _ (by rfl) (by rfl) (Nat.le_refl _) (fun ρ w kn=>o_make (by omega) (kn _ _ (kc 1 10)) (kn _ _ (kc 1 10)))
   ·exact fun _=>Jm _ 11 _ _ [.tmp 12,.const (.int .i64 1)] _ _ _ _ _ _ _ (by rfl) Try.func11 (by kernel_rfl) (by rfl) (by rfl) (Jh) (.cons (kc 3 12) (.cons (Je _) .nil)) ((fun w=>Jch P Q G H 1 hQ (by omega) (by omega) w))
   ·exact fun _=>Jdn _ _ _ _ _ _ _ _ _ (by rfl) (by rfl) (Nat.le_refl _) (fun ρ w kn=>Wx (kn _ _ (kc 4 13)))
  intro gs rs a w hgs hrs F HM HBW HR HO HT
  obtain ⟨gy,gu,rfl⟩:=nl2 rs hrs
  obtain rfl:=nl0 gs hgs
  have haty:=HR _ List.mem_cons_self
  have hatu:=HR _ (List.mem_cons_of_mem _ List.mem_cons_self)
  clear hrs hgs HR HBW
  clear HT
  have hoy:=HO gy (by simp [Xe]);have hou:=HO gu (by simp [Xe])
  have hyu:gy≠gu:=fun e=>by
   subst e
   have h:=(show w.heap[gy]? = _ from haty).symm.trans hatu
   injection h with h;injection h with h _ _
   replace h:madeCells (num 0).cells (i*4)=Xs (Ki Q 1):=h
   rcases Nat.eq_zero_or_pos i with rfl | hp
   ·have:=congrArg Array.size h;simp [madeCells,Xs] at this
   ·have h1:1<Q:=(hZ _ _ hJi).resolve_left (fun e=>by rw [e] at hxl;simp at hxl;omega)
    have h0:=((Pf.made i).2 0 (by simpa using hp) 0 (by decide))
    have h2:=((Pf.one (Ki Q 1)).2 0 (by simp) 0 (by decide))
    rw [h] at h0
    have h3:=h0.symm.trans h2
    rw [sof_one h1] at h3
    simp only [List.getElem_replicate,List.getElem_cons_zero] at h3
    injection h3 with h3;injection h3 with _ h3
    exact absurd h3 (by decide)
  replace HM:=HM.add (Nat.le_trans HLE hou) (fun x hx=>by have:=HLT x hx;omega) hatu
  replace HM:=HM.add (Nat.le_trans HLE hoy) (fun x hx=>by rcases List.mem_cons.1 hx with rfl | hx;(· exact fun e=>hyu e.symm);have:=HLT x hx;omega) haty
  clear HLT HLE HO hoy hou haty hatu hyu
  replace HM:=HM.front 1 rfl (M2:=[(gu,24,Xs (Ki Q 1)),(gy,24,madeCells (num 0).cells (i*4))]) rfl
  have lv:LR [(gy,24,madeCells (num 0).cells (i*4))] (.slice (some ⟨gy,0,none⟩) (List.replicate i 0).length i) (List.replicate i 0):=Or.inr ⟨gy,i,_,rfl,List.mem_cons_self,by simp,by omega,by simp [size_madeCells],pf_flatD (Pf.made i) (by simp [size_madeCells])⟩
  rw [List.length_replicate] at lv
  obtain ⟨v2,w2,hrun,R,HM2,l2,lk2⟩:=Jgg (ρ:=a.eval) (s:=.tmp 11) (x:=.tmp 14) (A:=[(gu,24,Xs (Ki Q 1))]) HM lv (F.ev rfl) (F.ev rfl) rfl ((Pf.one (Ki Q 1)).lie (HM.get 0 rfl)) (by simp) (by simp;omega)
  refine sx_ready1 (i:=6) (by kernel_rfl) (by rfl) (stp_val F rfl rfl (by rfl) hrun (HM2.subl (by repeat (first | exact List.nil_sublist _ | refine List.Sublist.cons _ ?_))) fun a F=>?_)
  refine Ui (by kernel_rfl) ?_ _
  obtain ⟨pa,ca,rfl⟩:=l2.form
  have hle:(List.replicate i 0++[Ki Q 1]).length=i+1:=by simp
  rw [hle] at F l2
  have hrn:=l2.rn HM2 (fun x hx=>by simp [hx]) (fun x hx=>by rcases List.mem_append.1 hx with h | h;(· rw [List.eq_of_mem_replicate h];decide);rw [List.mem_singleton.1 h];exact sof_256 hQ)
  have hJ2:=hJ _ _ _ none hJi (grown_of_below HM2.bel (Nat.le_refl _)) (fun _ e=>by cases e)
  have hbz:=HM2.bel
  show wpAnyIn Fence.wide n Try.prog .any _ _ 2 (Array.replicate 7 true++#[false,false]) a w2
  refine li_last (m:=7) F (by kernel_rfl) (by rfl) rfl (fun _ h=>by cases h) rfl (by rfl) (by kernel_rfl) (by rfl) rfl (fun _ h=>by cases h) rfl (by rfl) (by kernel_rfl) (run_yield_op1 (F.ev rfl) (F.ev rfl)) (hY xs (i,pa,ca) w2 hJ2 ⟨hlt,hrn⟩ (by omega)) (fun a b L w F=>Xv (F.ev rfl) rfl) fun e w3 he=>?_
  rcases he with ⟨rfl,hJ3,hk3⟩ | ⟨ch,rfl,hx3⟩
  ·refine .inl ⟨true,rfl,fun a F=>?_⟩
   repeat (first | refine Js ?_ | refine Jo ?_ | refine wpIn_seq ?_ | refine wpIn_block ?_ | refine wpIn_skip ?_)
   refine wpIn_cond_false (F.ev rfl) ?_
   repeat (first | refine Js ?_ | refine Jo ?_ | refine wpIn_seq ?_ | refine wpIn_block ?_ | refine wpIn_skip ?_)
   refine wpIn_region_lit ?_
   refine Uf (v:=.int .i64 ((i+1:Nat):Int)) F (fun _ h=>by cases h) (Ja rfl _) rfl (by rfl) (Ua (u:=.int .i64 (i:Nat)) (v:=.int .i64 1) (fun ρ hx hy=>by simp only [execOp,hx,hy];simp [go_sem];exact Jez (m:=i+1) (by omega)) (F.ev rfl) rfl) fun a F=>?_
   refine Uf (v:=.int .i64 ((i+1:Nat):Int)) F (fun _ h=>by cases h) (Ja rfl _) rfl (by rfl) (Jc (F.ev rfl)) fun a F=>?_
   refine Jab ?_
   repeat (first | refine Js ?_ | refine Jo ?_ | refine wpIn_seq ?_ | refine wpIn_block ?_ | refine wpIn_skip ?_)
   refine ⟨⟨i+1,xs++[(i,pa,ca)],hlt,by rw [List.map_append,hxs,List.range_succ];rfl,F.sub [6,5,0,2],hJ3,hkq.trans ((KQ.of hbz hwr).trans hk3)⟩,?_⟩
   show k-(intOf (a.tmps.getD 6 undef)).toNat<k-(intOf (aS.tmps.getD 6 undef)).toNat
   rw [F.get 6 _ rfl,FS.get 6 _ rfl]
   show k-((i+1:Nat):Int).toNat<k-((i:Nat):Int).toNat
   omega
  ·exact .inr ⟨ch,rfl,F.defers,.inr ⟨ch,rfl,hx3⟩⟩
 ·repeat (first | refine Js ?_ | refine Jo ?_ | refine wpIn_seq ?_ | refine wpIn_block ?_ | refine wpIn_skip ?_)
  refine wpIn_region_lit ?_
  refine Uf (v:=.bool false) F (fun _ h=>by cases h) (Ja rfl _) rfl (by rfl) (Ua (u:=.int .i64 (i:Nat)) (v:=.int .i64 (k:Nat)) (fun ρ hx hy=>by simp only [execOp,hx,hy];simp [go_sem];omega) (F.ev rfl) (F.ev rfl)) fun a F=>?_
  refine Jab ?_
  repeat (first | refine Js ?_ | refine Jo ?_ | refine wpIn_seq ?_ | refine wpIn_block ?_ | refine wpIn_skip ?_)
  refine wpIn_cond_false (F.ev rfl) ?_
  repeat (first | refine Js ?_ | refine Jo ?_ | refine wpIn_seq ?_ | refine wpIn_block ?_ | refine wpIn_skip ?_)
  refine wpIn_exit ?_
  repeat (first | refine Vu ?_ | refine Vf ?_)
  repeat (first | refine Js ?_ | refine Jo ?_ | refine wpIn_seq ?_ | refine wpIn_block ?_ | refine wpIn_skip ?_)
  obtain rfl:i=k:=by omega
  exact bodyPost_end (Vt rfl) F.defers (.inl ⟨_,_,rfl,hxs,hJi⟩)
theorem pow_seq (P Q G H k n gN gG n₀:Nat) (hQ:Q<2^256) (hk:k≤1000) (w:World) (hn₀:n₀≤w.heap.size) (hN:At w gN 3 #[.int .i64 (k:Nat)]) (hG:At w gG 26 (gcs P Q G H)) :
  SeqP n Try.prog 72 #[.pointer (some ⟨gN,0,none⟩),.pointer (some ⟨gG,0,none⟩)] (fun x:PW=>#[.slice x.2.1 (x.1+1) x.2.2]) (DX Q k) (fun pre=>pre=[]∨1<Q) (KQ n₀ gN gG) (fun ys=>ys.map (·.1)=List.range k) k w:=
 fun l J Jx W hW hJ hZ hY h0=>pow_in P Q G H k l gN gG n₀ n hQ hk J Jx hZ hY W (Nat.le_trans hn₀ hW.size) hJ (hN.on hW) (hG.on hW) h0
end Go.Proofs.Ytcbnmdkmfdjpiaa
