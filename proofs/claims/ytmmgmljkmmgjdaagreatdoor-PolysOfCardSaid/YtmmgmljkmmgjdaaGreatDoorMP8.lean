import Derived.Deep.Cut
import Derived.Test.YtmmgmljkmmgjdaaGreatDoorMP5
import Derived.Test.YtmmgmljkmmgjdaaGreatDoorMP7
import Derived.Test.YtmmgmljkmmgjdaaGreatDoorMTree
namespace Go.Proofs.YtmmgmljkmmgjdaaGreatDoor
set_option maxRecDepth 100000
set_option maxHeartbeats 8000000
open Go.RowKit
set_option linter.unusedSimpArgs false
set_option linter.unusedVariables false
attribute [local go_sem ↓] Go.wp_at_zero Go.wp_at_succ

theorem Jci {b:Bool} (P Q G H n cap:Nat) (pa:Option Addr) (xs:List Nat) (w0:World) (hb:Jbr Q xs=b) (hQ:Q<2^256) (r:RN w0.heap.size w0 pa n cap xs):Calls Tryz.prog 95 #[grp P Q G H,.slice pa n cap] w0 fun e w'=>e=.returned (.bool b)∧Below w0.heap.size w0 w':=by
 subst hb;exact arePts_any P Q G H n cap pa xs w0 hQ r
section
variable {P:Program} {ops:Array Oper} {Q:Exit→Act→World→Prop} {a:Act} {n0:Nat} {w w0:World} {o:Oper} {N:Nat} {L:List (Nat × Value)} {df:List Deferred} {M:List (Nat × TypeId × Array Value)} {S:World→Prop} {fuel i:Nat} {listed:Array Bool}
theorem sx_call1M {d:Nat} {f:FuncId} {args:Array Value} {u:Value} {T:World→Prop} (F:Fr a N L df) (hr:Region.ready .any ops listed=[i]) (ho:ops[i]? = some o) (hg:o.guard=none) (hdst:o.dst=some d) (hd:Nat.blt d N=true)
  (hrun:(execOp a.eval o).run P w=.ok (.enter f args) w) (C:Calls P f args w fun e w'=>e=.returned u∧T w') (hS:∀ w',T w'→S w')
  (h:∀ a' w',T w'→Fr a' N ((d,u)::L) df→wpAnyH P .any ops Q S fuel (listed.setIfInBounds i true) a' w'):wpAnyH P .any ops Q S (fuel+1) listed a w:=
 sx_call1 (T:=fun v w'=>v=u∧T w') F hr ho hg hdst hd hrun (C.mono fun e w' h=>⟨u,h.1,rfl,h.2⟩) (fun v w' h=>hS w' h.2) fun a' w' v hv F'=>h a' w' hv.2 (by rw [← hv.1];exact F')
end
def oth (Q:Nat) (xs:List Nat) (a:Int) (i:Nat):Int:=prZ a ((zs xs).eraseIdx i)
def Jii (Q:Nat) (xs:List Nat):Prop:=∀ (i x:Nat),xs[i]? = some x→U Q (oth Q xs (x:Int) i)
def WS (Q:Nat) (xs:List Nat) (X:Nat) (ws:List Nat) (k:Nat):Prop:=ws.length=xs.length∧(∀ v∈ws,v<Q)∧∀ (i x:Nat),i<k→xs[i]? = some x→∃ v,ws[i]? = some v∧Cg Q ((v:Int)*oth Q xs (x:Int) i) (oth Q xs (X:Int) i)
theorem wts_n1 (P Q G H X n cap:Nat) (pa:Option Addr) (xs:List Nat) (w0:World) (hQ:Q<2^256) (hX:X<2^256) (r:RN w0.heap.size w0 pa n cap xs) (hB1:Vz Q [X]=false):Calls Tryz.prog 21 #[grp P Q G H,.slice pa n cap,num X] w0 fun e w'=>e=.returned (.tuple #[.slice none 0 0,.int .i64 1])∧Below w0.heap.size w0 w':=by
 refine Jx (args:=[grp P Q G H,.slice pa n cap,num X]) Tryz.func21 rfl Tryz.ntmps21 (by rfl) fun a F HM=>?_
 refine Kgr ?_
 refine Jn F HM (Ja rfl _) rfl (by rfl) (Km (F.ev rfl)) fun a w gg F HM=>?_
 refine Jn F HM (Ja rfl _) rfl (by rfl) (Kw (F.ev rfl)) fun a w gx F HM=>?_
 refine lxv (.slice none 0 0) F (Je rfl) fun a F=>?_
 refine lxv (.int .i64 0) F (Je rfl) fun a F=>?_
 refine Jc ?_
 refine Kgr ?_
 refine lxv (grp P Q G H) F (Js (F.ev rfl) (HM.get 1 rfl)) fun a F=>?_
 refine lxv (num X) F (Jp (F.ev rfl) (HM.get 0 rfl)) fun a F=>?_
 refine Vv F HM (Ja rfl _) rfl (by rfl) (Vl (F.ev rfl)) fun a w gr F HM=>?_
 refine Jj F (Ja rfl _) rfl (by rfl) (Jh Tryz.func93 (by kernel_rfl) (by rfl) (.cons (F.ev rfl) (.cons (F.ev rfl) .nil)) _) (Uz P Q G H 1 1 _ [X] _ hB1 hQ (((Pf.one X).rsA (HM.get 0 rfl) rfl (by decide) (by decide) (by simpa using hX)))) fun a w z F=>?_
 replace HM:=HM.on z
 clear z
 refine lxv (.bool true) F (Uh (b:=false) (r:=true) (F.ev rfl) rfl) fun a F=>?_
 refine lxv (.bool true) F (Jb (F.ev rfl)) fun a F=>?_
 refine lxp 19 true F fun a F=>?_
 refine lxp 19 true F fun a F=>?_
 refine lxp 19 true F fun a F=>?_
 refine lxp 19 true F fun a F=>?_
 refine lxv (.bool true) F (Kc (b:=true) (r:=.bool true) (F.ev rfl) rfl (F.ev rfl) rfl) fun a F=>?_
 refine Jc ?_
 refine Kgq ?_
 refine wp_cond_true (F.ev rfl) ?_
 refine Kgr ?_
 refine lxv (.slice none 0 0) F (Je rfl) fun a F=>?_
 refine lxv (.int .i64 1) F (Je rfl) fun a F=>?_
 refine Jc ?_
 refine Kgq ?_
 refine wp_ret ?_
 repeat (first | refine Jt ?_ | refine Jo ?_)
 exact bodyPost_ret (Jaa F (s:=6) (t:=7) rfl rfl rfl) F.defers ⟨rfl,HM.bel⟩

theorem wts_n2 (P Q G H X n cap:Nat) (pa:Option Addr) (xs:List Nat) (w0:World) (hQ:Q<2^256) (hX:X<2^256) (r:RN w0.heap.size w0 pa n cap xs) (hB1:Vz Q [X]=true) (hB2:Jbr Q xs=false):Calls Tryz.prog 21 #[grp P Q G H,.slice pa n cap,num X] w0 fun e w'=>e=.returned (.tuple #[.slice none 0 0,.int .i64 1])∧Below w0.heap.size w0 w':=by
 refine Jx (args:=[grp P Q G H,.slice pa n cap,num X]) Tryz.func21 rfl Tryz.ntmps21 (by rfl) fun a F HM=>?_
 refine Kgr ?_
 refine Jn F HM (Ja rfl _) rfl (by rfl) (Km (F.ev rfl)) fun a w gg F HM=>?_
 refine Jn F HM (Ja rfl _) rfl (by rfl) (Kw (F.ev rfl)) fun a w gx F HM=>?_
 refine lxv (.slice none 0 0) F (Je rfl) fun a F=>?_
 refine lxv (.int .i64 0) F (Je rfl) fun a F=>?_
 refine Jc ?_
 refine Kgr ?_
 refine lxv (grp P Q G H) F (Js (F.ev rfl) (HM.get 1 rfl)) fun a F=>?_
 refine lxv (num X) F (Jp (F.ev rfl) (HM.get 0 rfl)) fun a F=>?_
 refine Vv F HM (Ja rfl _) rfl (by rfl) (Vl (F.ev rfl)) fun a w gr F HM=>?_
 refine Jj F (Ja rfl _) rfl (by rfl) (Jh Tryz.func93 (by kernel_rfl) (by rfl) (.cons (F.ev rfl) (.cons (F.ev rfl) .nil)) _) (Uz P Q G H 1 1 _ [X] _ hB1 hQ (((Pf.one X).rsA (HM.get 0 rfl) rfl (by decide) (by decide) (by simpa using hX)))) fun a w z F=>?_
 replace HM:=HM.on z
 clear z
 refine lxv (.bool false) F (Uh (b:=true) (r:=false) (F.ev rfl) rfl) fun a F=>?_
 refine lxv (.bool false) F (Jb (F.ev rfl)) fun a F=>?_
 refine lxw 19 false (grp P Q G H) F (Js (F.ev rfl) (HM.get 2 rfl)) fun a F=>?_
 refine lxw 19 false (.slice pa n cap) F (Jb (F.ev rfl)) fun a F=>?_
 refine Jj F (F.want (t:=19) (c:=false) rfl rfl rfl (by rfl) rfl) rfl (by rfl) (Jh Tryz.func95 (by kernel_rfl) (by rfl) (.cons (F.ev rfl) (.cons (F.ev rfl) .nil)) _) (Jci P Q G H n cap pa xs _ hB2 hQ (r.call HM.bel HM.bel.size)) fun a w z F=>?_
 replace HM:=HM.on z
 clear z
 refine lxw 19 false (.bool true) F (Uh (b:=false) (r:=true) (F.ev rfl) rfl) fun a F=>?_
 refine lxv (.bool true) F (Kc (b:=false) (r:=.bool true) (F.ev rfl) rfl (F.ev rfl) rfl) fun a F=>?_
 refine Jc ?_
 refine Kgq ?_
 refine wp_cond_true (F.ev rfl) ?_
 refine Kgr ?_
 refine lxv (.slice none 0 0) F (Je rfl) fun a F=>?_
 refine lxv (.int .i64 1) F (Je rfl) fun a F=>?_
 refine Jc ?_
 refine Kgq ?_
 refine wp_ret ?_
 repeat (first | refine Jt ?_ | refine Jo ?_)
 exact bodyPost_ret (Jaa F (s:=6) (t:=7) rfl rfl rfl) F.defers ⟨rfl,HM.bel⟩

theorem wts_w (P Q G H X n cap:Nat) (pa:Option Addr) (xs:List Nat) (w0:World) (hQ:Q<2^256) (hX:X<2^256) (r:RN w0.heap.size w0 pa n cap xs) (hB1:Vz Q [X]=true) (hB2:Jbr Q xs=true) (h1:1<Q) (hXQ:X<Q) (hxs:∀ x∈xs,x<Q) (hn:n≤2000):Calls Tryz.prog 21 #[grp P Q G H,.slice pa n cap,num X] w0 fun e w'=>(Jii Q xs→∃ (gw:Nat) (ws:List Nat),e=.returned (.tuple #[.slice (some ⟨gw,0,none⟩) n n,.int .i64 0])∧Below w0.heap.size w0 w'∧w0.heap.size≤gw∧(∃ cs,At w' gw 24 cs∧Pf cs ws∧cs.size=n*4)∧WS Q xs X ws xs.length)∧(¬ Jii Q xs→e=.returned (.tuple #[.slice none 0 0,.int .i64 7])∧Below w0.heap.size w0 w'):=by
 refine Jx (args:=[grp P Q G H,.slice pa n cap,num X]) Tryz.func21 rfl Tryz.ntmps21 (by rfl) fun a F HM=>?_
 refine Kgr ?_
 refine Jn F HM (Ja rfl _) rfl (by rfl) (Km (F.ev rfl)) fun a w gg F HM=>?_
 refine Jn F HM (Ja rfl _) rfl (by rfl) (Kw (F.ev rfl)) fun a w gx F HM=>?_
 refine lxv (.slice none 0 0) F (Je rfl) fun a F=>?_
 refine lxv (.int .i64 0) F (Je rfl) fun a F=>?_
 refine Jc ?_
 refine Kgr ?_
 refine lxv (grp P Q G H) F (Js (F.ev rfl) (HM.get 1 rfl)) fun a F=>?_
 refine lxv (num X) F (Jp (F.ev rfl) (HM.get 0 rfl)) fun a F=>?_
 refine Vv F HM (Ja rfl _) rfl (by rfl) (Vl (F.ev rfl)) fun a w gr F HM=>?_
 refine Jj F (Ja rfl _) rfl (by rfl) (Jh Tryz.func93 (by kernel_rfl) (by rfl) (.cons (F.ev rfl) (.cons (F.ev rfl) .nil)) _) (Uz P Q G H 1 1 _ [X] _ hB1 hQ (((Pf.one X).rsA (HM.get 0 rfl) rfl (by decide) (by decide) (by simpa using hX)))) fun a w z F=>?_
 replace HM:=HM.on z
 clear z
 refine lxv (.bool false) F (Uh (b:=true) (r:=false) (F.ev rfl) rfl) fun a F=>?_
 refine lxv (.bool false) F (Jb (F.ev rfl)) fun a F=>?_
 refine lxw 19 false (grp P Q G H) F (Js (F.ev rfl) (HM.get 2 rfl)) fun a F=>?_
 refine lxw 19 false (.slice pa n cap) F (Jb (F.ev rfl)) fun a F=>?_
 refine Jj F (F.want (t:=19) (c:=false) rfl rfl rfl (by rfl) rfl) rfl (by rfl) (Jh Tryz.func95 (by kernel_rfl) (by rfl) (.cons (F.ev rfl) (.cons (F.ev rfl) .nil)) _) (Jci P Q G H n cap pa xs _ hB2 hQ (r.call HM.bel HM.bel.size)) fun a w z F=>?_
 replace HM:=HM.on z
 clear z
 refine lxw 19 false (.bool false) F (Uh (b:=true) (r:=false) (F.ev rfl) rfl) fun a F=>?_
 refine lxv (.bool false) F (Kc (b:=false) (r:=.bool false) (F.ev rfl) rfl (F.ev rfl) rfl) fun a F=>?_
 refine Jc ?_
 refine Kgq ?_
 refine wp_cond_false (F.ev rfl) ?_
 replace HM:=HM.erase 0 (M2:=[(gx,24,ncs X),(gg,26,gcs P Q G H)]) rfl
 refine Kgr ?_
 refine lxv (.slice pa n cap) F (Jb (F.ev rfl)) fun a F=>?_
 refine lxv (.int .i64 (n:Nat)) F (Ko (F.ev rfl)) fun a F=>?_
 refine Vv F HM (Ja rfl _) rfl (by rfl) (Jhp hn (F.ev rfl) (F.ev rfl)) fun a w gw F HM=>?_
 refine lxv (.slice (some ⟨gw,0,none⟩) n n) F (Je (F.ev rfl)) fun a F=>?_
 refine Jc ?_
 refine Kgr ?_
 refine lxv (.slice pa n cap) F (Jb (F.ev rfl)) fun a F=>?_
 refine lxv (.int .i64 (n:Nat)) F (Ko (F.ev rfl)) fun a F=>?_
 refine lxv (.int .i64 0) F (Jb rfl) fun a F=>?_
 refine Jc ?_
 refine Kgq ?_
 refine wp_loop (fun a w=>∃ (i:Nat) (cs:Array Value) (ws:List Nat),i≤n∧Pf cs ws∧cs.size=n*4∧WS Q xs X ws i∧(∀ (j x:Nat),j<i→xs[j]? = some x→U Q (oth Q xs (x:Int) j))∧Fr a 70 [(30,.int .i64 (i:Nat)),(1,.slice pa n cap),(29,.int .i64 (n:Nat)),(8,.slice (some ⟨gw,0,none⟩) n n),(3,.pointer (some ⟨gg,0,none⟩)),(5,.pointer (some ⟨gx,0,none⟩))] []∧Mem w0.heap.size w0 w [(gw,24,cs),(gx,24,ncs X),(gg,26,gcs P Q G H)]) (fun a _=>n-(intOf (a.tmps.getD 30 undef)).toNat) ⟨0,_,List.replicate n 0,Nat.zero_le _,Pf.made n,by simp [madeCells],⟨by simp [r.1],fun v hv=>by rw [List.eq_of_mem_replicate hv];omega,fun i x h=>absurd h (Nat.not_lt_zero _)⟩,fun j x h=>absurd h (Nat.not_lt_zero _),F.sub [30,1,29,8,3,5],HM⟩ ?_
 clear F HM
 rintro aS wS ⟨i,cs,ws,hi,hcs,hcz,hws,hun,FS,HM⟩
 have F:=FS
 by_cases hlt:i<n
 ·refine Kgr ?_
  refine lxv (.bool true) F (Jz (u:=.int .i64 (i:Nat)) (v:=.int .i64 (n:Nat)) (fun ρ hx hy=>by simp only [execOp,hx,hy];simp [go_sem];omega) (F.ev rfl) (F.ev rfl)) fun a F=>?_
  refine Jc ?_
  refine Kgq ?_
  refine wp_cond_true (F.ev rfl) ?_
  refine Kgr ?_
  refine lxv (.int .i64 (i:Nat)) F (Jb (F.ev rfl)) fun a F=>?_
  refine lxv (.int .i64 (i:Nat)) F (Je (F.ev rfl)) fun a F=>?_
  refine Jc ?_
  have hil:i<xs.length:=by rw [r.1];exact hlt
  have hget:xs[i]? = some xs[i]:=List.getElem?_eq_getElem hil
  have hxQ:=hxs _ (List.getElem_mem hil)
  have hwr:=r.room hlt
  obtain ⟨x,hxe⟩:∃ x,x=xs[i]:=⟨_,rfl⟩
  rw [← hxe] at hget hxQ
  refine Kgq ?_
  refine Kg (S:=fun w'=>Mem _ _ w' [(gw,24,cs),(gx,24,ncs X),(gg,26,gcs P Q G H)]) HM (fun _ h=>h) (by kernel_rfl) fun w HM HBW=>?_
  clear HBW
  try simp only [List.append_eq,List.cons_append,List.nil_append]
  refine Kt [⟨0,33,[],.val (grp P Q G H),true⟩,
   ⟨2,35,[0],.val (grp P Q G H),true⟩,
   ⟨4,10,[],.cell 89 (tcs 0 0 0 0 0),false⟩,
   ⟨5,11,[],.cell 89 (tcs 0 0 0 0 0),false⟩,
   ⟨1,34,[0,1],.val (tal P Q G H 1),false⟩,
   ⟨3,36,[1,4],.val (tal P Q G H 1),false⟩] 2 _ F HM (fun _ h=>h.subl (by first | exact List.Sublist.refl _ | (repeat (first | exact List.Sublist.refl _ | refine List.Sublist.cons_cons _ ?_ | refine List.Sublist.cons _ ?_)))) (by kernel_rfl) (by rfl) ?_ ?_ ?_ ?_ ?_ ?_ ?_
  ·kernel_rfl
  ·exact of_decide_eq_true (by kernel_rfl)
  ·(repeat refine all_cons ⟨_,by rfl,by rfl⟩ ?_);exact all_nil
  ·kernel_rfl
  ·(repeat (refine all_cons ?_ ?_;rotate_left));exact all_nil
   all_goals try exact Jm _ (by rfl)
   ·exact Wt _ _ _ _ _ _ _ (by rfl) (by rfl) Jg (fun ρ w kn hs=>Js (kn _ _ (F.old (by rfl) rfl)) (hs.get 2 rfl))
   ·exact Wt _ _ _ _ _ _ _ (by rfl) (by rfl) Jg (fun ρ w kn hs=>Js (kn _ _ (F.old (by rfl) rfl)) (hs.get 2 rfl))
  ·(repeat (refine all_cons ?_ ?_;rotate_left));exact all_nil
   ·exact sA
   ·exact sA
   ·exact fun _=>Uu _ _ _ _ _ _ _ _ (by rfl) (by rfl) (Nat.le_refl _) (fun ρ w=>Jce)
   ·exact fun _=>Uu _ _ _ _ _ _ _ _ (by rfl) (by rfl) (Nat.le_refl _) (fun ρ w=>Jce)
   ·exact fun _=>Jl _ 96 _ _ [.tmp 33] _ _ _ _ _ _ _ (by rfl) Tryz.func96 (by kernel_rfl) (by rfl) (by rfl) (Jg) (.cons (kc 0 33) .nil) ((Jhe P Q G H hQ h1))
   ·exact fun _=>Jl _ 96 _ _ [.tmp 35] _ _ _ _ _ _ _ (by rfl) Tryz.func96 (by kernel_rfl) (by rfl) (by rfl) (Jg) (.cons (kc 1 35) .nil) ((Jhe P Q G H hQ h1))
  intro gs rs a w hgs hrs F HM HBW HR HO HT
  obtain rfl:=nl0 rs hrs
  obtain ⟨gv,gu,rfl⟩:=nl2 gs hgs
  clear hrs hgs HR HBW HO
  clear HT
  refine Kn (i:=6) HM (by kernel_rfl) (by rfl) rfl rfl (k:=0) rfl (Jby (F.ev rfl) (F.ev rfl) (HM.get 0 rfl)) (M2:=[(gv,89,tcs P Q G H 1),(gu,89,tcs 0 0 0 0 0),(gw,24,cs),(gx,24,ncs X),(gg,26,gcs P Q G H)]) (by rw [Jhx];rfl) (fun _ h=>h.subl (by first | exact List.Sublist.refl _ | (repeat (first | exact List.Sublist.refl _ | refine List.Sublist.cons_cons _ ?_ | refine List.Sublist.cons _ ?_)))) fun w HM=>?_
  refine Kn (i:=7) HM (by kernel_rfl) (by rfl) rfl rfl (k:=1) rfl (Jby (F.ev rfl) (F.ev rfl) (HM.get 1 rfl)) (M2:=[(gv,89,tcs P Q G H 1),(gu,89,tcs P Q G H 1),(gw,24,cs),(gx,24,ncs X),(gg,26,gcs P Q G H)]) (by rw [Jhx];rfl) (fun _ h=>h.subl (by first | exact List.Sublist.refl _ | (repeat (first | exact List.Sublist.refl _ | refine List.Sublist.cons_cons _ ?_ | refine List.Sublist.cons _ ?_)))) fun w HM=>?_
  refine Ks (by kernel_rfl) ?_ _
  refine Kgr ?_
  refine lxv (grp P Q G H) F (Js (F.ev rfl) (HM.get 4 rfl)) fun a F=>?_
  refine lxv (num X) F (Jp (F.ev rfl) (HM.get 3 rfl)) fun a F=>?_
  refine lxv (.slice pa n cap) F (Jb (F.ev rfl)) fun a F=>?_
  refine lxv (.int .i64 (i:Nat)) F (Jb (F.ev rfl)) fun a F=>?_
  refine lxv (.func (.func 98) #[.pointer (some ⟨gv,0,none⟩)] #[]) F (Jin (F.ev rfl)) fun a F=>?_
  refine Jj F (Ja rfl _) rfl (by rfl) (Jh Tryz.func97 (by kernel_rfl) (by rfl) (.cons (F.ev rfl) (.cons (F.ev rfl) (.cons (F.ev rfl) (.cons (F.ev rfl) (.cons (F.ev rfl) .nil))))) _) (lessO_any P Q G H X 1 gv _ n cap i 1 pa xs _ _ _ hQ h1 hXQ hxs (Jfy h1).symm r HM) fun a w HM F=>?_
  refine Jc ?_
  replace HM:=HM.front 1 rfl (M2:=[(gu,89,tcs P Q G H 1),(gv,89,tcs P Q G H ((Uq Q (1*prZ X ((zs xs).eraseIdx i))))),(gw,24,cs),(gx,24,ncs X),(gg,26,gcs P Q G H)]) rfl
  obtain ⟨gl,ol,hpa,_,_,hc⟩:=r.get hlt
  rw [← hxe] at hc
  refine Kgq ?_
  refine Kg (S:=fun _=>True) HM (fun _ h=>trivial) (by kernel_rfl) fun w HM HBW=>?_
  clear HBW
  try simp only [List.append_eq,List.cons_append,List.nil_append]
  refine Kt [⟨0,43,[],.val (grp P Q G H),false⟩,
   ⟨1,44,[],.val (.slice pa n cap),true⟩,
   ⟨2,45,[],.val (.int .i64 (i:Nat)),true⟩,
   ⟨3,46,[1,2],.val (.pointer (some ⟨gl,ol+i*4,none⟩)),true⟩,
   ⟨4,47,[3],.val (num x),false⟩,
   ⟨5,48,[],.val (.slice pa n cap),true⟩,
   ⟨6,49,[],.val (.int .i64 (i:Nat)),true⟩,
   ⟨7,50,[],.val (.func (.func 98) #[.pointer (some ⟨gu,0,none⟩)] #[]),true⟩] 1 _ F HM (fun _ _=>trivial) (by kernel_rfl) (by rfl) ?_ ?_ ?_ ?_ ?_ ?_ ?_
  ·kernel_rfl
  ·exact of_decide_eq_true (by kernel_rfl)
  ·(repeat refine all_cons ⟨_,by rfl,by rfl⟩ ?_);exact all_nil
  ·kernel_rfl
  ·(repeat (refine all_cons ?_ ?_;rotate_left));exact all_nil
   ·exact Jm _ (by rfl)
   ·exact Wt _ _ _ _ _ _ _ (by rfl) (by rfl) Jg (fun ρ w kn hs=>Jb (kn _ _ (F.old (by rfl) rfl)))
   ·exact Wt _ _ _ _ _ _ _ (by rfl) (by rfl) Jg (fun ρ w kn hs=>Jb (kn _ _ (F.old (by rfl) rfl)))
   ·exact crS (fun ρ w kn hs=>Kv hlt (by rw [← hpa];exact (kn _ _ (kc 1 44))) (kn _ _ (kc 2 45)))
   ·exact Jm _ (by rfl)
   ·exact Wt _ _ _ _ _ _ _ (by rfl) (by rfl) Jg (fun ρ w kn hs=>Jb (kn _ _ (F.old (by rfl) rfl)))
   ·exact Wt _ _ _ _ _ _ _ (by rfl) (by rfl) Jg (fun ρ w kn hs=>Jb (kn _ _ (F.old (by rfl) rfl)))
   ·exact Wt _ _ _ _ _ _ _ (by rfl) (by rfl) Jg (fun ρ w kn hs=>Jin (kn _ _ (F.old (by rfl) rfl)))
  ·(repeat (refine all_cons ?_ ?_;rotate_left));exact all_nil
   all_goals try exact sA
   ·exact fun _=>Um _ _ _ _ _ _ (by rfl) (by rfl) (fun ρ w kn hb=>Js (kn _ _ (F.old (by rfl) rfl)) ((HM.on hb).get 4 rfl))
   ·exact fun _=>Um _ _ _ _ _ _ (by rfl) (by rfl) (fun ρ w kn hb=>Kh (kn _ _ (kc 3 46)) (hc _ (HM.on hb).bel))
  intro gs rs a w hgs hrs F HM HBW HR HO HT
  obtain rfl:=nl0 rs hrs
  obtain rfl:=nl0 gs hgs
  clear hrs hgs HR HBW HO
  clear HT
  refine sx_call1M (i:=8) F (by kernel_rfl) (by rfl) rfl rfl (by rfl) (Jh Tryz.func97 (by kernel_rfl) (by rfl) (.cons (F.ev rfl) (.cons (F.ev rfl) (.cons (F.ev rfl) (.cons (F.ev rfl) (.cons (F.ev rfl) .nil))))) _) (lessO_any P Q G H x 1 gu _ n cap i 1 pa xs _ _ _ hQ h1 hxQ hxs (Jfy h1).symm r HM) (fun _ _=>trivial) fun a w HM F=>?_
  refine Ks (by kernel_rfl) ?_ _
  have hO1:=Wn h1 (1*prZ (X:Int) ((zs xs).eraseIdx i));have hU1:=Wn h1 (1*prZ (x:Int) ((zs xs).eraseIdx i))
  have cO:=Xs h1 (1*prZ (X:Int) ((zs xs).eraseIdx i));have cU:=Xs h1 (1*prZ (x:Int) ((zs xs).eraseIdx i))
  generalize Uq Q (1*prZ (X:Int) ((zs xs).eraseIdx i))=O at *
  generalize Uq Q (1*prZ (x:Int) ((zs xs).eraseIdx i))=V at *
  rw [Int.one_mul] at cO cU
  by_cases hu:U Q (oth Q xs (x:Int) i)
  ·obtain ⟨T,hT,hTc,hby⟩:=by_yes P Q G H O V hQ h1 hO1 hU1 (U.cg cU.symm hu)
   refine Kgr ?_
   refine lxv (grp P Q G H) F (Js (F.ev rfl) (HM.get 4 rfl)) fun a F=>?_
   refine lxv (.pointer (some ⟨gv,16,none⟩)) F (Vh (F.ev rfl)) fun a F=>?_
   refine lxv (num O) F (Wv (F.ev rfl) (HM.get 1 rfl)) fun a F=>?_
   refine lxv (.pointer (some ⟨gu,16,none⟩)) F (Vh (F.ev rfl)) fun a F=>?_
   refine lxv (num V) F (Wv (F.ev rfl) (HM.get 0 rfl)) fun a F=>?_
   refine Jj F (Ja rfl _) rfl (by rfl) (Jh Tryz.func99 (by kernel_rfl) (by rfl) (.cons (F.ev rfl) (.cons (F.ev rfl) (.cons (F.ev rfl) .nil))) _) (hby _) fun a w z F=>?_
   replace HM:=HM.on z
   clear z
   refine lxv (.tuple #[num T,.int .i64 0]) F (Jb (F.ev rfl)) fun a F=>?_
   refine lxv (num T) F (Jk (F.ev rfl) rfl) fun a F=>?_
   refine lxv (.int .i64 0) F (Jk (F.ev rfl) rfl) fun a F=>?_
   refine Jn F HM (Ja rfl _) rfl (by rfl) (Jw) fun a w gt F HM=>?_
   refine Jv F HM (Ja rfl _) rfl (k:=0) rfl (Jq (F.ev rfl) (F.ev rfl) (HM.get 0 rfl)) (M2:=[(gt,24,ncs T),(gu,89,tcs P Q G H V),(gv,89,tcs P Q G H O),(gw,24,cs),(gx,24,ncs X),(gg,26,gcs P Q G H)]) (rfl) fun w HM=>?_
   refine lxv (.int .i64 0) F (Je (F.ev rfl)) fun a F=>?_
   refine Jc ?_
   refine Kgr ?_
   refine lxv (.int .i64 0) F (Jb (F.ev rfl)) fun a F=>?_
   refine lxv (.bool false) F (Jz (u:=.int .i64 0) (v:=.int .i64 0) (fun ρ hx hy=>by simp only [execOp,hx,hy];simp [go_sem]) (F.ev rfl) rfl) fun a F=>?_
   refine Jc ?_
   refine Kgq ?_
   refine wp_cond_false (F.ev rfl) ?_
   have hil2:i<ws.length:=by rw [hws.1];exact hil
   refine Kgr ?_
   refine lxv (.slice (some ⟨gw,0,none⟩) n n) F (Jb (F.ev rfl)) fun a F=>?_
   refine lxv (.int .i64 (i:Nat)) F (Jb (F.ev rfl)) fun a F=>?_
   refine lxv (num T) F (Jp (F.ev rfl) (HM.get 0 rfl)) fun a F=>?_
   refine lxv (.pointer (some ⟨gw,0+i*4,none⟩)) F (Kv hlt (F.ev rfl) (F.ev rfl)) fun a F=>?_
   refine Jv F HM (Ja rfl _) rfl (k:=3) rfl (Xl (F.ev rfl) (F.ev rfl) (HM.get 3 rfl) (hcs.room hil2)) (M2:=[(gt,24,ncs T),(gu,89,tcs P Q G H V),(gv,89,tcs P Q G H O),(gw,24,((setC cs i T))),(gx,24,ncs X),(gg,26,gcs P Q G H)]) (rfl) fun w HM=>?_
   refine Jc ?_
   refine Kgr ?_
   refine lxv (.int .i64 ((i+1:Nat):Int)) F (Jz (u:=.int .i64 (i:Nat)) (v:=.int .i64 1) (fun ρ hx hy=>by simp only [execOp,hx,hy];simp [go_sem,hwr]) (F.ev rfl) rfl) fun a F=>?_
   refine lxv (.int .i64 ((i+1:Nat):Int)) F (Jb (F.ev rfl)) fun a F=>?_
   refine Jc ?_
   replace HM:=HM.erase 0 (M2:=[(gu,89,tcs P Q G H V),(gv,89,tcs P Q G H O),(gw,24,((setC cs i T))),(gx,24,ncs X),(gg,26,gcs P Q G H)]) rfl
   replace HM:=HM.erase 0 (M2:=[(gv,89,tcs P Q G H O),(gw,24,((setC cs i T))),(gx,24,ncs X),(gg,26,gcs P Q G H)]) rfl
   replace HM:=HM.erase 0 (M2:=[(gw,24,((setC cs i T))),(gx,24,ncs X),(gg,26,gcs P Q G H)]) rfl
   refine Ku ?_
   refine ⟨⟨i+1,_,ws.set i T,by omega,hcs.setC hil2 T,by unfold setC;rw [Jeq];exact hcz,⟨by rw [List.length_set];exact hws.1,fun v hv=>?_,fun j y hj hy=>?_⟩,fun j y hj hy=>?_,F.sub [30,1,29,8,3,5],HM⟩,?_⟩
   ·rcases List.mem_or_eq_of_mem_set hv with hv | rfl
    ·exact hws.2.1 v hv
    ·exact hT
   ·by_cases e:i=j
    ·subst e
     rw [hget] at hy
     cases hy
     exact ⟨T,by rw [List.getElem?_set_self hil2],((Cg.mulL _ cU.symm).trans hTc).trans cO⟩
    ·rw [List.getElem?_set_ne e]
     exact hws.2.2 j y (by omega) hy
   ·by_cases e:i=j
    ·subst e
     rw [hget] at hy
     cases hy
     exact hu
    ·exact hun j y (by omega) hy
   ·show n-(intOf (a.tmps.getD 30 undef)).toNat<n-(intOf (aS.tmps.getD 30 undef)).toNat
    rw [F.get 30 _ rfl,FS.get 30 _ rfl]
    show n-((i+1:Nat):Int).toNat<n-((i:Nat):Int).toNat
    omega
  ·refine Kgr ?_
   refine lxv (grp P Q G H) F (Js (F.ev rfl) (HM.get 4 rfl)) fun a F=>?_
   refine lxv (.pointer (some ⟨gv,16,none⟩)) F (Vh (F.ev rfl)) fun a F=>?_
   refine lxv (num O) F (Wv (F.ev rfl) (HM.get 1 rfl)) fun a F=>?_
   refine lxv (.pointer (some ⟨gu,16,none⟩)) F (Vh (F.ev rfl)) fun a F=>?_
   refine lxv (num V) F (Wv (F.ev rfl) (HM.get 0 rfl)) fun a F=>?_
   refine Jj F (Ja rfl _) rfl (by rfl) (Jh Tryz.func99 (by kernel_rfl) (by rfl) (.cons (F.ev rfl) (.cons (F.ev rfl) (.cons (F.ev rfl) .nil))) _) ((by_none P Q G H O V hQ h1 hU1 (fun h=>hu (U.cg cU h))) _) fun a w z F=>?_
   replace HM:=HM.on z
   clear z
   refine lxv (.tuple #[num 0,.int .i64 7]) F (Jb (F.ev rfl)) fun a F=>?_
   refine lxv (num 0) F (Jk (F.ev rfl) rfl) fun a F=>?_
   refine lxv (.int .i64 7) F (Jk (F.ev rfl) rfl) fun a F=>?_
   refine Jn F HM (Ja rfl _) rfl (by rfl) (Jw) fun a w gt F HM=>?_
   refine Jv F HM (Ja rfl _) rfl (k:=0) rfl (Jq (F.ev rfl) (F.ev rfl) (HM.get 0 rfl)) (M2:=[(gt,24,ncs 0),(gu,89,tcs P Q G H V),(gv,89,tcs P Q G H O),(gw,24,cs),(gx,24,ncs X),(gg,26,gcs P Q G H)]) (rfl) fun w HM=>?_
   refine lxv (.int .i64 7) F (Je (F.ev rfl)) fun a F=>?_
   refine Jc ?_
   refine Kgr ?_
   refine lxv (.int .i64 7) F (Jb (F.ev rfl)) fun a F=>?_
   refine lxv (.bool true) F (Jz (u:=.int .i64 7) (v:=.int .i64 0) (fun ρ hx hy=>by simp only [execOp,hx,hy];simp [go_sem]) (F.ev rfl) rfl) fun a F=>?_
   refine Jc ?_
   refine Kgq ?_
   refine wp_cond_true (F.ev rfl) ?_
   refine Kgr ?_
   refine lxv (.int .i64 7) F (Jb (F.ev rfl)) fun a F=>?_
   refine lxv (.slice none 0 0) F (Je rfl) fun a F=>?_
   refine lxv (.int .i64 7) F (Je (F.ev rfl)) fun a F=>?_
   refine Jc ?_
   refine Kgq ?_
   refine wp_ret ?_
   repeat (first | refine Jt ?_ | refine Jo ?_)
   exact bodyPost_ret (Jaa F (s:=6) (t:=7) rfl rfl rfl) F.defers ⟨fun h=>absurd (h i x hget) hu,fun _=>⟨rfl,HM.bel⟩⟩
 ·refine Kgr ?_
  refine lxv (.bool false) F (Jz (u:=.int .i64 (i:Nat)) (v:=.int .i64 (n:Nat)) (fun ρ hx hy=>by simp only [execOp,hx,hy];simp [go_sem];omega) (F.ev rfl) (F.ev rfl)) fun a F=>?_
  refine Jc ?_
  refine Kgq ?_
  refine wp_cond_false (F.ev rfl) ?_
  refine Kgq ?_
  refine wp_exit ?_
  repeat (first | refine Kk ?_ | refine Kd ?_)
  have hin:i=n:=by omega
  rw [hin] at hws hun
  refine Kgr ?_
  refine lxv (.slice (some ⟨gw,0,none⟩) n n) F (Jb (F.ev rfl)) fun a F=>?_
  refine lxv (.slice (some ⟨gw,0,none⟩) n n) F (Je (F.ev rfl)) fun a F=>?_
  refine lxv (.int .i64 0) F (Je rfl) fun a F=>?_
  refine Jc ?_
  have hlw:ws.length=n:=hws.1.trans r.1
  refine Kgq ?_
  refine wp_ret ?_
  repeat (first | refine Jt ?_ | refine Jo ?_)
  exact bodyPost_ret (Jaa F (s:=6) (t:=7) rfl rfl rfl) F.defers ⟨fun _=>⟨gw,ws,rfl,HM.bel,HM.own _ List.mem_cons_self,⟨cs,HM.get 0 rfl,hcs,hcz⟩,by rw [← r.1] at hws;exact hws⟩,fun h=>absurd (fun j x hx=>hun j x (by rw [← r.1];exact (List.getElem?_eq_some_iff.1 hx).1) hx) h⟩

def Jih (Q X:Nat) (xs:List Nat):Bool:=Vz Q [X] && Jbr Q xs
theorem wtsB_iff {Q X:Nat} {xs:List Nat}:Jih Q X xs=true ↔ 1<Q∧X<Q∧xs≠[]∧xs.Nodup∧∀ x∈xs,x<Q:=by
 unfold Jih
 rw [Bool.and_eq_true,ptsB_iff]
 simp only [Vz,List.all_cons,List.all_nil,Bool.and_true,decide_eq_true_eq,List.all_eq_true]
 exact ⟨fun ⟨⟨h1,h2⟩,h3,h4,h5⟩=>⟨h1,h2,h3,h4,fun x hx=>(h5 x hx).2⟩,fun ⟨h1,h2,h3,h4,h5⟩=>⟨⟨h1,h2⟩,h3,h4,fun x hx=>⟨h1,h5 x hx⟩⟩⟩
theorem wts_no (P Q G H X n cap:Nat) (pa:Option Addr) (xs:List Nat) (w0:World) (hQ:Q<2^256) (hX:X<2^256) (r:RN w0.heap.size w0 pa n cap xs) (h:Jih Q X xs=false):Calls Tryz.prog 21 #[grp P Q G H,.slice pa n cap,num X] w0 fun e w'=>e=.returned (.tuple #[.slice none 0 0,.int .i64 1])∧Below w0.heap.size w0 w':=by
 unfold Jih at h
 by_cases hb:Vz Q [X]=true
 ·rw [hb,Bool.true_and] at h
  exact wts_n2 P Q G H X n cap pa xs w0 hQ hX r hb h
 ·exact wts_n1 P Q G H X n cap pa xs w0 hQ hX r (Bool.eq_false_iff.2 hb)
theorem Jha (P Q G H X n cap:Nat) (pa:Option Addr) (xs:List Nat) (w0:World) (hQ:Q<2^256) (hX:X<2^256) (r:RN w0.heap.size w0 pa n cap xs) (hn:n≤2000) (h:Jih Q X xs=true):Calls Tryz.prog 21 #[grp P Q G H,.slice pa n cap,num X] w0 fun e w'=>(Jii Q xs→∃ (gw:Nat) (ws:List Nat),e=.returned (.tuple #[.slice (some ⟨gw,0,none⟩) n n,.int .i64 0])∧Below w0.heap.size w0 w'∧w0.heap.size≤gw∧(∃ cs,At w' gw 24 cs∧Pf cs ws∧cs.size=n*4)∧WS Q xs X ws xs.length)∧(¬ Jii Q xs→e=.returned (.tuple #[.slice none 0 0,.int .i64 7])∧Below w0.heap.size w0 w'):=by
 obtain ⟨h1,h2,_,_,h5⟩:=wtsB_iff.1 h
 unfold Jih at h
 rw [Bool.and_eq_true] at h
 exact wts_w P Q G H X n cap pa xs w0 hQ hX r h.1 h.2 h1 h2 h5 hn
end Go.Proofs.YtmmgmljkmmgjdaaGreatDoor
