import Derived.Deep.Cut
import Derived.Test.YtcbnmdkmfdjpiaaMP8
import Derived.Test.YtcbnmdkmfdjpiaaMShort
namespace Go.Proofs.Ytcbnmdkmfdjpiaa
set_option maxRecDepth 100000
set_option maxHeartbeats 8000000
open Go.RowKit
set_option linter.unusedSimpArgs false
set_option linter.unusedVariables false
attribute [local go_sem ↓] Go.wp_at_zero Go.wp_at_succ

section
variable {P:Program} {ops:Array Oper} {Q:Exit→Act→World→Prop} {a:Act} {W:World} {cores:List Core}
theorem core_asg (c:Core) (t j:Nat) (cc:Core) (ty:TypeId) (pos:String) (after:Array Edge) (ho:ops[c.i]? = some ⟨some c.d,.assign (.tmp t),ty,pos,after,none⟩) (hj:j∈c.pre) (hc:cores[j]? = some cc) (hd:cc.d=t) (hk:c.kind=cc.kind) (hn:cc.kind.new=false):Vd P ops Q a W cores c:=by
 intro vs w hl hb hp o ho' K hK
 rw [ho] at ho'
 obtain rfl:=Option.some.inj ho'
 obtain ⟨v,hv,hpv⟩:=hp j hj cc hc
 have he:(over a (cores.map (·.d)) vs).eval (.tmp t)=v:=by
  subst hd
  exact Jau _ _ _ j _ _ hl.nd (by rw [List.getElem?_map,hc];rfl) hv (hl.sz _ (List.mem_map_of_mem (List.mem_of_getElem? hc)))
 refine Kz rfl (Ku (v:=v) (w':=w) (by simp only [execOp,he];rfl) ?_)
 exact hK.out _ _ (Below.refl _ _) (by rw [hk];exact hpv) (fun h=>by rw [hk,hn] at h;cases h)
end
section
variable {x y:Operand} {dst:Option Tmp} {ty:TypeId} {pos:String} {after:Array Edge} {guard:Option (Nat × Bool)} {ρ:Operand→Value} {w:World} {g:Nat}
theorem o_cutTo {n k:Nat} (hk:k≤n) (hn:0<n) (hx:ρ x=.slice (some ⟨g,0,none⟩) n n) (hy:ρ y=.int .i64 (k:Nat)):(execOp ρ ⟨dst,.slice 27 x none (some y) none,ty,pos,after,guard⟩).run Try.prog w=.ok (.value (.slice (some ⟨g,0,none⟩) k n)) w:=by
 have h1:(k:Int)≤(n:Int):=by omega
 have h2:¬ n=0:=by omega
 simp [execOp,hx,hy,go_sem,h1,h2,Addr.add_lit]
end
def Jgp (Q:Nat) (xs:List Nat):Prop:=(zs xs).Pairwise fun a b=>U Q (b-a)
def TS (Q:Nat) (xs vs ps:List Nat):Prop:=ps.length=xs.length∧(∀ c∈ps,c<Q)∧∀ (i x v:Nat),xs[i]? = some x→vs[i]? = some v→Cg Q (evZ (zs ps) (x:Int)) (v:Int)
theorem thr_w (P Q G H n cap m capv:Nat) (pa pb:Option Addr) (xs vs:List Nat) (w0:World) (hQ:Q<2^256) (r:RN w0.heap.size w0 pa n cap xs) (rv:RN w0.heap.size w0 pb m capv vs) (hmn:m=n) (hB1:Jbr Q vs=true) (hB2:Jfr Q xs=true) (h1:1<Q) (hxs:∀ x∈xs,x<Q) (hvs:∀ v∈vs,v<Q) (hn0:0<n) (hn:n≤1900):Calls Try.prog 12 #[grp P Q G H,.slice pa n cap,.slice pb m capv] w0 fun e w'=>(Jgp Q xs→∃ (gp:Nat) (ps:List Nat),e=.returned (.tuple #[.slice (some ⟨gp,0,none⟩) n n,.int .i64 0])∧Below w0.heap.size w0 w'∧w0.heap.size≤gp∧(∃ cs,At w' gp 24 cs∧Pf cs ps∧cs.size=n*4)∧TS Q xs vs ps)∧(¬ Jgp Q xs→e=.returned (.tuple #[.slice none 0 0,.int .i64 7])∧Below w0.heap.size w0 w'):=by
 refine Ka (args:=[grp P Q G H,.slice pa n cap,.slice pb m capv]) Try.func12 rfl Try.ntmps12 (by rfl) fun a F HM=>?_
 refine Kgr ?_
 refine Jn F HM (Ja rfl _) rfl (by rfl) (Kl (F.ev rfl)) fun a w gg F HM=>?_
 refine lxv (.slice none 0 0) F (Jg rfl) fun a F=>?_
 refine lxv (.int .i64 0) F (Jg rfl) fun a F=>?_
 refine Jf ?_
 refine Kgr ?_
 refine lxv (.slice pb m capv) F (Jb (F.ev rfl)) fun a F=>?_
 refine lxv (.int .i64 (m:Nat)) F (Ui (F.ev rfl)) fun a F=>?_
 refine lxv (.slice pa n cap) F (Jb (F.ev rfl)) fun a F=>?_
 refine lxv (.int .i64 (n:Nat)) F (Ui (F.ev rfl)) fun a F=>?_
 refine lxv (.bool false) F (Jfg (b:=true) (decide_eq_true (by omega)) (F.ev rfl) (F.ev rfl) rfl) fun a F=>?_
 refine lxv (.bool false) F (Jb (F.ev rfl)) fun a F=>?_
 refine lxw 20 false (grp P Q G H) F (Jr (F.ev rfl) (HM.get 0 rfl)) fun a F=>?_
 refine lxw 20 false (.slice pb m capv) F (Jb (F.ev rfl)) fun a F=>?_
 refine Jp F (F.want (t:=20) (c:=false) rfl rfl rfl (by rfl) rfl) rfl (by rfl) (Jh Try.func28 (by kernel_rfl) (by rfl) (.cons (F.ev rfl) (.cons (F.ev rfl) .nil)) _) (Xt P Q G H m capv pb vs _ hB1 hQ (rv.call HM.bel HM.bel.size)) fun a w z F=>?_
 replace HM:=HM.on z
 clear z
 refine lxw 20 false (.bool false) F (Wk (b:=true) (r:=false) (F.ev rfl) rfl) fun a F=>?_
 refine lxv (.bool false) F (Jt (b:=false) (r:=.bool false) (F.ev rfl) rfl (F.ev rfl) rfl) fun a F=>?_
 refine lxv (.bool false) F (Jb (F.ev rfl)) fun a F=>?_
 refine lxw 26 false (grp P Q G H) F (Jr (F.ev rfl) (HM.get 0 rfl)) fun a F=>?_
 refine lxw 26 false (.slice pa n cap) F (Jb (F.ev rfl)) fun a F=>?_
 refine Jp F (F.want (t:=26) (c:=false) rfl rfl rfl (by rfl) rfl) rfl (by rfl) (Jh Try.func29 (by kernel_rfl) (by rfl) (.cons (F.ev rfl) (.cons (F.ev rfl) .nil)) _) (arePts_is P Q G H n cap pa xs _ hB2 hQ (r.call HM.bel HM.bel.size)) fun a w z F=>?_
 replace HM:=HM.on z
 clear z
 refine lxw 26 false (.bool false) F (Wk (b:=true) (r:=false) (F.ev rfl) rfl) fun a F=>?_
 refine lxv (.bool false) F (Jt (b:=false) (r:=.bool false) (F.ev rfl) rfl (F.ev rfl) rfl) fun a F=>?_
 refine Jf ?_
 refine Kgq ?_
 refine wp_cond_false (F.ev rfl) ?_
 refine Kgq ?_
 refine Km (S:=fun w'=>Mem _ _ w' [(gg,26,gcs P Q G H)]) HM (fun _ h=>h) (by kernel_rfl) fun w HM HBW=>?_
 clear HBW
 try simp only [List.append_eq,List.cons_append,List.nil_append]
 have HLT:=HM.lt;have HLE:=Nat.le_trans HM.le HM.bel.size
 refine Kr [⟨0,32,[],.val (.slice pa n cap),true⟩,
   ⟨1,33,[0],.val (.int .i64 (n:Nat)),true⟩,
   ⟨3,35,[1],.val (grp P Q G H),true⟩,
   ⟨2,34,[1],.own 24 (madeCells (num 0).cells (n*4)) n,false⟩,
   ⟨4,36,[2],.val (tal P Q G H 1),false⟩,
   ⟨5,37,[4],.val (num 1),true⟩,
   ⟨6,38,[5],.own 24 (Xi 1) 1,false⟩,
   ⟨7,8,[3],.own 24 ((madeCells (num 0).cells (n*4))) n,false⟩] 1 _ F HM (fun _ h=>h) (by kernel_rfl) (by rfl) ?_ ?_ ?_ ?_ ?_ ?_ ?_
 ·kernel_rfl
 ·exact of_decide_eq_true (by kernel_rfl)
 ·(repeat refine all_cons ⟨_,by rfl,by rfl⟩ ?_);exact Jj
 ·kernel_rfl
 ·(repeat (refine all_cons ?_ ?_;rotate_left));exact Jj
  all_goals try exact Jq _ (by rfl)
  ·exact Uh _ _ _ _ _ _ _ (by rfl) (by rfl) Ji (fun ρ w kn hs=>Jb (kn _ _ (F.old (by rfl) rfl)))
  ·exact crS (fun ρ w kn hs=>Ui (kn _ _ (kc 0 32)))
  ·exact Uh _ _ _ _ _ _ _ (by rfl) (by rfl) Ji (fun ρ w kn hs=>Jr (kn _ _ (F.old (by rfl) rfl)) (hs.get 0 rfl))
  ·exact crS (fun ρ w kn hs=>o_fieldV1 (kn _ _ (kc 4 36)))
 ·(repeat (refine all_cons ?_ ?_;rotate_left));exact Jj
  all_goals try exact sA
  ·exact fun _=>Jbj _ _ _ _ _ _ _ _ _ (by rfl) (by rfl) (Nat.le_refl _) (fun ρ w kn=>Jfv (by omega) (kn _ _ (kc 1 33)) (kn _ _ (kc 1 33)))
  ·exact fun _=>Jl _ 30 _ _ [.tmp 35] _ _ _ _ _ _ _ (by rfl) Try.func30 (by kernel_rfl) (by rfl) (by rfl) (Ji) (.cons (kc 2 35) .nil) ((one_any P Q G H hQ h1))
  ·exact fun _=>Jbj _ _ _ _ _ _ _ _ _ (by rfl) (by rfl) (Nat.le_refl _) (fun ρ w kn=>Vn (kn _ _ (kc 5 37)))
  ·exact fun _=>core_asg _ 34 3 _ _ _ _ (by rfl) (of_decide_eq_true (by rfl)) (by rfl) (by rfl) (by rfl) (by rfl)
 intro gs rs a w hgs hrs F HM HBW HR HO HT
 obtain ⟨gz,gq,gp,rfl⟩:=nl3 rs hrs
 obtain rfl:=nl0 gs hgs
 have hatz:=HR _ List.mem_cons_self
 have hatq:=HR _ (List.mem_cons_of_mem _ List.mem_cons_self)
 have hatp:=HR _ (List.mem_cons_of_mem _ (List.mem_cons_of_mem _ List.mem_cons_self))
 clear hrs hgs HR HBW
 clear HT
 have hop:=HO gp (by simp [Xb]);have hoq:=HO gq (by simp [Xb])
 have hpq:gq≠gp:=fun e=>by
  have h0:=(Pf.made n).c4 hatp (i:=0) (x:=0) (by rw [List.getElem?_replicate,if_pos hn0])
  have h1:=(Pf.one 1).c4 hatq (i:=0) (x:=1) rfl
  rw [e] at h1
  have h2:=h0.1.symm.trans h1.1
  simp [wd] at h2
 replace HM:=HM.add (Nat.le_trans HLE hoq) (fun x hx=>by have:=HLT x hx;omega) hatq
 replace HM:=HM.add (Nat.le_trans HLE hop) (fun x hx=>by rcases List.mem_cons.1 hx with rfl | hx;(· exact hpq);have:=HLT x hx;omega) hatp
 clear HLT HLE HO hop hoq hatp hatq hpq
 refine Kj (i:=8) (d:=9) (x:=.tmp 38) (v:=.slice (some ⟨gq,0,none⟩) 1 1) F (HM.subl (by repeat (first | exact List.Sublist.refl _ | refine List.Sublist.cons _ ?_))) (by kernel_rfl) (by rfl) (by rfl) (F.ev rfl) fun a F=>?_
 refine Ua (by kernel_rfl) ?_ _
 refine Kgr ?_
 refine lxv (.slice pa n cap) F (Jb (F.ev rfl)) fun a F=>?_
 refine lxv (.int .i64 (n:Nat)) F (Ui (F.ev rfl)) fun a F=>?_
 refine lxv (.int .i64 0) F (Jb rfl) fun a F=>?_
 refine Jf ?_
 refine Kgq ?_
 refine wp_loop (fun a w=>∃ (i:Nat) (ps os:List Nat) (cp cq:Array Value) (gq capq:Nat),i≤n∧Nw Q xs vs i ps os∧cp.size=n*4∧Pf cp ps∧Pf cq os∧i+1≤capq∧capq≤9223372036854775807∧Fr a 92 [(41,.int .i64 (i:Nat)),(1,.slice pa n cap),(2,.slice pb m capv),(40,.int .i64 (n:Nat)),(8,.slice (some ⟨gp,0,none⟩) n n),(9,.slice (some ⟨gq,0,none⟩) (i+1) capq),(3,.pointer (some ⟨gg,0,none⟩))] []∧Mem w0.heap.size w0 w [(gp,24,cp),(gq,24,cq),(gg,26,gcs P Q G H)]) (fun a _=>n-(intOf (a.tmps.getD 41 undef)).toNat) ⟨0,List.replicate n 0,[1],_,_,_,1,Nat.zero_le _,by rw [← r.1];exact Nw.start h1 xs vs,by simp [madeCells],Pf.made n,Pf.one 1,Nat.le_refl _,by decide,F.sub [41,1,2,40,8,9,3],HM⟩ ?_
 clear F HM
 rintro aS wS ⟨i,ps,os,cp,cq,gq,capq,hi,hN,hpz,hcp,hcq,hq1,hq2,FS,HM⟩
 have F:=FS
 by_cases hlt:i<n
 ·refine Kgr ?_
  refine lxv (.bool true) F (Kh (u:=.int .i64 (i:Nat)) (v:=.int .i64 (n:Nat)) (fun ρ hx hy=>by simp only [execOp,hx,hy];simp [go_sem];omega) (F.ev rfl) (F.ev rfl)) fun a F=>?_
  refine Jf ?_
  refine Kgq ?_
  refine wp_cond_true (F.ev rfl) ?_
  refine Kgr ?_
  refine lxv (.int .i64 (i:Nat)) F (Jb (F.ev rfl)) fun a F=>?_
  refine lxv (.int .i64 (i:Nat)) F (Jg (F.ev rfl)) fun a F=>?_
  refine Jf ?_
  have hil:i<xs.length:=by rw [r.1];exact hlt
  have hwr:=r.room hlt
  have hltm:i<m:=by omega
  obtain ⟨gl,ol,hpa,_,_,hc⟩:=r.get hlt
  obtain ⟨gv,ov,hpb,hiv,_,hcv⟩:=rv.get hltm
  have hxQ:=hxs _ (List.getElem_mem hil)
  have hvQ:=hvs _ (List.getElem_mem hiv)
  have hvg:vs.getD i 0=vs[i]:=by simp [List.getD,List.getElem?_eq_getElem hiv]
  obtain ⟨x,hxe⟩:∃ x,x=xs[i]:=⟨_,rfl⟩
  obtain ⟨v,hve⟩:∃ v,v=vs[i]:=⟨_,rfl⟩
  rw [← hxe] at hc hxQ
  rw [← hve] at hcv hvQ hvg
  have hpl:ps.length=n:=hN.lp.trans r.1
  have hol:os.length=i+1:=hN.lo
  have hps256:∀ c∈ps,c<2^256:=fun c hc=>Nat.lt_trans (hN.bp c hc) hQ
  have hos256:∀ c∈os,c<2^256:=fun c hc=>Nat.lt_trans (hN.bo c hc) hQ
  have hpt:∀ c∈ps.take i,c<Q:=fun c hc=>hN.bp c (List.mem_of_mem_take hc)
  refine Kgq ?_
  refine Km (S:=fun w'=>Mem _ _ w' [(gp,24,cp),(gq,24,cq),(gg,26,gcs P Q G H)]) HM (fun _ h=>h) (by kernel_rfl) fun w HM HBW=>?_
  clear HBW
  try simp only [List.append_eq,List.cons_append,List.nil_append]
  refine Kr [⟨0,45,[],.val (grp P Q G H),true⟩,
   ⟨1,46,[0],.val (.slice pb m capv),true⟩,
   ⟨2,47,[1],.val (.int .i64 (i:Nat)),true⟩,
   ⟨3,48,[1,2],.val (.pointer (some ⟨gv,ov+i*4,none⟩)),true⟩,
   ⟨4,49,[3],.val (num v),true⟩,
   ⟨5,50,[4],.val (grp P Q G H),true⟩,
   ⟨6,51,[5],.val (.slice (some ⟨gp,0,none⟩) n n),true⟩,
   ⟨7,52,[6],.val (.int .i64 (i:Nat)),true⟩,
   ⟨8,53,[6,7],.val (.slice (some ⟨gp,0,none⟩) i n),true⟩,
   ⟨9,54,[8],.val (.slice pa n cap),true⟩,
   ⟨10,55,[9],.val (.int .i64 (i:Nat)),true⟩,
   ⟨11,56,[9,10],.val (.pointer (some ⟨gl,ol+i*4,none⟩)),true⟩,
   ⟨12,57,[11],.val (num x),true⟩,
   ⟨18,11,[],.cell 24 (ncs 0),false⟩,
   ⟨13,58,[5,8,12],.val (num (Ki Q (evZ (zs (ps.take i)) x))),false⟩,
   ⟨14,59,[0,4,14],.val (.tuple #[num (((v+Q-Ki Q (evZ (zs (ps.take i)) x))%Q)),.int .i64 0]),false⟩,
   ⟨15,44,[15],.val (.tuple #[num (((v+Q-Ki Q (evZ (zs (ps.take i)) x))%Q)),.int .i64 0]),true⟩,
   ⟨16,60,[16],.val (num (((v+Q-Ki Q (evZ (zs (ps.take i)) x))%Q))),true⟩,
   ⟨17,61,[16,17],.val (.int .i64 0),true⟩] 2 _ F HM (fun _ h=>h.subl (by first | exact List.Sublist.refl _ | (repeat (first | exact List.Sublist.refl _ | refine List.Sublist.cons_cons _ ?_ | refine List.Sublist.cons _ ?_)))) (by kernel_rfl) (by rfl) ?_ ?_ ?_ ?_ ?_ ?_ ?_
  ·kernel_rfl
  ·exact of_decide_eq_true (by kernel_rfl)
  ·(repeat refine all_cons ⟨_,by rfl,by rfl⟩ ?_);exact Jj
  ·kernel_rfl
  ·(repeat (refine all_cons ?_ ?_;rotate_left));exact Jj
   all_goals try exact Jq _ (by rfl)
   ·exact Uh _ _ _ _ _ _ _ (by rfl) (by rfl) Ji (fun ρ w kn hs=>Jr (kn _ _ (F.old (by rfl) rfl)) (hs.get 2 rfl))
   ·exact Uh _ _ _ _ _ _ _ (by rfl) (by rfl) Ji (fun ρ w kn hs=>Jb (kn _ _ (F.old (by rfl) rfl)))
   ·exact Uh _ _ _ _ _ _ _ (by rfl) (by rfl) Ji (fun ρ w kn hs=>Jb (kn _ _ (F.old (by rfl) rfl)))
   ·exact Uh _ _ _ _ _ _ _ (by rfl) (by rfl) Ji (fun ρ w kn hs=>Vx hltm (by rw [← hpb];exact (kn _ _ (kc 1 46))) (kn _ _ (kc 2 47)))
   ·exact crS (fun ρ w kn hs=>Va (kn _ _ (kc 3 48)) (hcv _ hs.bel))
   ·exact Uh _ _ _ _ _ _ _ (by rfl) (by rfl) Ji (fun ρ w kn hs=>Jr (kn _ _ (F.old (by rfl) rfl)) (hs.get 2 rfl))
   ·exact Uh _ _ _ _ _ _ _ (by rfl) (by rfl) Ji (fun ρ w kn hs=>Jb (kn _ _ (F.old (by rfl) rfl)))
   ·exact Uh _ _ _ _ _ _ _ (by rfl) (by rfl) Ji (fun ρ w kn hs=>Jb (kn _ _ (F.old (by rfl) rfl)))
   ·exact Uh _ _ _ _ _ _ _ (by rfl) (by rfl) Ji (fun ρ w kn hs=>o_cutTo (k:=i) (by omega) (by omega) (kn _ _ (kc 6 51)) (kn _ _ (kc 7 52)))
   ·exact Uh _ _ _ _ _ _ _ (by rfl) (by rfl) Ji (fun ρ w kn hs=>Jb (kn _ _ (F.old (by rfl) rfl)))
   ·exact Uh _ _ _ _ _ _ _ (by rfl) (by rfl) Ji (fun ρ w kn hs=>Jb (kn _ _ (F.old (by rfl) rfl)))
   ·exact Uh _ _ _ _ _ _ _ (by rfl) (by rfl) Ji (fun ρ w kn hs=>Vx hlt (by rw [← hpa];exact (kn _ _ (kc 9 54))) (kn _ _ (kc 10 55)))
   ·exact crS (fun ρ w kn hs=>Va (kn _ _ (kc 11 56)) (hc _ hs.bel))
   ·exact crS (fun ρ w kn hs=>Jb (kn _ _ (kc 15 59)))
   ·exact crS (fun ρ w kn hs=>Jk (kn _ _ (kc 16 44)) rfl)
   ·exact crS (fun ρ w kn hs=>Jk (kn _ _ (kc 16 44)) rfl)
  ·(repeat (refine all_cons ?_ ?_;rotate_left));exact Jj
   all_goals try exact sA
   ·exact fun _=>Wm _ _ _ _ _ _ _ _ (by rfl) (by rfl) (Nat.le_refl _) (fun ρ w=>Kc)
   ·exact fun _=>Jac _ 31 _ _ [.tmp 50,.tmp 53,.tmp 57] _ _ _ _ _ _ _ (by rfl) Try.func31 (by kernel_rfl) (by rfl) (by rfl) (Ji) (.cons (kc 5 50) (.cons (kc 8 53) (.cons (kc 12 57) .nil))) (fun u hb=>(fun u (z:Below w.heap.size w u)=>Jcm P Q G H x i n _ (ps.take i) u hQ h1 hxQ hpt (hcp.rs ((HM.on z).get 0 rfl) (by omega) (by omega) (by have:=r.len;omega) hps256)) u hb)
   ·exact fun _=>Jl _ 27 _ _ [.tmp 45,.tmp 49,.tmp 58] _ _ _ _ _ _ _ (by rfl) Try.func27 (by kernel_rfl) (by rfl) (by rfl) (Ji) (.cons (kc 0 45) (.cons (kc 4 49) (.cons (kc 14 58) .nil))) ((Jbz P Q G H v _ hQ h1 hvQ (Vr h1 _)))
  intro gs rs a w hgs hrs F HM HBW HR HO HT
  obtain rfl:=nl0 rs hrs
  obtain ⟨gm,rfl⟩:=nl1 gs hgs
  clear hrs hgs HR HBW HO
  clear HT
  refine Uv (i:=19) HM (by kernel_rfl) (by rfl) rfl rfl (k:=0) rfl (Jz (F.ev rfl) (F.ev rfl) (HM.get 0 rfl)) (M2:=[(gm,24,ncs (((v+Q-Ki Q (evZ (zs (ps.take i)) x))%Q))),(gp,24,cp),(gq,24,cq),(gg,26,gcs P Q G H)]) (rfl) (fun _ h=>h.subl (by first | exact List.Sublist.refl _ | (repeat (first | exact List.Sublist.refl _ | refine List.Sublist.cons_cons _ ?_ | refine List.Sublist.cons _ ?_)))) fun w HM=>?_
  refine Kj (i:=20) (d:=12) (x:=.tmp 61) (v:=.int .i64 0) F ((HM.subl (by first | exact List.Sublist.refl _ | (repeat (first | exact List.Sublist.refl _ | refine List.Sublist.cons_cons _ ?_ | refine List.Sublist.cons _ ?_))))) (by kernel_rfl) (by rfl) (by rfl) (F.ev rfl) fun a F=>?_
  refine Ua (by kernel_rfl) ?_ _
  have hmis:(v+Q-Ki Q (evZ (zs (ps.take i)) x))%Q=Ki Q ((v:Int)-evZ (zs (ps.take i)) x):=by have:=Jep h1 (v:Int) (evZ (zs (ps.take i)) x);rwa [Jdk hvQ h1] at this
  rw [hmis] at HM
  clear hmis
  have hMl:=Vr h1 ((v:Int)-evZ (zs (ps.take i)) x);have cM:=Wc h1 ((v:Int)-evZ (zs (ps.take i)) x)
  generalize Ki Q ((v:Int)-evZ (zs (ps.take i)) x)=D at *
  replace F:=F.sub [41,1,2,40,8,9,3,10,11,12]
  have hEl:=Vr h1 (evZ (zs os) x);have cE:=Wc h1 (evZ (zs os) x)
  obtain ⟨E,hE⟩:∃ E,E=Ki Q (evZ (zs os) x):=⟨_,rfl⟩
  rw [← hE] at hEl cE
  have hval:∀ u,Below w.heap.size w u→Calls Try.prog 31 #[grp P Q G H,.slice (some ⟨gq,0,none⟩) (i+1) capq,num x] u fun e w2=>e=.returned (num E)∧Below u.heap.size u w2:=fun u z=>by rw [hE];exact Jcm P Q G H x (i+1) capq _ os u hQ h1 hxQ hN.bo (hcq.rsA ((HM.on z).get 2 rfl) hol hq1 hq2 hos256)
  by_cases hu:U Q (evZ (zs os) x)
  ·obtain ⟨T,hT,hTc,hby⟩:=by_yes P Q G H D E hQ h1 hMl hEl (U.cg cE.symm hu)
   refine Kgq ?_
   refine Km (S:=fun w'=>Mem _ _ w' [(gm,24,ncs D),(gp,24,cp),(gq,24,cq),(gg,26,gcs P Q G H)]) HM (fun _ h=>h) (by kernel_rfl) fun w HM HBW=>?_
   have HBX:=HBW
   clear HBW
   try simp only [List.append_eq,List.cons_append,List.nil_append]
   refine Kr [⟨0,63,[],.val (grp P Q G H),true⟩,
   ⟨1,64,[0],.val (num D),true⟩,
   ⟨2,65,[1],.val (grp P Q G H),true⟩,
   ⟨3,66,[2],.val (.slice (some ⟨gq,0,none⟩) (i+1) capq),true⟩,
   ⟨4,67,[3],.val (.slice pa n cap),true⟩,
   ⟨5,68,[4],.val (.int .i64 (i:Nat)),true⟩,
   ⟨6,69,[4,5],.val (.pointer (some ⟨gl,ol+i*4,none⟩)),true⟩,
   ⟨7,70,[6],.val (num x),true⟩,
   ⟨13,13,[],.cell 24 (ncs 0),false⟩,
   ⟨8,71,[2,3,7],.val (num E),false⟩,
   ⟨9,72,[0,1,9],.val (.tuple #[num T,.int .i64 0]),false⟩,
   ⟨10,62,[10],.val (.tuple #[num T,.int .i64 0]),true⟩,
   ⟨11,73,[11],.val (num T),true⟩,
   ⟨12,74,[11,12],.val (.int .i64 0),true⟩] 2 _ F HM (fun _ h=>h.subl (by first | exact List.Sublist.refl _ | (repeat (first | exact List.Sublist.refl _ | refine List.Sublist.cons_cons _ ?_ | refine List.Sublist.cons _ ?_)))) (by kernel_rfl) (by rfl) ?_ ?_ ?_ ?_ ?_ ?_ ?_
   ·kernel_rfl
   ·exact of_decide_eq_true (by kernel_rfl)
   ·(repeat refine all_cons ⟨_,by rfl,by rfl⟩ ?_);exact Jj
   ·kernel_rfl
   ·(repeat (refine all_cons ?_ ?_;rotate_left));exact Jj
    all_goals try exact Jq _ (by rfl)
    ·exact Uh _ _ _ _ _ _ _ (by rfl) (by rfl) Ji (fun ρ w kn hs=>Jr (kn _ _ (F.old (by rfl) rfl)) (hs.get 3 rfl))
    ·exact Uh _ _ _ _ _ _ _ (by rfl) (by rfl) Ji (fun ρ w kn hs=>Ke (kn _ _ (F.old (by rfl) rfl)) (hs.get 0 rfl))
    ·exact Uh _ _ _ _ _ _ _ (by rfl) (by rfl) Ji (fun ρ w kn hs=>Jr (kn _ _ (F.old (by rfl) rfl)) (hs.get 3 rfl))
    ·exact Uh _ _ _ _ _ _ _ (by rfl) (by rfl) Ji (fun ρ w kn hs=>Jb (kn _ _ (F.old (by rfl) rfl)))
    ·exact Uh _ _ _ _ _ _ _ (by rfl) (by rfl) Ji (fun ρ w kn hs=>Jb (kn _ _ (F.old (by rfl) rfl)))
    ·exact Uh _ _ _ _ _ _ _ (by rfl) (by rfl) Ji (fun ρ w kn hs=>Jb (kn _ _ (F.old (by rfl) rfl)))
    ·exact Uh _ _ _ _ _ _ _ (by rfl) (by rfl) Ji (fun ρ w kn hs=>Vx hlt (by rw [← hpa];exact (kn _ _ (kc 4 67))) (kn _ _ (kc 5 68)))
    ·exact crS (fun ρ w kn hs=>Va (kn _ _ (kc 6 69)) (hc _ hs.bel))
    ·exact crS (fun ρ w kn hs=>Jb (kn _ _ (kc 10 72)))
    ·exact crS (fun ρ w kn hs=>Jk (kn _ _ (kc 11 62)) rfl)
    ·exact crS (fun ρ w kn hs=>Jk (kn _ _ (kc 11 62)) rfl)
   ·(repeat (refine all_cons ?_ ?_;rotate_left));exact Jj
    all_goals try exact sA
    ·exact fun _=>Wm _ _ _ _ _ _ _ _ (by rfl) (by rfl) (Nat.le_refl _) (fun ρ w=>Kc)
    ·exact fun _=>Jac _ 31 _ _ [.tmp 65,.tmp 66,.tmp 70] _ _ _ _ _ _ _ (by rfl) Try.func31 (by kernel_rfl) (by rfl) (by rfl) (Ji) (.cons (kc 2 65) (.cons (kc 3 66) (.cons (kc 7 70) .nil))) (fun u hb=>(fun u (z:Below w.heap.size w u)=>hval u (Jy HBX z)) u hb)
    ·exact fun _=>Jl _ 32 _ _ [.tmp 63,.tmp 64,.tmp 71] _ _ _ _ _ _ _ (by rfl) Try.func32 (by kernel_rfl) (by rfl) (by rfl) (Ji) (.cons (kc 0 63) (.cons (kc 1 64) (.cons (kc 9 71) .nil))) (hby)
   intro gs rs a w hgs hrs F HM HBW HR HO HT
   obtain rfl:=nl0 rs hrs
   obtain ⟨gt,rfl⟩:=nl1 gs hgs
   have HBX:=HBW
   clear hrs hgs HR HBW HO
   clear HT
   refine Uv (i:=14) HM (by kernel_rfl) (by rfl) rfl rfl (k:=0) rfl (Jz (F.ev rfl) (F.ev rfl) (HM.get 0 rfl)) (M2:=[(gt,24,ncs T),(gm,24,ncs D),(gp,24,cp),(gq,24,cq),(gg,26,gcs P Q G H)]) (rfl) (fun _ h=>h.subl (by first | exact List.Sublist.refl _ | (repeat (first | exact List.Sublist.refl _ | refine List.Sublist.cons_cons _ ?_ | refine List.Sublist.cons _ ?_)))) fun w HM=>?_
   refine Kj (i:=15) (d:=14) (x:=.tmp 74) (v:=.int .i64 0) F ((HM.subl (by first | exact List.Sublist.refl _ | (repeat (first | exact List.Sublist.refl _ | refine List.Sublist.cons_cons _ ?_ | refine List.Sublist.cons _ ?_))))) (by kernel_rfl) (by rfl) (by rfl) (F.ev rfl) fun a F=>?_
   refine Ua (by kernel_rfl) ?_ _
   refine Kgr ?_
   refine lxv (.int .i64 0) F (Jb (F.ev rfl)) fun a F=>?_
   refine lxv (.bool false) F (Kh (u:=.int .i64 0) (v:=.int .i64 0) (fun ρ hx hy=>by simp only [execOp,hx,hy];simp [go_sem]) (F.ev rfl) rfl) fun a F=>?_
   refine Jf ?_
   refine Kgq ?_
   refine wp_cond_false (F.ev rfl) ?_
   replace HM:=HM.front 3 rfl (M2:=[(gq,24,cq),(gt,24,ncs T),(gm,24,ncs D),(gp,24,cp),(gg,26,gcs P Q G H)]) rfl
   replace HM:=HM.front 3 rfl (M2:=[(gp,24,cp),(gq,24,cq),(gt,24,ncs T),(gm,24,ncs D),(gg,26,gcs P Q G H)]) rfl
   refine Kgr ?_
   refine lxv (grp P Q G H) F (Jr (F.ev rfl) (HM.get 4 rfl)) fun a F=>?_
   refine lxv (.slice (some ⟨gp,0,none⟩) n n) F (Jb (F.ev rfl)) fun a F=>?_
   refine lxv (.slice (some ⟨gq,0,none⟩) (i+1) capq) F (Jb (F.ev rfl)) fun a F=>?_
   refine lxv (num T) F (Ke (F.ev rfl) (HM.get 2 rfl)) fun a F=>?_
   refine Jp F (Ja rfl _) rfl (by rfl) (Jh Try.func33 (by kernel_rfl) (by rfl) (.cons (F.ev rfl) (.cons (F.ev rfl) (.cons (F.ev rfl) (.cons (F.ev rfl) .nil)))) _) (addTimes_any P Q G H T gp gq n n (i+1) capq _ ps os cp cq _ _ _ hQ h1 hT hN.bp hN.bo hcp hcq hpl hol (by omega) (by omega) HM) fun a w hu F=>?_
   obtain ⟨cp2,hcp2,HM,hpz2⟩:=hu
   refine Jf ?_
   replace HM:=HM.front 1 rfl (M2:=[(gq,24,cq),(gp,24,cp2),(gt,24,ncs T),(gm,24,ncs D),(gg,26,gcs P Q G H)]) rfl
   refine Kgq ?_
   refine Km (S:=fun _=>True) HM (fun _ h=>trivial) (by kernel_rfl) fun w HM HBW=>?_
   clear HBW
   try simp only [List.append_eq,List.cons_append,List.nil_append]
   refine Kr [⟨0,83,[],.val (grp P Q G H),false⟩,
   ⟨1,84,[],.val (.slice (some ⟨gq,0,none⟩) (i+1) capq),true⟩,
   ⟨2,85,[],.val (.slice pa n cap),true⟩,
   ⟨3,86,[],.val (.int .i64 (i:Nat)),true⟩,
   ⟨4,87,[2,3],.val (.pointer (some ⟨gl,ol+i*4,none⟩)),true⟩,
   ⟨5,88,[4],.val (num x),false⟩] 2 _ F HM (fun _ _=>trivial) (by kernel_rfl) (by rfl) ?_ ?_ ?_ ?_ ?_ ?_ ?_
   ·kernel_rfl
   ·exact of_decide_eq_true (by kernel_rfl)
   ·(repeat refine all_cons ⟨_,by rfl,by rfl⟩ ?_);exact Jj
   ·kernel_rfl
   ·(repeat (refine all_cons ?_ ?_;rotate_left));exact Jj
    ·exact Jq _ (by rfl)
    ·exact Uh _ _ _ _ _ _ _ (by rfl) (by rfl) Ji (fun ρ w kn hs=>Jb (kn _ _ (F.old (by rfl) rfl)))
    ·exact Uh _ _ _ _ _ _ _ (by rfl) (by rfl) Ji (fun ρ w kn hs=>Jb (kn _ _ (F.old (by rfl) rfl)))
    ·exact Uh _ _ _ _ _ _ _ (by rfl) (by rfl) Ji (fun ρ w kn hs=>Jb (kn _ _ (F.old (by rfl) rfl)))
    ·exact Uh _ _ _ _ _ _ _ (by rfl) (by rfl) Ji (fun ρ w kn hs=>Vx hlt (by rw [← hpa];exact (kn _ _ (kc 2 85))) (kn _ _ (kc 3 86)))
    ·exact Jq _ (by rfl)
   ·(repeat (refine all_cons ?_ ?_;rotate_left));exact Jj
    all_goals try exact sA
    ·exact fun _=>Jad _ _ _ _ _ _ (by rfl) (by rfl) (fun ρ w kn hb=>Jr (kn _ _ (F.old (by rfl) rfl)) ((HM.on hb).get 4 rfl))
    ·exact fun _=>Jad _ _ _ _ _ _ (by rfl) (by rfl) (fun ρ w kn hb=>Va (kn _ _ (kc 4 87)) (hc _ (HM.on hb).bel))
   intro gs rs a w hgs hrs F HM HBW HR HO HT
   obtain rfl:=nl0 rs hrs
   obtain rfl:=nl0 gs hgs
   clear hrs hgs HR HBW HO
   clear HT
   refine Jdj (i:=6) F (by kernel_rfl) (by rfl) rfl rfl (by rfl) (Jh Try.func34 (by kernel_rfl) (by rfl) (.cons (F.ev rfl) (.cons (F.ev rfl) (.cons (F.ev rfl) .nil))) _) (noughtAt_any P Q G H x gq (i+1) capq _ os cq _ _ _ hQ h1 hxQ hN.bo hcq hol (by omega) HM) (fun _ _ _=>trivial) fun a w u hu F=>?_
   obtain ⟨gn,capn,cn,rfl,hn1,hn2,hcn,HM⟩:=hu
   refine Kj (i:=7) (d:=9) (x:=.tmp 89) (v:=.slice (some ⟨gn,0,none⟩) (i+1+1) capn) F (trivial) (by kernel_rfl) (by rfl) (by rfl) (F.ev rfl) fun a F=>?_
   refine Ua (by kernel_rfl) ?_ _
   refine Kgr ?_
   refine lxv (.int .i64 ((i+1:Nat):Int)) F (Kh (u:=.int .i64 (i:Nat)) (v:=.int .i64 1) (fun ρ hx hy=>by simp only [execOp,hx,hy];simp [go_sem,hwr]) (F.ev rfl) rfl) fun a F=>?_
   refine lxv (.int .i64 ((i+1:Nat):Int)) F (Jb (F.ev rfl)) fun a F=>?_
   refine Jf ?_
   replace HM:=HM.erase 1 (M2:=[(gn,24,cn),(gp,24,cp2),(gt,24,ncs T),(gm,24,ncs D),(gg,26,gcs P Q G H)]) rfl
   replace HM:=HM.erase 2 (M2:=[(gn,24,cn),(gp,24,cp2),(gm,24,ncs D),(gg,26,gcs P Q G H)]) rfl
   replace HM:=HM.erase 2 (M2:=[(gn,24,cn),(gp,24,cp2),(gg,26,gcs P Q G H)]) rfl
   replace HM:=HM.front 1 rfl (M2:=[(gp,24,cp2),(gn,24,cn),(gg,26,gcs P Q G H)]) rfl
   have hst:=hN.step h1 hil (t:=T) (by rw [← hxe];exact hu) (by rw [hvg,← hxe];exact ((Cg.mulL _ cE.symm).trans hTc).trans cM)
   rw [← hxe] at hst
   refine Jv ?_
   refine ⟨⟨i+1,_,_,cp2,cn,gn,capn,by omega,hst,hpz2.trans hpz,hcp2,hcn,hn1,hn2,F.sub [41,1,2,40,8,9,3],HM⟩,?_⟩
   ·show n-(intOf (a.tmps.getD 41 undef)).toNat<n-(intOf (aS.tmps.getD 41 undef)).toNat
    rw [F.get 41 _ rfl,FS.get 41 _ rfl]
    show n-((i+1:Nat):Int).toNat<n-((i:Nat):Int).toNat
    omega
  ·refine Kgq ?_
   refine Km (S:=fun w'=>Mem _ _ w' [(gm,24,ncs D),(gp,24,cp),(gq,24,cq),(gg,26,gcs P Q G H)]) HM (fun _ h=>h) (by kernel_rfl) fun w HM HBW=>?_
   have HBX:=HBW
   clear HBW
   try simp only [List.append_eq,List.cons_append,List.nil_append]
   refine Kr [⟨0,63,[],.val (grp P Q G H),true⟩,
   ⟨1,64,[0],.val (num D),true⟩,
   ⟨2,65,[1],.val (grp P Q G H),true⟩,
   ⟨3,66,[2],.val (.slice (some ⟨gq,0,none⟩) (i+1) capq),true⟩,
   ⟨4,67,[3],.val (.slice pa n cap),true⟩,
   ⟨5,68,[4],.val (.int .i64 (i:Nat)),true⟩,
   ⟨6,69,[4,5],.val (.pointer (some ⟨gl,ol+i*4,none⟩)),true⟩,
   ⟨7,70,[6],.val (num x),true⟩,
   ⟨13,13,[],.cell 24 (ncs 0),false⟩,
   ⟨8,71,[2,3,7],.val (num E),false⟩,
   ⟨9,72,[0,1,9],.val (.tuple #[num 0,.int .i64 7]),false⟩,
   ⟨10,62,[10],.val (.tuple #[num 0,.int .i64 7]),true⟩,
   ⟨11,73,[11],.val (num 0),true⟩,
   ⟨12,74,[11,12],.val (.int .i64 7),true⟩] 2 _ F HM (fun _ h=>h.subl (by first | exact List.Sublist.refl _ | (repeat (first | exact List.Sublist.refl _ | refine List.Sublist.cons_cons _ ?_ | refine List.Sublist.cons _ ?_)))) (by kernel_rfl) (by rfl) ?_ ?_ ?_ ?_ ?_ ?_ ?_
   ·kernel_rfl
   ·exact of_decide_eq_true (by kernel_rfl)
   ·(repeat refine all_cons ⟨_,by rfl,by rfl⟩ ?_);exact Jj
   ·kernel_rfl
   ·(repeat (refine all_cons ?_ ?_;rotate_left));exact Jj
    all_goals try exact Jq _ (by rfl)
    ·exact Uh _ _ _ _ _ _ _ (by rfl) (by rfl) Ji (fun ρ w kn hs=>Jr (kn _ _ (F.old (by rfl) rfl)) (hs.get 3 rfl))
    ·exact Uh _ _ _ _ _ _ _ (by rfl) (by rfl) Ji (fun ρ w kn hs=>Ke (kn _ _ (F.old (by rfl) rfl)) (hs.get 0 rfl))
    ·exact Uh _ _ _ _ _ _ _ (by rfl) (by rfl) Ji (fun ρ w kn hs=>Jr (kn _ _ (F.old (by rfl) rfl)) (hs.get 3 rfl))
    ·exact Uh _ _ _ _ _ _ _ (by rfl) (by rfl) Ji (fun ρ w kn hs=>Jb (kn _ _ (F.old (by rfl) rfl)))
    ·exact Uh _ _ _ _ _ _ _ (by rfl) (by rfl) Ji (fun ρ w kn hs=>Jb (kn _ _ (F.old (by rfl) rfl)))
    ·exact Uh _ _ _ _ _ _ _ (by rfl) (by rfl) Ji (fun ρ w kn hs=>Jb (kn _ _ (F.old (by rfl) rfl)))
    ·exact Uh _ _ _ _ _ _ _ (by rfl) (by rfl) Ji (fun ρ w kn hs=>Vx hlt (by rw [← hpa];exact (kn _ _ (kc 4 67))) (kn _ _ (kc 5 68)))
    ·exact crS (fun ρ w kn hs=>Va (kn _ _ (kc 6 69)) (hc _ hs.bel))
    ·exact crS (fun ρ w kn hs=>Jb (kn _ _ (kc 10 72)))
    ·exact crS (fun ρ w kn hs=>Jk (kn _ _ (kc 11 62)) rfl)
    ·exact crS (fun ρ w kn hs=>Jk (kn _ _ (kc 11 62)) rfl)
   ·(repeat (refine all_cons ?_ ?_;rotate_left));exact Jj
    all_goals try exact sA
    ·exact fun _=>Wm _ _ _ _ _ _ _ _ (by rfl) (by rfl) (Nat.le_refl _) (fun ρ w=>Kc)
    ·exact fun _=>Jac _ 31 _ _ [.tmp 65,.tmp 66,.tmp 70] _ _ _ _ _ _ _ (by rfl) Try.func31 (by kernel_rfl) (by rfl) (by rfl) (Ji) (.cons (kc 2 65) (.cons (kc 3 66) (.cons (kc 7 70) .nil))) (fun u hb=>(fun u (z:Below w.heap.size w u)=>hval u (Jy HBX z)) u hb)
    ·exact fun _=>Jl _ 32 _ _ [.tmp 63,.tmp 64,.tmp 71] _ _ _ _ _ _ _ (by rfl) Try.func32 (by kernel_rfl) (by rfl) (by rfl) (Ji) (.cons (kc 0 63) (.cons (kc 1 64) (.cons (kc 9 71) .nil))) ((by_none P Q G H D E hQ h1 hEl (fun h=>hu (U.cg cE h))))
   intro gs rs a w hgs hrs F HM HBW HR HO HT
   obtain rfl:=nl0 rs hrs
   obtain ⟨gt,rfl⟩:=nl1 gs hgs
   have HBX:=HBW
   clear hrs hgs HR HBW HO
   clear HT
   refine Uv (i:=14) HM (by kernel_rfl) (by rfl) rfl rfl (k:=0) rfl (Jz (F.ev rfl) (F.ev rfl) (HM.get 0 rfl)) (M2:=[(gt,24,ncs 0),(gm,24,ncs D),(gp,24,cp),(gq,24,cq),(gg,26,gcs P Q G H)]) (rfl) (fun _ h=>h.subl (by first | exact List.Sublist.refl _ | (repeat (first | exact List.Sublist.refl _ | refine List.Sublist.cons_cons _ ?_ | refine List.Sublist.cons _ ?_)))) fun w HM=>?_
   refine Kj (i:=15) (d:=14) (x:=.tmp 74) (v:=.int .i64 7) F ((HM.subl (by first | exact List.Sublist.refl _ | (repeat (first | exact List.Sublist.refl _ | refine List.Sublist.cons_cons _ ?_ | refine List.Sublist.cons _ ?_))))) (by kernel_rfl) (by rfl) (by rfl) (F.ev rfl) fun a F=>?_
   refine Ua (by kernel_rfl) ?_ _
   refine Kgr ?_
   refine lxv (.int .i64 7) F (Jb (F.ev rfl)) fun a F=>?_
   refine lxv (.bool true) F (Kh (u:=.int .i64 7) (v:=.int .i64 0) (fun ρ hx hy=>by simp only [execOp,hx,hy];simp [go_sem]) (F.ev rfl) rfl) fun a F=>?_
   refine Jf ?_
   refine Kgq ?_
   refine wp_cond_true (F.ev rfl) ?_
   refine Kgr ?_
   refine lxv (.int .i64 7) F (Jb (F.ev rfl)) fun a F=>?_
   refine lxv (.slice none 0 0) F (Jg rfl) fun a F=>?_
   refine lxv (.int .i64 7) F (Jg (F.ev rfl)) fun a F=>?_
   refine Jf ?_
   refine Kgq ?_
   refine wp_ret ?_
   repeat (first | refine Ju ?_ | refine Jo ?_)
   exact bodyPost_ret (Jfp F (s:=6) (t:=7) rfl rfl rfl) F.defers ⟨fun h=>absurd h (hN.none hil (by rw [← hxe];exact hu)),fun _=>⟨rfl,HM.bel⟩⟩
 ·refine Kgr ?_
  refine lxv (.bool false) F (Kh (u:=.int .i64 (i:Nat)) (v:=.int .i64 (n:Nat)) (fun ρ hx hy=>by simp only [execOp,hx,hy];simp [go_sem];omega) (F.ev rfl) (F.ev rfl)) fun a F=>?_
  refine Jf ?_
  refine Kgq ?_
  refine wp_cond_false (F.ev rfl) ?_
  refine Kgq ?_
  refine wp_exit ?_
  repeat (first | refine Us ?_ | refine Un ?_)
  have hin:i=n:=by omega
  have hN2:=hN
  rw [hin,← r.1] at hN2
  refine Kgr ?_
  refine lxv (.slice (some ⟨gp,0,none⟩) n n) F (Jb (F.ev rfl)) fun a F=>?_
  refine lxv (.slice (some ⟨gp,0,none⟩) n n) F (Jg (F.ev rfl)) fun a F=>?_
  refine lxv (.int .i64 0) F (Jg rfl) fun a F=>?_
  refine Jf ?_
  have hlp:ps.length=n:=hN.lp.trans r.1
  have hD:Jgp Q xs:=by have:=hN2.un;rwa [List.take_of_length_le (Nat.le_of_eq (Jas xs))] at this
  refine Kgq ?_
  refine wp_ret ?_
  repeat (first | refine Ju ?_ | refine Jo ?_)
  exact bodyPost_ret (Jfp F (s:=6) (t:=7) rfl rfl rfl) F.defers ⟨fun _=>⟨gp,ps,rfl,HM.bel,HM.own _ List.mem_cons_self,⟨cp,HM.get 0 rfl,hcp,hpz⟩,hN.lp,hN.bp,fun k x v hx hv=>by obtain ⟨hk,rfl⟩:=List.getElem?_eq_some_iff.1 hx;have h:=hN2.ev k hk hk;simpa [List.getD,hv] using h⟩,fun h=>absurd hD h⟩

def Jgu (Q:Nat) (xs vs:List Nat):Bool:=decide (vs.length=xs.length) && Jbr Q vs && Jfr Q xs
theorem thrB_iff {Q:Nat} {xs vs:List Nat}:Jgu Q xs vs=true ↔ vs.length=xs.length∧(∀ v∈vs,v<Q)∧1<Q∧xs≠[]∧xs.Nodup∧∀ x∈xs,x<Q:=by
 unfold Jgu
 rw [Bool.and_eq_true,Bool.and_eq_true,ptsB_iff,decide_eq_true_eq]
 constructor
 ·rintro ⟨⟨h1,h2⟩,h3,h4,h5⟩
  have hp:=expB_all h5
  obtain ⟨x,xs',rfl⟩:=List.exists_cons_of_ne_nil h3
  exact ⟨h1,fun v hv=>(expB_all h2 v hv).2,(hp x List.mem_cons_self).1,h3,h4,fun x hx=>(hp x hx).2⟩
 ·rintro ⟨h1,h2,h3,h4,h5,h6⟩
  exact ⟨⟨h1,List.all_eq_true.2 fun v hv=>decide_eq_true ⟨h3,h2 v hv⟩⟩,h4,h5,List.all_eq_true.2 fun v hv=>decide_eq_true ⟨h3,h6 v hv⟩⟩
theorem thr_any (P Q G H n cap m capv:Nat) (pa pb:Option Addr) (xs vs:List Nat) (w0:World) (hQ:Q<2^256) (r:RN w0.heap.size w0 pa n cap xs) (rv:RN w0.heap.size w0 pb m capv vs) (hn:n≤1900) (h:Jgu Q xs vs=true):Calls Try.prog 12 #[grp P Q G H,.slice pa n cap,.slice pb m capv] w0 fun e w'=>(Jgp Q xs→∃ (gp:Nat) (ps:List Nat),e=.returned (.tuple #[.slice (some ⟨gp,0,none⟩) n n,.int .i64 0])∧Below w0.heap.size w0 w'∧w0.heap.size≤gp∧(∃ cs,At w' gp 24 cs∧Pf cs ps∧cs.size=n*4)∧TS Q xs vs ps)∧(¬ Jgp Q xs→e=.returned (.tuple #[.slice none 0 0,.int .i64 7])∧Below w0.heap.size w0 w'):=by
 obtain ⟨h1,h2,h3,h4,_,h6⟩:=thrB_iff.1 h
 unfold Jgu at h
 rw [Bool.and_eq_true,Bool.and_eq_true] at h
 exact thr_w P Q G H n cap m capv pa pb xs vs w0 hQ r rv (by rw [← r.1,← rv.1,h1]) h.1.2 h.2 h3 h6 h2 (by rw [← r.1];exact List.length_pos_iff.2 h4) hn
end Go.Proofs.Ytcbnmdkmfdjpiaa
