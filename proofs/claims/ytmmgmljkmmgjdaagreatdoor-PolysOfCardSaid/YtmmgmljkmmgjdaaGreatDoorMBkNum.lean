import Derived.Deep.Cut
import Derived.Test.YtmmgmljkmmgjdaaGreatDoorMTree
import Derived.Test.YtmmgmljkmmgjdaaGreatDoorMTw
namespace Go.Proofs.YtmmgmljkmmgjdaaGreatDoor
set_option maxRecDepth 100000
set_option maxHeartbeats 8000000
open Go.RowKit
set_option linter.unusedSimpArgs false
set_option linter.unusedVariables false
attribute [local go_sem ↓] Go.wp_at_zero Go.wp_at_succ

theorem markNum_any (q:Nat) (hq:q≤1000) (w0:World):Calls Tryz.prog 129 #[.int .i64 (q:Nat)] w0 fun e w'=>e=.returned (num q)∧Below w0.heap.size w0 w':=by
 refine Jx (args:=[.int .i64 (q:Nat)]) Tryz.func129 rfl Tryz.ntmps129 (by rfl) fun a F HM=>?_
 refine Kgr ?_
 refine Jn F HM (Ja rfl _) rfl (by rfl) (Jw) fun a w go F HM=>?_
 refine Jc ?_
 refine Kgr ?_
 refine lxv (.int .i64 (q:Nat)) F (Jb (F.ev rfl)) fun a F=>?_
 refine lxv (.int .u64 (q:Nat)) F (o_cvt (by omega) (F.ev rfl)) fun a F=>?_
 refine lxv (num q) F (o_buildX (by omega) (F.ev rfl)) fun a F=>?_
 refine Jv F HM (Ja rfl _) rfl (k:=0) rfl (Jq (F.ev rfl) (F.ev rfl) (HM.get 0 rfl)) (M2:=[(go,24,ncs q)]) (rfl) fun w HM=>?_
 refine Jc ?_
 refine Kgq ?_
 refine wp_ret ?_
 repeat (first | refine Jt ?_ | refine Jo ?_)
 exact Kp F HM (Jet F (s:=2) rfl rfl (HM.get 0 rfl))

theorem Jfi (q:Nat) (hq:q≤1000) (w0:World):Calls Tryz.prog 146 #[num q,.int .i64 (q:Nat)] w0 fun e w'=>e=.returned (.bool true)∧Below w0.heap.size w0 w':=by
 refine Jx (args:=[num q,.int .i64 (q:Nat)]) Tryz.func146 rfl Tryz.ntmps146 (by rfl) fun a F HM=>?_
 refine Kgr ?_
 refine Jn F HM (Ja rfl _) rfl (by rfl) (Kw (F.ev rfl)) fun a w go F HM=>?_
 refine lxv (.bool false) F (Je rfl) fun a F=>?_
 refine Jc ?_
 refine Kgr ?_
 refine lxv (num q) F (Jp (F.ev rfl) (HM.get 0 rfl)) fun a F=>?_
 refine lxv (.int .i64 (q:Nat)) F (Jb (F.ev rfl)) fun a F=>?_
 refine lxv (.int .u64 (q:Nat)) F (o_cvt (by omega) (F.ev rfl)) fun a F=>?_
 refine lxv (num q) F (o_buildX (by omega) (F.ev rfl)) fun a F=>?_
 refine lxv (.bool true) F (o_eqlS (F.ev rfl) (F.ev rfl)) fun a F=>?_
 refine lxv (.bool true) F (Je (F.ev rfl)) fun a F=>?_
 refine Jc ?_
 refine Kgq ?_
 refine wp_ret ?_
 repeat (first | refine Jt ?_ | refine Jo ?_)
 exact Kp F HM (Ua F rfl (s:=4) rfl)

theorem fillNum_any (N gB n0 ch:Nat) (ah:Option Addr) (v:Nat→Value) (es:List En) (R0:List (Nat × TypeId × Array Value)) (w0 w:World) (hv:v 4=.slice ah es.length ch) (hes:∀ e∈es,(∃ a n c,e.g=.slice a n c)∧e.q≤1000∧e.k≤100000) (hfa:FA 24 4 114 Jcj R0 (.slice ah es.length ch) es 0) (hdj:EDj es) (HM:Mem n0 w0 w ((gB,57,bkc N v)::R0)):Calls Tryz.prog 45 #[.pointer (some ⟨gB,0,none⟩)] w fun e w'=>e=.returned (.tuple #[])∧∃ R',Mem n0 w0 w' ((gB,57,bkc N v)::R')∧FA 24 4 114 Jcj R' (.slice ah es.length ch) es es.length∧KO 24 R0 R':=by
 refine Uf (args:=[.pointer (some ⟨gB,0,none⟩)]) HM Tryz.func45 rfl Tryz.ntmps45 (by rfl) fun a F HM=>?_
 refine Kgr ?_
 refine lxv (.int .i64 0) F (Je rfl) fun a F=>?_
 refine Jc ?_
 refine Kgq ?_
 refine wp_loop (fun a w=>∃ (i:Nat) (R:List (Nat × TypeId × Array Value)),i≤es.length∧FA 24 4 114 Jcj R (.slice ah es.length ch) es i∧KO 24 R0 R∧Fr a 35 [(2,.int .i64 (i:Nat)),(0,.pointer (some ⟨gB,0,none⟩))] []∧Mem n0 w0 w ((gB,57,bkc N v)::R)) (fun a _=>es.length-(intOf (a.tmps.getD 2 undef)).toNat) ⟨0,R0,Nat.zero_le _,hfa,fun _ _ _ _ _ _ h=>h,F.sub [2,0],HM⟩ ?_
 clear F HM hfa
 rintro aS wS ⟨i,R,hi,hfa,hko,FS,HM⟩
 have F:=FS
 by_cases hlt:i<es.length
 ·refine Kgr ?_
  refine lxv (.int .i64 (i:Nat)) F (Jb (F.ev rfl)) fun a F=>?_
  refine lxv (.pointer (some ⟨gB,0,none⟩)) F (Jb (F.ev rfl)) fun a F=>?_
  refine lxv (.pointer (some ⟨gB,0,none⟩)) F (Ki (F.ev rfl)) fun a F=>?_
  refine lxv (.pointer (some ⟨gB,4,none⟩)) F (Uo (F.ev rfl)) fun a F=>?_
  refine lxv (.slice ah es.length ch) F (Vr (F.ev rfl) ((((HM.get 0 rfl)).cell 4).trans (congrArg some hv))) fun a F=>?_
  refine lxv (.int .i64 (es.length:Nat)) F (Xb (F.ev rfl)) fun a F=>?_
  refine lxv (.bool true) F (Jz (u:=.int .i64 (i:Nat)) (v:=.int .i64 (es.length:Nat)) (fun ρ hx hy=>by simp only [execOp,hx,hy];simp [go_sem];omega) (F.ev rfl) (F.ev rfl)) fun a F=>?_
  refine Jc ?_
  refine Kgq ?_
  refine wp_cond_true (F.ev rfl) ?_
  obtain ⟨e,he⟩:∃ e,es[i]? = some e:=⟨_,List.getElem?_eq_getElem hlt⟩
  have hem:=hes e (List.mem_of_getElem? he)
  have hwr:IntKind.i64.wrap ((i:Int)+1)=((i+1:Nat):Int):=by obtain ⟨_,_,e1,h1,h2⟩:=hfa.held.form;cases e1;rw [IntKind.wrap_i64];omega
  obtain ⟨gh,hc0,hah,hhm,hlc,hsz,hcc⟩:=hfa.held.at (by omega)
  obtain ⟨b0,b1,b2⟩:=Jgp es i e he
  replace b0:=hcc _ _ b0;replace b1:=hcc _ _ b1;replace b2:=hcc _ _ b2
  obtain ⟨xs,lx,-⟩:=hfa.rows i e he
  obtain ⟨l,gv,q,k⟩:=e
  obtain ⟨⟨ag,ng,cg,hge⟩,hq,hk⟩:=hem
  have hge2:gv=.slice ag ng cg:=hge
  subst hge2
  obtain ⟨al,cl,hle,hkc,hcl⟩:=lx.form
  have hle2:l=.slice al k cl:=hle
  subst hle2
  clear hle hge
  have lx:LW 24 4 R (.slice al k cl) k xs:=lx
  have hq:q≤1000:=hq
  have hk:k≤100000:=hk
  have hkc:k≤cl:=hkc
  refine Kgr ?_
  refine lxv (.pointer (some ⟨gB,0,none⟩)) F (Jb (F.ev rfl)) fun a F=>?_
  refine lxv (.pointer (some ⟨gB,0,none⟩)) F (Ki (F.ev rfl)) fun a F=>?_
  refine lxv (.pointer (some ⟨gB,4,none⟩)) F (Uo (F.ev rfl)) fun a F=>?_
  refine lxv (.slice ah es.length ch) F (Vr (F.ev rfl) ((((HM.get 0 rfl)).cell 4).trans (congrArg some hv))) fun a F=>?_
  refine lxv (.int .i64 (i:Nat)) F (Jb (F.ev rfl)) fun a F=>?_
  refine lxv (.pointer (some ⟨gh,i*3,none⟩)) F (Jbz hlt (by rw [← hah];exact (F.ev rfl)) (F.ev rfl)) fun a F=>?_
  refine lxv (.agg #[.slice al k cl,.slice ag ng cg,.int .i64 (q:Nat)]) F (Jaw (F.ev rfl) (((HM.at_ _ (by repeat (first | exact hhm | apply List.mem_cons_of_mem))).cell _).trans b0) (((HM.at_ _ (by repeat (first | exact hhm | apply List.mem_cons_of_mem))).cell _).trans b1) (((HM.at_ _ (by repeat (first | exact hhm | apply List.mem_cons_of_mem))).cell _).trans b2)) fun a F=>?_
  refine Jn F HM (Ja rfl _) rfl (by rfl) (Jbn) fun a w gx F HM=>?_
  refine Jv F HM (Ja rfl _) rfl (k:=0) rfl (Jav (F.ev rfl) (F.ev rfl) (HM.get 0 rfl) rfl rfl) (M2:=((gx,114,#[.slice al k cl,.slice ag ng cg,.int .i64 (q:Nat)])::(gB,57,(bkc N v))::R)) (rfl) fun w HM=>?_
  refine Jc ?_
  refine Kgr ?_
  refine lxv (.int .i64 0) F (Je rfl) fun a F=>?_
  refine Jc ?_
  refine Kgq ?_
  refine wp_loop (fun a w=>∃ (j:Nat) (R2:List (Nat × TypeId × Array Value)),j≤k∧LW 24 4 R2 (.slice al k cl) k ((List.replicate j (Jcj q)).flatten++xs.drop (j*4))∧(∀ T1 s1 v1 n1 xs1,LW T1 s1 R v1 n1 xs1→(T1≠24∨Dj (.slice al k cl) v1)→LW T1 s1 R2 v1 n1 xs1)∧Fr a 35 [(4,.int .i64 (j:Nat)),(3,.pointer (some ⟨gx,0,none⟩)),(2,.int .i64 (i:Nat)),(0,.pointer (some ⟨gB,0,none⟩))] []∧Mem n0 w0 w ((gx,114,#[.slice al k cl,.slice ag ng cg,.int .i64 (q:Nat)])::(gB,57,(bkc N v))::R2)) (fun a _=>k-(intOf (a.tmps.getD 4 undef)).toNat) ⟨0,R,Nat.zero_le _,by simpa using lx,fun _ _ _ _ _ h _=>h,F.sub [4,3,2,0],HM⟩ ?_
  have FS2:aS.tmps.getD 2 undef=.int .i64 (i:Nat):=FS.get 2 _ rfl
  clear F HM FS
  rintro aT wT ⟨j,R2,hj,lx2,hk2,FT,HM⟩
  have F:=FT
  by_cases hlj:j<k
  ·refine Kgr ?_
   refine lxv (.int .i64 (j:Nat)) F (Jb (F.ev rfl)) fun a F=>?_
   refine lxv (.pointer (some ⟨gx,0,none⟩)) F (Ut (F.ev rfl)) fun a F=>?_
   refine lxv (.slice al k cl) F (Kx (F.ev rfl) ((((HM.get 0 rfl)).cell 0).trans rfl)) fun a F=>?_
   refine lxv (.int .i64 (k:Nat)) F (Ko (F.ev rfl)) fun a F=>?_
   refine lxv (.bool true) F (Jz (u:=.int .i64 (j:Nat)) (v:=.int .i64 (k:Nat)) (fun ρ hx hy=>by simp only [execOp,hx,hy];simp [go_sem];omega) (F.ev rfl) (F.ev rfl)) fun a F=>?_
   refine Jc ?_
   refine Kgq ?_
   refine wp_cond_true (F.ev rfl) ?_
   obtain ⟨ga,ca,hal,ham,-,hca,-⟩:=lx2.at (by omega)
   refine Kgq ?_
   refine Kg (S:=fun _=>True) HM (fun _ h=>trivial) (by kernel_rfl) fun w HM HBW=>?_
   clear HBW
   try simp only [List.append_eq,List.cons_append,List.nil_append]
   refine Kt [⟨0,28,[],.val (.pointer (some ⟨gx,0,none⟩)),true⟩,
   ⟨1,29,[0],.val (.slice al k cl),false⟩,
   ⟨2,30,[],.val (.int .i64 (j:Nat)),true⟩,
   ⟨3,31,[],.val (.pointer (some ⟨gx,2,none⟩)),true⟩,
   ⟨4,32,[3],.val (.int .i64 (q:Nat)),false⟩,
   ⟨6,34,[1,2],.val (.pointer (some ⟨ga,0+j*4,none⟩)),true⟩,
   ⟨5,33,[4],.val (num q),false⟩] 1 _ F HM (fun _ _=>trivial) (by kernel_rfl) (by rfl) ?_ ?_ ?_ ?_ ?_ ?_ ?_
   ·kernel_rfl
   ·exact of_decide_eq_true (by kernel_rfl)
   ·(repeat refine all_cons ⟨_,by rfl,by rfl⟩ ?_);exact all_nil
   ·kernel_rfl
   ·(repeat (refine all_cons ?_ ?_;rotate_left));exact all_nil
    all_goals try exact Jm _ (by rfl)
    ·exact Wt _ _ _ _ _ _ _ (by rfl) (by rfl) Jg (fun ρ w kn hs=>Ut (kn _ _ (F.old (by rfl) rfl)))
    ·exact Wt _ _ _ _ _ _ _ (by rfl) (by rfl) Jg (fun ρ w kn hs=>Jb (kn _ _ (F.old (by rfl) rfl)))
    ·exact Wt _ _ _ _ _ _ _ (by rfl) (by rfl) Jg (fun ρ w kn hs=>Wd (kn _ _ (F.old (by rfl) rfl)))
    ·exact crS (fun ρ w kn hs=>Kv hlj (by rw [← hal];exact (kn _ _ (kc 1 29))) (kn _ _ (kc 2 30)))
   ·(repeat (refine all_cons ?_ ?_;rotate_left));exact all_nil
    all_goals try exact sA
    ·exact fun _=>Um _ _ _ _ _ _ (by rfl) (by rfl) (fun ρ w kn hb=>Kx (kn _ _ (kc 0 28)) (((((HM.on hb).get 0 rfl)).cell 0).trans rfl))
    ·exact fun _=>Um _ _ _ _ _ _ (by rfl) (by rfl) (fun ρ w kn hb=>Jbe (kn _ _ (kc 3 31)) (((((HM.on hb).get 0 rfl)).cell 2).trans rfl))
    ·exact fun _=>Jl _ 129 _ _ [.tmp 32] _ _ _ _ _ _ _ (by rfl) Tryz.func129 (by kernel_rfl) (by rfl) (by rfl) (Jg) (.cons (kc 4 32) .nil) ((markNum_any q hq))
   intro gs rs a w hgs hrs F HM HBW HR HO HT
   obtain rfl:=nl0 rs hrs
   obtain rfl:=nl0 gs hgs
   clear hrs hgs HR HBW HO
   clear HT
   obtain ⟨R3,HM3,l3,k3⟩:=putW (A:=[(gx,114,#[.slice al k cl,.slice ag ng cg,.int .i64 (q:Nat)]),(gB,57,(bkc N v))]) (vs:=Jcj q) (o:=0+j*4) HM lx2 (by rw [hal]) (by show 0+j*4+4≤k*4;omega)
   have HMb:=HM
   refine sx_storeM (i:=7) HM3 (by kernel_rfl) (by rfl) rfl rfl (Xl (F.ev rfl) (F.ev rfl) (HM.at_ _ (by repeat (first | exact ham | apply List.mem_cons_of_mem))) (by rw [hca];omega)) (fun _ _=>trivial) fun w HM=>?_
   refine Ks (by kernel_rfl) ?_ _
   have hset:=setL_fill (Jcj q) xs j (by rw [lx.1];show (j+1)*4≤k*4;omega)
   rw [show (Jcj q).length=4 from rfl] at hset
   rw [Nat.zero_add,hset] at l3
   refine Kgr ?_
   refine lxv (.int .i64 (j:Nat)) F (Jb (F.ev rfl)) fun a F=>?_
   refine lxv (.int .i64 ((j+1:Nat):Int)) F (Jah (m:=j) (k:=1) (by omega) (F.ev rfl) rfl) fun a F=>?_
   refine lxv (.int .i64 ((j+1:Nat):Int)) F (Je (F.ev rfl)) fun a F=>?_
   refine Jc ?_
   refine Ku ?_
   refine ⟨⟨j+1,R3,by omega,l3,fun T1 s1 v1 n1 xs1 h hd=>k3 _ _ _ _ _ (hk2 _ _ _ _ _ h hd) (hd.elim (fun hne=>Jeg HMb (fun x hx=>List.mem_cons_of_mem _ (List.mem_cons_of_mem _ hx)) lx2 (hk2 _ _ _ _ _ h (Or.inl hne)) hne) id),F.sub [4,3,2,0],HM⟩,?_⟩
   ·show k-(intOf (a.tmps.getD 4 undef)).toNat<k-(intOf (aT.tmps.getD 4 undef)).toNat
    rw [F.get 4 _ rfl,FT.get 4 _ rfl]
    show k-((j+1:Nat):Int).toNat<k-((j:Nat):Int).toNat
    omega
  ·refine Kgr ?_
   refine lxv (.int .i64 (j:Nat)) F (Jb (F.ev rfl)) fun a F=>?_
   refine lxv (.pointer (some ⟨gx,0,none⟩)) F (Ut (F.ev rfl)) fun a F=>?_
   refine lxv (.slice al k cl) F (Kx (F.ev rfl) ((((HM.get 0 rfl)).cell 0).trans rfl)) fun a F=>?_
   refine lxv (.int .i64 (k:Nat)) F (Ko (F.ev rfl)) fun a F=>?_
   refine lxv (.bool false) F (Jz (u:=.int .i64 (j:Nat)) (v:=.int .i64 (k:Nat)) (fun ρ hx hy=>by simp only [execOp,hx,hy];simp [go_sem];omega) (F.ev rfl) (F.ev rfl)) fun a F=>?_
   refine Jc ?_
   refine Kgq ?_
   refine wp_cond_false (F.ev rfl) ?_
   refine Kgq ?_
   refine wp_exit ?_
   repeat (first | refine Kk ?_ | refine Kd ?_)
   obtain rfl:j=k:=by omega
   rw [List.drop_of_length_le (by rw [lx.1];exact Nat.le_refl _),List.append_nil] at lx2
   replace HM:=HM.erase 0 (M2:=((gB,57,(bkc N v))::R2)) rfl
   refine Kgr ?_
   refine lxv (.int .i64 (i:Nat)) F (Jb (F.ev rfl)) fun a F=>?_
   refine lxv (.int .i64 ((i+1:Nat):Int)) F (Jz (u:=.int .i64 (i:Nat)) (v:=.int .i64 1) (fun ρ hx hy=>by simp only [execOp,hx,hy];simp [go_sem,hwr]) (F.ev rfl) rfl) fun a F=>?_
   refine lxv (.int .i64 ((i+1:Nat):Int)) F (Je (F.ev rfl)) fun a F=>?_
   refine Jc ?_
   refine Ku ?_
   refine ⟨⟨i+1,R2,by omega,⟨hk2 _ _ _ _ _ hfa.held (Or.inl (by decide)),fun i2 e2 he2=>?_⟩,fun T1 s1 v1 n1 xs1 hne h=>hk2 _ _ _ _ _ (hko _ _ _ _ _ hne h) (Or.inl hne),F.sub [2,0],HM⟩,?_⟩
   ·by_cases ei:i2=i
    ·subst ei
     rw [he] at he2
     cases he2
     exact ⟨_,lx2,fun _=>rfl⟩
    ·obtain ⟨ys,l2,r2⟩:=hfa.rows i2 e2 he2
     exact ⟨ys,hk2 _ _ _ _ _ l2 (Or.inr (hdj i i2 _ _ (Ne.symm ei) he he2)),fun hp=>r2 (by omega)⟩
   ·show es.length-(intOf (a.tmps.getD 2 undef)).toNat<es.length-(intOf (aS.tmps.getD 2 undef)).toNat
    rw [F.get 2 _ rfl,FS2]
    show es.length-((i+1:Nat):Int).toNat<es.length-((i:Nat):Int).toNat
    omega
 ·refine Kgr ?_
  refine lxv (.int .i64 (i:Nat)) F (Jb (F.ev rfl)) fun a F=>?_
  refine lxv (.pointer (some ⟨gB,0,none⟩)) F (Jb (F.ev rfl)) fun a F=>?_
  refine lxv (.pointer (some ⟨gB,0,none⟩)) F (Ki (F.ev rfl)) fun a F=>?_
  refine lxv (.pointer (some ⟨gB,4,none⟩)) F (Uo (F.ev rfl)) fun a F=>?_
  refine lxv (.slice ah es.length ch) F (Vr (F.ev rfl) ((((HM.get 0 rfl)).cell 4).trans (congrArg some hv))) fun a F=>?_
  refine lxv (.int .i64 (es.length:Nat)) F (Xb (F.ev rfl)) fun a F=>?_
  refine lxv (.bool false) F (Jz (u:=.int .i64 (i:Nat)) (v:=.int .i64 (es.length:Nat)) (fun ρ hx hy=>by simp only [execOp,hx,hy];simp [go_sem];omega) (F.ev rfl) (F.ev rfl)) fun a F=>?_
  refine Jc ?_
  refine Kgq ?_
  refine wp_cond_false (F.ev rfl) ?_
  refine Kgq ?_
  refine wp_exit ?_
  repeat (first | refine Kk ?_ | refine Kd ?_)
  obtain rfl:i=es.length:=by omega
  refine Kgq ?_
  exact bodyPost_end (Vk rfl) F.defers ⟨rfl,R,HM,hfa,hko⟩

theorem Jdh {w:World} {g q k j:Nat} {cur:Array Value} {T:TypeId} (h:At w g T cur) (hc:∀ (j:Nat) (u:Value),(mks Jcj q k)[j]? = some u→cur[j]? = some u) (hj:j<k):C4 w g (0+j*4) q:=by
 have e:∀ c,c<4→w.cell? ⟨g,0+j*4+c,none⟩=(Jcj q)[c]?:=fun c hc4=>by
  rw [h.cell,Nat.zero_add]
  have e1:=mks_get (m:=Jcj) (sz:=4) (q:=q) rfl hj hc4
  obtain ⟨u,hu⟩:∃ u,(Jcj q)[c]? = some u:=⟨_,List.getElem?_eq_getElem hc4⟩
  rw [hu] at e1 ⊢
  exact hc _ _ e1
 exact ⟨e 0 (by decide),e 1 (by decide),e 2 (by decide),e 3 (by decide)⟩
theorem edj_setNum {es:List En} {i:Nat} {e:En} {u:Value} (h:EDj es) (he:es[i]? = some e):EDj (es.set i { e with g:=u }):=by
 have hi:=(List.getElem?_eq_some_iff.1 he).1
 have key:∀ (a:Nat) (x:En),(es.set i { e with g:=u })[a]? = some x→∃ y,es[a]? = some y∧y.l=x.l:=fun a x hx=>by
  by_cases ea:i=a
  ·subst ea;rw [List.getElem?_set_self hi] at hx;cases hx;exact ⟨e,he,rfl⟩
  ·rw [List.getElem?_set_ne ea] at hx;exact ⟨x,hx,rfl⟩
 intro a b x y hab hx hy
 obtain ⟨x',hx',ex⟩:=key a x hx
 obtain ⟨y',hy',ey⟩:=key b y hy
 rw [← ex,← ey]
 exact h a b x' y' hab hx' hy'
theorem gdj_setNum {es:List En} {i:Nat} {e:En} {u:Value} (h:GDj es i) (he:es[i]? = some e) (hu:∀ (b:Nat) (y:En),b≠i→es[b]? = some y→Dj u y.l∧(b<i→Dj u y.g)):GDj (es.set i { e with g:=u }) (i+1):=by
 have hi:=(List.getElem?_eq_some_iff.1 he).1
 intro a b x y hab ha hx hy
 by_cases ea:i=a
 ·subst ea
  rw [List.getElem?_set_self hi] at hx
  cases hx
  rw [List.getElem?_set_ne hab] at hy
  obtain ⟨h1,h2⟩:=hu b y (Ne.symm hab) hy
  exact ⟨h1,fun hb=>h2 (by omega)⟩
 ·rw [List.getElem?_set_ne ea] at hx
  by_cases eb:i=b
  ·subst eb
   rw [List.getElem?_set_self hi] at hy
   cases hy
   exact ⟨(h a i x e hab (by omega) hx he).1,fun _=>((hu a x (Ne.symm ea) hx).2 (by omega)).symm⟩
  ·rw [List.getElem?_set_ne eb] at hy
   obtain ⟨h1,h2⟩:=h a b x y hab (by omega) hx hy
   exact ⟨h1,fun hb=>h2 (by omega)⟩
theorem growNum_any (N gB n0 ch:Nat) (ah:Option Addr) (v:Nat→Value) (es:List En) (R0:List (Nat × TypeId × Array Value)) (w0 w:World) (hv:v 4=.slice ah es.length ch) (hes:∀ e∈es,(∃ a n c,e.g=.slice a n c)∧e.q≤1000∧e.k≤100000) (hga:GA 24 4 114 Jcj R0 (.slice ah es.length ch) es 0) (hdj:EDj es) (HM:Mem n0 w0 w ((gB,57,bkc N v)::R0)):Calls Tryz.prog 62 #[.pointer (some ⟨gB,0,none⟩)] w fun e w'=>e=.returned (.tuple #[])∧∃ es' R',Mem n0 w0 w' ((gB,57,bkc N v)::R')∧es'.length=es.length∧GA 24 4 114 Jcj R' (.slice ah es'.length ch) es' es'.length∧(∀ e∈es',(∃ a n c,e.g=.slice a n c)∧e.q≤1000∧e.k≤100000)∧KO2 24 114 R0 R':=by
 refine Uf (args:=[.pointer (some ⟨gB,0,none⟩)]) HM Tryz.func62 rfl Tryz.ntmps62 (by rfl) fun a F HM=>?_
 obtain ⟨i0,hi0,hz0,hz1,hz2⟩:=info_parts Tryz.infoNum
 refine Kgr ?_
 refine lxv (.int .i64 0) F (Je rfl) fun a F=>?_
 refine Jc ?_
 refine Kgq ?_
 refine wp_loop (fun a w=>∃ (i:Nat) (es1:List En) (R:List (Nat × TypeId × Array Value)),i≤es.length∧es1.length=es.length∧GA 24 4 114 Jcj R (.slice ah es1.length ch) es1 i∧EDj es1∧GDj es1 i∧(∀ e∈es1,(∃ a n c,e.g=.slice a n c)∧e.q≤1000∧e.k≤100000)∧KO2 24 114 R0 R∧Fr a 42 [(2,.int .i64 (i:Nat)),(0,.pointer (some ⟨gB,0,none⟩))] []∧Mem n0 w0 w ((gB,57,bkc N v)::R)) (fun a _=>es.length-(intOf (a.tmps.getD 2 undef)).toNat) ⟨0,es,R0,Nat.zero_le _,rfl,hga,hdj,fun _ _ _ _ _ h=>absurd h (Nat.not_lt_zero _),hes,fun _ _ _ _ _ _ _ h=>h,F.sub [2,0],HM⟩ ?_
 clear F HM hga hdj hes
 rintro aS wS ⟨i,es1,R,hi,hel,hga,hdj,hgd,hes,hko,FS,HM⟩
 have F:=FS
 by_cases hlt:i<es.length
 ·refine Kgr ?_
  refine lxv (.int .i64 (i:Nat)) F (Jb (F.ev rfl)) fun a F=>?_
  refine lxv (.pointer (some ⟨gB,0,none⟩)) F (Jb (F.ev rfl)) fun a F=>?_
  refine lxv (.pointer (some ⟨gB,0,none⟩)) F (Ki (F.ev rfl)) fun a F=>?_
  refine lxv (.pointer (some ⟨gB,4,none⟩)) F (Uo (F.ev rfl)) fun a F=>?_
  refine lxv (.slice ah es.length ch) F (Vr (F.ev rfl) ((((HM.get 0 rfl)).cell 4).trans (congrArg some hv))) fun a F=>?_
  refine lxv (.int .i64 (es.length:Nat)) F (Xb (F.ev rfl)) fun a F=>?_
  refine lxv (.bool true) F (Jz (u:=.int .i64 (i:Nat)) (v:=.int .i64 (es.length:Nat)) (fun ρ hx hy=>by simp only [execOp,hx,hy];simp [go_sem];omega) (F.ev rfl) (F.ev rfl)) fun a F=>?_
  refine Jc ?_
  refine Kgq ?_
  refine wp_cond_true (F.ev rfl) ?_
  have hlt1:i<es1.length:=by omega
  obtain ⟨e,he⟩:∃ e,es1[i]? = some e:=⟨_,List.getElem?_eq_getElem hlt1⟩
  have hem:=hes e (List.mem_of_getElem? he)
  have hwr:IntKind.i64.wrap ((i:Int)+1)=((i+1:Nat):Int):=by obtain ⟨_,_,e1,h1,h2⟩:=hga.held.form;cases e1;rw [IntKind.wrap_i64];omega
  obtain ⟨gh,hc0,hah,hhm,hlc,hsz,hcc⟩:=hga.held.at (by omega)
  obtain ⟨b0,b1,b2⟩:=Jgp es1 i e he
  replace b0:=hcc _ _ b0;replace b1:=hcc _ _ b1;replace b2:=hcc _ _ b2
  have lx:=hga.rows i e he
  obtain ⟨l,gv,q,k⟩:=e
  obtain ⟨⟨ag,ng,cg,hge⟩,hq,hk⟩:=hem
  have hge2:gv=.slice ag ng cg:=hge
  subst hge2
  obtain ⟨al,cl,hle,hkc,hcl⟩:=lx.form
  have hle2:l=.slice al k cl:=hle
  subst hle2
  clear hle hge
  have lx:LW 24 4 R (.slice al k cl) k (mks Jcj q k):=lx
  have hq:q≤1000:=hq
  have hk:k≤100000:=hk
  have hkc:k≤cl:=hkc
  refine Kgr ?_
  refine lxv (.pointer (some ⟨gB,0,none⟩)) F (Jb (F.ev rfl)) fun a F=>?_
  refine lxv (.pointer (some ⟨gB,0,none⟩)) F (Ki (F.ev rfl)) fun a F=>?_
  refine lxv (.pointer (some ⟨gB,4,none⟩)) F (Uo (F.ev rfl)) fun a F=>?_
  refine lxv (.slice ah es.length ch) F (Vr (F.ev rfl) ((((HM.get 0 rfl)).cell 4).trans (congrArg some hv))) fun a F=>?_
  refine lxv (.int .i64 (i:Nat)) F (Jb (F.ev rfl)) fun a F=>?_
  refine lxv (.pointer (some ⟨gh,i*3,none⟩)) F (Jbz hlt (by rw [← hah];exact (F.ev rfl)) (F.ev rfl)) fun a F=>?_
  refine lxv (.agg #[.slice al k cl,.slice ag ng cg,.int .i64 (q:Nat)]) F (Jaw (F.ev rfl) (((HM.at_ _ (by repeat (first | exact hhm | apply List.mem_cons_of_mem))).cell _).trans b0) (((HM.at_ _ (by repeat (first | exact hhm | apply List.mem_cons_of_mem))).cell _).trans b1) (((HM.at_ _ (by repeat (first | exact hhm | apply List.mem_cons_of_mem))).cell _).trans b2)) fun a F=>?_
  refine Jn F HM (Ja rfl _) rfl (by rfl) (Jbn) fun a w gx F HM=>?_
  refine Jv F HM (Ja rfl _) rfl (k:=0) rfl (Jav (F.ev rfl) (F.ev rfl) (HM.get 0 rfl) rfl rfl) (M2:=((gx,114,#[.slice al k cl,.slice ag ng cg,.int .i64 (q:Nat)])::(gB,57,(bkc N v))::R)) (rfl) fun w HM=>?_
  refine Jc ?_
  refine Kgr ?_
  refine lxv (.pointer (some ⟨gx,0,none⟩)) F (Ut (F.ev rfl)) fun a F=>?_
  refine lxv (.slice al k cl) F (Kx (F.ev rfl) ((((HM.get 0 rfl)).cell 0).trans rfl)) fun a F=>?_
  refine lxv (.slice al k cl) F (Je (F.ev rfl)) fun a F=>?_
  refine Jc ?_
  refine Kgr ?_
  refine lxv (.int .i64 0) F (Je rfl) fun a F=>?_
  refine Jc ?_
  refine Kgq ?_
  refine wp_loop (fun a w=>∃ (j:Nat) (au:Option Addr) (cu:Nat) (R2:List (Nat × TypeId × Array Value)),j≤40∧LW 24 4 R2 (.slice au (k+j) cu) (k+j) (mks Jcj q (k+j))∧LW 24 4 R2 (.slice al k cl) k (mks Jcj q k)∧(∀ T1 s1 v1 n1 xs1,LW T1 s1 R v1 n1 xs1→(T1≠24∨Dj (.slice al k cl) v1)→LW T1 s1 R2 v1 n1 xs1∧Dj (.slice au (k+j) cu) v1)∧Fr a 42 [(5,.int .i64 (j:Nat)),(4,.slice au (k+j) cu),(3,.pointer (some ⟨gx,0,none⟩)),(2,.int .i64 (i:Nat)),(0,.pointer (some ⟨gB,0,none⟩))] []∧Mem n0 w0 w ((gx,114,#[.slice al k cl,.slice ag ng cg,.int .i64 (q:Nat)])::(gB,57,(bkc N v))::R2)) (fun a _=>40-(intOf (a.tmps.getD 5 undef)).toNat) ⟨0,al,cl,R,Nat.zero_le _,lx,lx,fun _ _ _ _ _ h hd=>⟨h,hd.elim (fun hne=>Jeg HM (fun x hx=>List.mem_cons_of_mem _ (List.mem_cons_of_mem _ hx)) lx h hne) id⟩,F.sub [5,4,3,2,0],HM⟩ ?_
  have FS2:aS.tmps.getD 2 undef=.int .i64 (i:Nat):=FS.get 2 _ rfl
  clear F HM FS
  rintro aT wT ⟨j,au,cu,R2,hj,lu,lk2,hk2,FT,HM⟩
  have F:=FT
  by_cases hlj:j<40
  ·refine Kgr ?_
   refine lxv (.int .i64 (j:Nat)) F (Jb (F.ev rfl)) fun a F=>?_
   refine lxv (.bool true) F (Jz (u:=.int .i64 (j:Nat)) (v:=.int .i64 40) (fun ρ hx hy=>by simp only [execOp,hx,hy];simp [go_sem];omega) (F.ev rfl) rfl) fun a F=>?_
   refine Jc ?_
   refine Kgq ?_
   refine wp_cond_true (F.ev rfl) ?_
   refine Kgr ?_
   refine lxv (.slice au (k+j) cu) F (Jb (F.ev rfl)) fun a F=>?_
   refine lxv (.pointer (some ⟨gx,2,none⟩)) F (Wd (F.ev rfl)) fun a F=>?_
   refine lxv (.int .i64 (q:Nat)) F (Jbe (F.ev rfl) ((((HM.get 0 rfl)).cell 2).trans rfl)) fun a F=>?_
   refine Jj F (Ja rfl _) rfl (by rfl) (Jh Tryz.func129 (by kernel_rfl) (by rfl) (.cons (F.ev rfl) .nil) _) ((markNum_any q hq) _) fun a w z F=>?_
   replace HM:=HM.on z
   clear z
   refine Vv F HM (Ja rfl _) rfl (by rfl) (Vl (F.ev rfl)) fun a w gr F HM=>?_
   obtain ⟨g2,cap2,w2,hrun,R3,HM2,l2,kp2,dj2,nb2⟩:=Jiv (P:=Tryz.prog) (ρ:=a.eval) (s:=.tmp 28) (x:=.tmp 32) (dst:=some 33) (T:=24) (t:=27) (A:=[(gr,24,(Jes q)),(gx,114,#[.slice al k cl,.slice ag ng cg,.int .i64 (q:Nat)]),(gB,57,(bkc N v))]) (ys:=Jcj q) Tryz.underlying27 hi0 hz0 hz1 hz2 rfl (by decide) HM lu (F.ev rfl) (F.ev rfl) rfl (World.news_of_block (HM.get 0 rfl)) (Jgk q) (by decide) (by unfold maxLen;omega) (by omega)
   replace HM:=HM2
   rw [mks_more] at l2
   refine Ux (v:=.slice (some ⟨g2,0,none⟩) (k+j+1) cap2) F (Ja rfl _) rfl (by rfl) hrun fun a F=>?_
   refine lxv (.slice (some ⟨g2,0,none⟩) (k+j+1) cap2) F (Je (F.ev rfl)) fun a F=>?_
   refine Jc ?_
   replace HM:=HM.erase 0 (M2:=((gx,114,#[.slice al k cl,.slice ag ng cg,.int .i64 (q:Nat)])::(gB,57,(bkc N v))::R3)) rfl
   refine Kgr ?_
   refine lxv (.int .i64 (j:Nat)) F (Jb (F.ev rfl)) fun a F=>?_
   refine lxv (.int .i64 ((j+1:Nat):Int)) F (Jah (m:=j) (k:=1) (by omega) (F.ev rfl) rfl) fun a F=>?_
   refine lxv (.int .i64 ((j+1:Nat):Int)) F (Je (F.ev rfl)) fun a F=>?_
   refine Jc ?_
   refine Ku ?_
   refine ⟨⟨j+1,_,_,R3,by omega,l2,kp2 _ _ _ _ _ lk2 (Or.inr ⟨rfl,rfl,Nat.le_add_right _ _⟩),fun T1 s1 v1 n1 xs1 h hd=>⟨kp2 _ _ _ _ _ (hk2 _ _ _ _ _ h hd).1 (Or.inl (hk2 _ _ _ _ _ h hd).2),dj2 _ _ _ _ _ (hk2 _ _ _ _ _ h hd).1 (hk2 _ _ _ _ _ h hd).2⟩,F.sub [5,4,3,2,0],HM⟩,?_⟩
   ·show 40-(intOf (a.tmps.getD 5 undef)).toNat<40-(intOf (aT.tmps.getD 5 undef)).toNat
    rw [F.get 5 _ rfl,FT.get 5 _ rfl]
    show 40-((j+1:Nat):Int).toNat<40-((j:Nat):Int).toNat
    omega
  ·refine Kgr ?_
   refine lxv (.int .i64 (j:Nat)) F (Jb (F.ev rfl)) fun a F=>?_
   refine lxv (.bool false) F (Jz (u:=.int .i64 (j:Nat)) (v:=.int .i64 40) (fun ρ hx hy=>by simp only [execOp,hx,hy];simp [go_sem];omega) (F.ev rfl) rfl) fun a F=>?_
   refine Jc ?_
   refine Kgq ?_
   refine wp_cond_false (F.ev rfl) ?_
   refine Kgq ?_
   refine wp_exit ?_
   repeat (first | refine Kk ?_ | refine Kd ?_)
   obtain rfl:j=40:=by omega
   have held2:=(hk2 _ _ _ _ _ hga.held (Or.inl (by decide))).1
   obtain ⟨gh2,hc2,hah2,hhm2,hlc2,hsz2,hcc2⟩:=held2.at (by omega)
   refine Kgr ?_
   refine lxv (.pointer (some ⟨gB,0,none⟩)) F (Jb (F.ev rfl)) fun a F=>?_
   refine lxv (.pointer (some ⟨gB,0,none⟩)) F (Ki (F.ev rfl)) fun a F=>?_
   refine lxv (.pointer (some ⟨gB,4,none⟩)) F (Uo (F.ev rfl)) fun a F=>?_
   refine lxv (.slice ah es.length ch) F (Vr (F.ev rfl) ((((HM.get 1 rfl)).cell 4).trans (congrArg some hv))) fun a F=>?_
   refine lxv (.int .i64 (i:Nat)) F (Jb (F.ev rfl)) fun a F=>?_
   refine lxv (.slice au (k+40) cu) F (Jb (F.ev rfl)) fun a F=>?_
   refine lxv (.pointer (some ⟨gh2,i*3,none⟩)) F (Jbz hlt (by rw [← hah2];exact (F.ev rfl)) (F.ev rfl)) fun a F=>?_
   refine lxv (.pointer (some ⟨gh2,i*3+1,none⟩)) F (o_fieldHrNum (F.ev rfl)) fun a F=>?_
   obtain ⟨R3,HM3,l3,k3⟩:=putW (A:=[(gx,114,#[.slice al k cl,.slice ag ng cg,.int .i64 (q:Nat)]),(gB,57,(bkc N v))]) (vs:=[.slice au (k+40) cu]) (o:=i*3+1) HM held2 (by rw [hah2]) (by show i*3+1+1≤es1.length*3;omega)
   have HMb:=HM
   rw [enC_set es1 i _ _ he] at l3
   refine lx_storeM HM3 (Ja rfl _) rfl (o_stlNum (F.ev rfl) (F.ev rfl) (HM.at_ _ (by repeat (first | exact hhm2 | apply List.mem_cons_of_mem))) (by rw [hsz2];omega)) fun w HM=>?_
   refine Jc ?_
   replace HM:=HM.erase 0 (M2:=((gB,57,(bkc N v))::R3)) rfl
   refine Kgr ?_
   refine lxv (.int .i64 (i:Nat)) F (Jb (F.ev rfl)) fun a F=>?_
   refine lxv (.int .i64 ((i+1:Nat):Int)) F (Jz (u:=.int .i64 (i:Nat)) (v:=.int .i64 1) (fun ρ hx hy=>by simp only [execOp,hx,hy];simp [go_sem,hwr]) (F.ev rfl) rfl) fun a F=>?_
   refine lxv (.int .i64 ((i+1:Nat):Int)) F (Je (F.ev rfl)) fun a F=>?_
   refine Jc ?_
   have k3h:∀ T1 s1 v1 n1 xs1,T1≠114→LW T1 s1 R2 v1 n1 xs1→LW T1 s1 R3 v1 n1 xs1:=fun T1 s1 v1 n1 xs1 hne h=>k3 _ _ _ _ _ h (Jeg HMb (fun x hx=>List.mem_cons_of_mem _ (List.mem_cons_of_mem _ hx)) held2 h hne)
   have hdl:∀ (b:Nat) (y:En),b≠i→es1[b]? = some y→Dj (.slice al k cl) y.l:=fun b y hb hy=>hdj i b _ y (Ne.symm hb) he hy
   have hgl:∀ (b:Nat) (y:En),b≠i→b<i→es1[b]? = some y→Dj (.slice al k cl) y.g:=fun b y hb hlt2 hy=>((hgd b i y _ hb hlt2 hy he).1).symm
   have hset:∀ (b:Nat) (y:En),(es1.set i ⟨.slice al k cl,.slice au (k+40) cu,q,k⟩)[b]? = some y→(b=i∧y=⟨.slice al k cl,.slice au (k+40) cu,q,k⟩)∨(b≠i∧es1[b]? = some y):=fun b y hy=>by
    by_cases eb:i=b
    ·subst eb;rw [List.getElem?_set_self hlt1] at hy;exact Or.inl ⟨rfl,(Option.some.inj hy).symm⟩
    ·rw [List.getElem?_set_ne eb] at hy;exact Or.inr ⟨Ne.symm eb,hy⟩
   refine Ku ?_
   refine ⟨⟨i+1,es1.set i ⟨.slice al k cl,.slice au (k+40) cu,q,k⟩,R3,by omega,by rw [List.length_set];exact hel,⟨by rw [List.length_set];exact l3,fun b y hy=>?_,fun b y hy hb=>?_⟩,edj_setNum hdj he,gdj_setNum hgd he (fun b y hb hy=>⟨(hk2 _ _ _ _ _ (hga.rows b y hy) (Or.inr (hdl b y hb hy))).2,fun hbi=>(hk2 _ _ _ _ _ (hga.long b y hy hbi) (Or.inr (hgl b y hb hbi hy))).2⟩),fun y hy=>?_,fun T1 s1 v1 n1 xs1 h1 h2 h=>k3h _ _ _ _ _ h2 (hk2 _ _ _ _ _ (hko _ _ _ _ _ h1 h2 h) (Or.inl h1)).1,F.sub [2,0],HM⟩,?_⟩
   ·rcases hset b y hy with ⟨_,rfl⟩ | ⟨hb,hy⟩
    ·exact k3h _ _ _ _ _ (by decide) lk2
    ·exact k3h _ _ _ _ _ (by decide) (hk2 _ _ _ _ _ (hga.rows b y hy) (Or.inr (hdl b y hb hy))).1
   ·rcases hset b y hy with ⟨_,rfl⟩ | ⟨hbn,hy⟩
    ·exact k3h _ _ _ _ _ (by decide) lu
    ·exact k3h _ _ _ _ _ (by decide) (hk2 _ _ _ _ _ (hga.long b y hy (by omega)) (Or.inr (hgl b y hbn (by omega) hy))).1
   ·rcases List.mem_or_eq_of_mem_set hy with hy | rfl
    ·exact hes y hy
    ·exact ⟨⟨_,_,_,rfl⟩,hq,hk⟩
   ·show es.length-(intOf (a.tmps.getD 2 undef)).toNat<es.length-(intOf (aS.tmps.getD 2 undef)).toNat
    rw [F.get 2 _ rfl,FS2]
    show es.length-((i+1:Nat):Int).toNat<es.length-((i:Nat):Int).toNat
    omega
 ·refine Kgr ?_
  refine lxv (.int .i64 (i:Nat)) F (Jb (F.ev rfl)) fun a F=>?_
  refine lxv (.pointer (some ⟨gB,0,none⟩)) F (Jb (F.ev rfl)) fun a F=>?_
  refine lxv (.pointer (some ⟨gB,0,none⟩)) F (Ki (F.ev rfl)) fun a F=>?_
  refine lxv (.pointer (some ⟨gB,4,none⟩)) F (Uo (F.ev rfl)) fun a F=>?_
  refine lxv (.slice ah es.length ch) F (Vr (F.ev rfl) ((((HM.get 0 rfl)).cell 4).trans (congrArg some hv))) fun a F=>?_
  refine lxv (.int .i64 (es.length:Nat)) F (Xb (F.ev rfl)) fun a F=>?_
  refine lxv (.bool false) F (Jz (u:=.int .i64 (i:Nat)) (v:=.int .i64 (es.length:Nat)) (fun ρ hx hy=>by simp only [execOp,hx,hy];simp [go_sem];omega) (F.ev rfl) (F.ev rfl)) fun a F=>?_
  refine Jc ?_
  refine Kgq ?_
  refine wp_cond_false (F.ev rfl) ?_
  refine Kgq ?_
  refine wp_exit ?_
  repeat (first | refine Kk ?_ | refine Kd ?_)
  obtain rfl:i=es.length:=by omega
  refine Kgq ?_
  exact bodyPost_end (Vk rfl) F.defers ⟨rfl,es1,R,HM,hel,by have h:=hga;rw [← hel] at h;exact h,hes,hko⟩

theorem lookNum_any (N gB n0 ch:Nat) (ah:Option Addr) (v:Nat→Value) (es:List En) (R0:List (Nat × TypeId × Array Value)) (w0 w:World) (hv:v 4=.slice ah es.length ch) (hes:(∀ e∈es,(∃ a n c,e.g=.slice a n c)∧e.q≤1000∧e.k≤100000)) (hga:GA 24 4 114 Jcj R0 (.slice ah es.length ch) es es.length) (HM:Mem n0 w0 w ((gB,57,bkc N v)::R0)):Calls Tryz.prog 79 #[.pointer (some ⟨gB,0,none⟩)] w fun e w'=>e=.returned (.bool true)∧Mem n0 w0 w' ((gB,57,bkc N v)::R0):=by
 refine Uf (args:=[.pointer (some ⟨gB,0,none⟩)]) HM Tryz.func79 rfl Tryz.ntmps79 (by rfl) fun a F HM=>?_
 refine Kgr ?_
 refine lxv (.bool false) F (Je rfl) fun a F=>?_
 refine Jc ?_
 refine Kgr ?_
 refine lxv (.int .i64 0) F (Je rfl) fun a F=>?_
 refine Jc ?_
 refine Kgq ?_
 refine wp_loop (fun a w=>∃ (i:Nat),i≤es.length∧Fr a 64 [(3,.int .i64 (i:Nat)),(0,.pointer (some ⟨gB,0,none⟩))] []∧Mem n0 w0 w ((gB,57,bkc N v)::R0)) (fun a _=>es.length-(intOf (a.tmps.getD 3 undef)).toNat) ⟨0,Nat.zero_le _,F.sub [3,0],HM⟩ ?_
 clear F HM
 rintro aS wS ⟨i,hi,FS,HM⟩
 have F:=FS
 by_cases hlt:i<es.length
 ·refine Kgr ?_
  refine lxv (.int .i64 (i:Nat)) F (Jb (F.ev rfl)) fun a F=>?_
  refine lxv (.pointer (some ⟨gB,0,none⟩)) F (Jb (F.ev rfl)) fun a F=>?_
  refine lxv (.pointer (some ⟨gB,0,none⟩)) F (Ki (F.ev rfl)) fun a F=>?_
  refine lxv (.pointer (some ⟨gB,4,none⟩)) F (Uo (F.ev rfl)) fun a F=>?_
  refine lxv (.slice ah es.length ch) F (Vr (F.ev rfl) ((((HM.get 0 rfl)).cell 4).trans (congrArg some hv))) fun a F=>?_
  refine lxv (.int .i64 (es.length:Nat)) F (Xb (F.ev rfl)) fun a F=>?_
  refine lxv (.bool true) F (Jz (u:=.int .i64 (i:Nat)) (v:=.int .i64 (es.length:Nat)) (fun ρ hx hy=>by simp only [execOp,hx,hy];simp [go_sem];omega) (F.ev rfl) (F.ev rfl)) fun a F=>?_
  refine Jc ?_
  refine Kgq ?_
  refine wp_cond_true (F.ev rfl) ?_
  obtain ⟨e,he⟩:∃ e,es[i]? = some e:=⟨_,List.getElem?_eq_getElem hlt⟩
  have hem:=hes e (List.mem_of_getElem? he)
  have hwr:IntKind.i64.wrap ((i:Int)+1)=((i+1:Nat):Int):=by obtain ⟨_,_,e1,h1,h2⟩:=hga.held.form;cases e1;rw [IntKind.wrap_i64];omega
  obtain ⟨gh,hc0,hah,hhm,hlc,hsz,hcc⟩:=hga.held.at (by omega)
  obtain ⟨b0,b1,b2⟩:=Jgp es i e he
  replace b0:=hcc _ _ b0;replace b1:=hcc _ _ b1;replace b2:=hcc _ _ b2
  have lx:=hga.rows i e he
  have lg:=hga.long i e he hlt
  obtain ⟨l,gv,q,k⟩:=e
  obtain ⟨-,hq,hk⟩:=hem
  obtain ⟨al,cl,hle,hkc,hcl⟩:=lx.form
  have hle2:l=.slice al k cl:=hle
  subst hle2
  obtain ⟨ag,cg,hge,hgc,hcg⟩:=lg.form
  have hge2:gv=.slice ag (k+40) cg:=hge
  subst hge2
  clear hle hge
  have lx:LW 24 4 R0 (.slice al k cl) k (mks Jcj q k):=lx
  have lg:LW 24 4 R0 (.slice ag (k+40) cg) (k+40) (mks Jcj q (k+40)):=lg
  have hq:q≤1000:=hq
  have hk:k≤100000:=hk
  obtain ⟨gg,gs,hag,hgm,-,-,hgz⟩:=lg.at (by omega)
  refine Kgr ?_
  refine lxv (.pointer (some ⟨gB,0,none⟩)) F (Jb (F.ev rfl)) fun a F=>?_
  refine lxv (.pointer (some ⟨gB,0,none⟩)) F (Ki (F.ev rfl)) fun a F=>?_
  refine lxv (.pointer (some ⟨gB,4,none⟩)) F (Uo (F.ev rfl)) fun a F=>?_
  refine lxv (.slice ah es.length ch) F (Vr (F.ev rfl) ((((HM.get 0 rfl)).cell 4).trans (congrArg some hv))) fun a F=>?_
  refine lxv (.int .i64 (i:Nat)) F (Jb (F.ev rfl)) fun a F=>?_
  refine lxv (.pointer (some ⟨gh,i*3,none⟩)) F (Jbz hlt (by rw [← hah];exact (F.ev rfl)) (F.ev rfl)) fun a F=>?_
  refine lxv (.agg #[.slice al k cl,.slice ag (k+40) cg,.int .i64 (q:Nat)]) F (Jaw (F.ev rfl) (((HM.at_ _ (by repeat (first | exact hhm | apply List.mem_cons_of_mem))).cell _).trans b0) (((HM.at_ _ (by repeat (first | exact hhm | apply List.mem_cons_of_mem))).cell _).trans b1) (((HM.at_ _ (by repeat (first | exact hhm | apply List.mem_cons_of_mem))).cell _).trans b2)) fun a F=>?_
  refine Jn F HM (Ja rfl _) rfl (by rfl) (Jbn) fun a w gx F HM=>?_
  refine Jv F HM (Ja rfl _) rfl (k:=0) rfl (Jav (F.ev rfl) (F.ev rfl) (HM.get 0 rfl) rfl rfl) (M2:=((gx,114,#[.slice al k cl,.slice ag (k+40) cg,.int .i64 (q:Nat)])::(gB,57,(bkc N v))::R0)) (rfl) fun w HM=>?_
  refine Jc ?_
  refine Kgr ?_
  refine lxv (.pointer (some ⟨gx,1,none⟩)) F (We (F.ev rfl)) fun a F=>?_
  refine lxv (.slice ag (k+40) cg) F (Kx (F.ev rfl) ((((HM.get 0 rfl)).cell 1).trans rfl)) fun a F=>?_
  refine lxv (.int .i64 ((k+40):Nat)) F (Ko (F.ev rfl)) fun a F=>?_
  refine lxv (.pointer (some ⟨gx,0,none⟩)) F (Ut (F.ev rfl)) fun a F=>?_
  refine lxv (.slice al k cl) F (Kx (F.ev rfl) ((((HM.get 0 rfl)).cell 0).trans rfl)) fun a F=>?_
  refine lxv (.int .i64 (k:Nat)) F (Ko (F.ev rfl)) fun a F=>?_
  refine lxv (.int .i64 ((k+40:Nat):Int)) F (Jah (m:=k) (k:=40) (by omega) (F.ev rfl) rfl) fun a F=>?_
  refine lxv (.bool false) F (Vn (b:=true) (decide_eq_true rfl) (F.ev rfl) (F.ev rfl) rfl) fun a F=>?_
  refine Jc ?_
  refine Kgq ?_
  refine wp_cond_false (F.ev rfl) ?_
  refine Kgr ?_
  refine lxv (.int .i64 0) F (Je rfl) fun a F=>?_
  refine Jc ?_
  refine Kgq ?_
  refine wp_loop (fun a w=>∃ (j:Nat),j≤k+40∧Fr a 64 [(5,.int .i64 (j:Nat)),(4,.pointer (some ⟨gx,0,none⟩)),(3,.int .i64 (i:Nat)),(0,.pointer (some ⟨gB,0,none⟩))] []∧Mem n0 w0 w ((gx,114,#[.slice al k cl,.slice ag (k+40) cg,.int .i64 (q:Nat)])::(gB,57,(bkc N v))::R0)) (fun a _=>k+40-(intOf (a.tmps.getD 5 undef)).toNat) ⟨0,Nat.zero_le _,F.sub [5,4,3,0],HM⟩ ?_
  have FS2:aS.tmps.getD 3 undef=.int .i64 (i:Nat):=FS.get 3 _ rfl
  clear F HM FS
  rintro aT wT ⟨j,hj,FT,HM⟩
  have F:=FT
  by_cases hlj:j<k+40
  ·refine Kgr ?_
   refine lxv (.int .i64 (j:Nat)) F (Jb (F.ev rfl)) fun a F=>?_
   refine lxv (.pointer (some ⟨gx,1,none⟩)) F (We (F.ev rfl)) fun a F=>?_
   refine lxv (.slice ag (k+40) cg) F (Kx (F.ev rfl) ((((HM.get 0 rfl)).cell 1).trans rfl)) fun a F=>?_
   refine lxv (.int .i64 ((k+40):Nat)) F (Ko (F.ev rfl)) fun a F=>?_
   refine lxv (.bool true) F (Jz (u:=.int .i64 (j:Nat)) (v:=.int .i64 ((k+40:Nat):Int)) (fun ρ hx hy=>by simp only [execOp,hx,hy];simp [go_sem];omega) (F.ev rfl) (F.ev rfl)) fun a F=>?_
   refine Jc ?_
   refine Kgq ?_
   refine wp_cond_true (F.ev rfl) ?_
   by_cases hjk:j<k
   ·obtain ⟨gl,ls,hal,hlm,-,-,hlz⟩:=lx.at (by omega)
    refine Kgq ?_
    refine Kg (S:=fun w'=>Mem _ _ w' ((gx,114,#[.slice al k cl,.slice ag (k+40) cg,.int .i64 (q:Nat)])::(gB,57,(bkc N v))::R0)) HM (fun _ h=>h) (by kernel_rfl) fun w HM HBW=>?_
    clear HBW
    try simp only [List.append_eq,List.cons_append,List.nil_append]
    refine Kt [⟨0,37,[],.val (.pointer (some ⟨gx,1,none⟩)),true⟩,
   ⟨1,38,[0],.val (.slice ag (k+40) cg),true⟩,
   ⟨2,39,[1],.val (.int .i64 (j:Nat)),true⟩,
   ⟨3,40,[1,2],.val (.pointer (some ⟨gg,0+j*4,none⟩)),true⟩,
   ⟨4,41,[3],.val (num q),true⟩,
   ⟨5,42,[4],.val (.pointer (some ⟨gx,2,none⟩)),true⟩,
   ⟨6,43,[5],.val (.int .i64 (q:Nat)),true⟩,
   ⟨7,44,[4,6],.val (.bool true),false⟩,
   ⟨8,45,[7],.val (.bool false),true⟩,
   ⟨9,46,[8],.val (.bool false),true⟩,
   ⟨10,47,[9],.val (.int .i64 (j:Nat)),true⟩,
   ⟨11,48,[9,10],.val (.pointer (some ⟨gx,0,none⟩)),true⟩,
   ⟨12,49,[9,11],.val (.slice al k cl),true⟩,
   ⟨13,50,[9,12],.val (.int .i64 (k:Nat)),true⟩,
   ⟨14,51,[9,10,13],.val (.bool true),true⟩,
   ⟨15,52,[9,14],.val (.bool true),true⟩,
   ⟨16,53,[15],.val (.pointer (some ⟨gx,0,none⟩)),true⟩,
   ⟨17,54,[15,16],.val (.slice al k cl),true⟩,
   ⟨18,55,[15,17],.val (.int .i64 (j:Nat)),true⟩,
   ⟨19,56,[15,17,18],.val (.pointer (some ⟨gl,0+j*4,none⟩)),true⟩,
   ⟨20,57,[15,19],.val (num q),true⟩,
   ⟨21,58,[15,20],.val (.pointer (some ⟨gx,2,none⟩)),true⟩,
   ⟨22,59,[15,21],.val (.int .i64 (q:Nat)),true⟩,
   ⟨23,60,[15,20,22],.val (.bool true),false⟩,
   ⟨24,61,[15,23],.val (.bool false),true⟩,
   ⟨25,62,[9,15,24],.val (.bool false),true⟩,
   ⟨26,63,[9,25],.val (.bool false),true⟩] 0 _ F HM (fun _ h=>h.subl (by first | exact List.Sublist.refl _ | (repeat (first | exact List.Sublist.refl _ | refine List.Sublist.cons_cons _ ?_ | refine List.Sublist.cons _ ?_)))) (by kernel_rfl) (by rfl) ?_ ?_ ?_ ?_ ?_ ?_ ?_
    ·kernel_rfl
    ·exact of_decide_eq_true (by kernel_rfl)
    ·(repeat refine all_cons ⟨_,by rfl,by rfl⟩ ?_);exact all_nil
    ·kernel_rfl
    ·(repeat (refine all_cons ?_ ?_;rotate_left));exact all_nil
     ·exact Wt _ _ _ _ _ _ _ (by rfl) (by rfl) Jg (fun ρ w kn hs=>We (kn _ _ (F.old (by rfl) rfl)))
     ·exact crS (fun ρ w kn hs=>Kx (kn _ _ (kc 0 37)) ((((hs.get 0 rfl)).cell 1).trans rfl))
     ·exact Wt _ _ _ _ _ _ _ (by rfl) (by rfl) Jg (fun ρ w kn hs=>Jb (kn _ _ (F.old (by rfl) rfl)))
     ·exact crS (fun ρ w kn hs=>Kv hlj (by rw [← hag];exact (kn _ _ (kc 1 38))) (kn _ _ (kc 2 39)))
     ·exact crS (fun ρ w kn hs=>Kh (kn _ _ (kc 3 40)) (Jdh ((hs.at_ (gg,24,gs) (by repeat (first | exact hgm | apply List.mem_cons_of_mem)))) hgz hlj))
     ·exact Wt _ _ _ _ _ _ _ (by rfl) (by rfl) Jg (fun ρ w kn hs=>Wd (kn _ _ (F.old (by rfl) rfl)))
     ·exact crS (fun ρ w kn hs=>Jbe (kn _ _ (kc 5 42)) ((((hs.get 0 rfl)).cell 2).trans rfl))
     ·exact Jm _ (by rfl)
     ·exact crS (fun ρ w kn hs=>Uh (b:=true) (r:=false) (kn _ _ (kc 7 44)) rfl)
     ·exact crS (fun ρ w kn hs=>Jb (kn _ _ (kc 8 45)))
     ·exact Wt _ _ _ _ _ _ _ (by rfl) (by rfl) (wc 9 46 9 (kc 9 46)) (fun ρ w kn hs=>Jb (kn _ _ (F.old (by rfl) rfl)))
     ·exact Wt _ _ _ _ _ _ _ (by rfl) (by rfl) (wc 9 46 9 (kc 9 46)) (fun ρ w kn hs=>Ut (kn _ _ (F.old (by rfl) rfl)))
     ·exact Wt _ _ _ _ _ _ _ (by rfl) (by rfl) (wc 9 46 9 (kc 9 46)) (fun ρ w kn hs=>Kx (kn _ _ (kc 11 48)) ((((hs.get 0 rfl)).cell 0).trans rfl))
     ·exact Wt _ _ _ _ _ _ _ (by rfl) (by rfl) (wc 9 46 9 (kc 9 46)) (fun ρ w kn hs=>Ko (kn _ _ (kc 12 49)))
     ·exact Wt _ _ _ _ _ _ _ (by rfl) (by rfl) (wc 9 46 9 (kc 9 46)) (fun ρ w kn hs=>Jz (u:=.int .i64 (j:Nat)) (v:=.int .i64 (k:Nat)) (fun ρ hx hy=>by simp only [execOp,hx,hy];simp [go_sem];omega) (kn _ _ (kc 10 47)) (kn _ _ (kc 13 50)))
     ·exact Wt _ _ _ _ _ _ _ (by rfl) (by rfl) (wc 9 46 9 (kc 9 46)) (fun ρ w kn hs=>Jb (kn _ _ (kc 14 51)))
     ·exact Wt _ _ _ _ _ _ _ (by rfl) (by rfl) (wc 15 52 15 (kc 15 52)) (fun ρ w kn hs=>Ut (kn _ _ (F.old (by rfl) rfl)))
     ·exact Wt _ _ _ _ _ _ _ (by rfl) (by rfl) (wc 15 52 15 (kc 15 52)) (fun ρ w kn hs=>Kx (kn _ _ (kc 16 53)) ((((hs.get 0 rfl)).cell 0).trans rfl))
     ·exact Wt _ _ _ _ _ _ _ (by rfl) (by rfl) (wc 15 52 15 (kc 15 52)) (fun ρ w kn hs=>Jb (kn _ _ (F.old (by rfl) rfl)))
     ·exact Wt _ _ _ _ _ _ _ (by rfl) (by rfl) (wc 15 52 15 (kc 15 52)) (fun ρ w kn hs=>Kv hjk (by rw [← hal];exact (kn _ _ (kc 17 54))) (kn _ _ (kc 18 55)))
     ·exact Wt _ _ _ _ _ _ _ (by rfl) (by rfl) (wc 15 52 15 (kc 15 52)) (fun ρ w kn hs=>Kh (kn _ _ (kc 19 56)) (Jdh ((hs.at_ (gl,24,ls) (by repeat (first | exact hlm | apply List.mem_cons_of_mem)))) hlz hjk))
     ·exact Wt _ _ _ _ _ _ _ (by rfl) (by rfl) (wc 15 52 15 (kc 15 52)) (fun ρ w kn hs=>Wd (kn _ _ (F.old (by rfl) rfl)))
     ·exact Wt _ _ _ _ _ _ _ (by rfl) (by rfl) (wc 15 52 15 (kc 15 52)) (fun ρ w kn hs=>Jbe (kn _ _ (kc 21 58)) ((((hs.get 0 rfl)).cell 2).trans rfl))
     ·exact Jm _ (by rfl)
     ·exact Wt _ _ _ _ _ _ _ (by rfl) (by rfl) (wc 15 52 15 (kc 15 52)) (fun ρ w kn hs=>Uh (b:=true) (r:=false) (kn _ _ (kc 23 60)) rfl)
     ·exact Wt _ _ _ _ _ _ _ (by rfl) (by rfl) (wc 9 46 9 (kc 9 46)) (fun ρ w kn hs=>Kc (b:=true) (r:=.bool false) (kn _ _ (kc 15 52)) (kn _ _ (kc 24 61)) (kn _ _ (Ji _)) rfl)
     ·exact crS (fun ρ w kn hs=>Kc (b:=false) (r:=.bool false) (kn _ _ (kc 9 46)) (kn _ _ (Ji _)) (kn _ _ (kc 25 62)) rfl)
    ·(repeat (refine all_cons ?_ ?_;rotate_left));exact all_nil
     all_goals try exact sA
     ·exact fun _=>Jl _ 146 _ _ [.tmp 41,.tmp 43] _ _ _ _ _ _ _ (by rfl) Tryz.func146 (by kernel_rfl) (by rfl) (by rfl) (Jg) (.cons (kc 4 41) (.cons (kc 6 43) .nil)) ((Jfi q hq))
     ·exact fun _=>Jl _ 146 _ _ [.tmp 57,.tmp 59] _ _ _ _ _ _ _ (by rfl) Tryz.func146 (by kernel_rfl) (by rfl) (by rfl) (wc 15 52 15 (kc 15 52)) (.cons (kc 20 57) (.cons (kc 22 59) .nil)) ((Jfi q hq))
    intro gs rs a w hgs hrs F HM HBW HR HO HT
    obtain rfl:=nl0 rs hrs
    obtain rfl:=nl0 gs hgs
    clear hrs hgs HR HBW HO
    clear HT
    refine Ks (by kernel_rfl) ?_ _
    refine Kgq ?_
    refine wp_cond_false (F.ev rfl) ?_
    refine Kgr ?_
    refine lxv (.int .i64 (j:Nat)) F (Jb (F.ev rfl)) fun a F=>?_
    refine lxv (.int .i64 ((j+1:Nat):Int)) F (Jah (m:=j) (k:=1) (by omega) (F.ev rfl) rfl) fun a F=>?_
    refine lxv (.int .i64 ((j+1:Nat):Int)) F (Je (F.ev rfl)) fun a F=>?_
    refine Jc ?_
    refine Ku ?_
    refine ⟨⟨j+1,by omega,F.sub [5,4,3,0],HM⟩,?_⟩
    show k+40-(intOf (a.tmps.getD 5 undef)).toNat<k+40-(intOf (aT.tmps.getD 5 undef)).toNat
    rw [F.get 5 _ rfl,FT.get 5 _ rfl]
    show k+40-((j+1:Nat):Int).toNat<k+40-((j:Nat):Int).toNat
    omega
   ·refine Kgq ?_
    refine Kg (S:=fun w'=>Mem _ _ w' ((gx,114,#[.slice al k cl,.slice ag (k+40) cg,.int .i64 (q:Nat)])::(gB,57,(bkc N v))::R0)) HM (fun _ h=>h) (by kernel_rfl) fun w HM HBW=>?_
    clear HBW
    try simp only [List.append_eq,List.cons_append,List.nil_append]
    refine Kt [⟨0,37,[],.val (.pointer (some ⟨gx,1,none⟩)),true⟩,
   ⟨1,38,[0],.val (.slice ag (k+40) cg),true⟩,
   ⟨2,39,[1],.val (.int .i64 (j:Nat)),true⟩,
   ⟨3,40,[1,2],.val (.pointer (some ⟨gg,0+j*4,none⟩)),true⟩,
   ⟨4,41,[3],.val (num q),true⟩,
   ⟨5,42,[4],.val (.pointer (some ⟨gx,2,none⟩)),true⟩,
   ⟨6,43,[5],.val (.int .i64 (q:Nat)),true⟩,
   ⟨7,44,[4,6],.val (.bool true),false⟩,
   ⟨8,45,[7],.val (.bool false),true⟩,
   ⟨9,46,[8],.val (.bool false),true⟩,
   ⟨10,47,[9],.val (.int .i64 (j:Nat)),true⟩,
   ⟨11,48,[9,10],.val (.pointer (some ⟨gx,0,none⟩)),true⟩,
   ⟨12,49,[9,11],.val (.slice al k cl),true⟩,
   ⟨13,50,[9,12],.val (.int .i64 (k:Nat)),true⟩,
   ⟨14,51,[9,10,13],.val (.bool false),true⟩,
   ⟨15,52,[9,14],.val (.bool false),true⟩,
   ⟨16,53,[15],.val undef,true⟩,
   ⟨17,54,[15,16],.val undef,true⟩,
   ⟨18,55,[15,17],.val undef,true⟩,
   ⟨19,56,[15,17,18],.val undef,true⟩,
   ⟨20,57,[15,19],.val undef,true⟩,
   ⟨21,58,[15,20],.val undef,true⟩,
   ⟨22,59,[15,21],.val undef,true⟩,
   ⟨23,60,[15,20,22],.val undef,true⟩,
   ⟨24,61,[15,23],.val undef,true⟩,
   ⟨25,62,[9,15,24],.val (.bool false),true⟩,
   ⟨26,63,[9,25],.val (.bool false),true⟩] 0 _ F HM (fun _ h=>h.subl (by first | exact List.Sublist.refl _ | (repeat (first | exact List.Sublist.refl _ | refine List.Sublist.cons_cons _ ?_ | refine List.Sublist.cons _ ?_)))) (by kernel_rfl) (by rfl) ?_ ?_ ?_ ?_ ?_ ?_ ?_
    ·kernel_rfl
    ·exact of_decide_eq_true (by kernel_rfl)
    ·(repeat refine all_cons ⟨_,by rfl,by rfl⟩ ?_);exact all_nil
    ·kernel_rfl
    ·(repeat (refine all_cons ?_ ?_;rotate_left));exact all_nil
     ·exact Wt _ _ _ _ _ _ _ (by rfl) (by rfl) Jg (fun ρ w kn hs=>We (kn _ _ (F.old (by rfl) rfl)))
     ·exact crS (fun ρ w kn hs=>Kx (kn _ _ (kc 0 37)) ((((hs.get 0 rfl)).cell 1).trans rfl))
     ·exact Wt _ _ _ _ _ _ _ (by rfl) (by rfl) Jg (fun ρ w kn hs=>Jb (kn _ _ (F.old (by rfl) rfl)))
     ·exact crS (fun ρ w kn hs=>Kv hlj (by rw [← hag];exact (kn _ _ (kc 1 38))) (kn _ _ (kc 2 39)))
     ·exact crS (fun ρ w kn hs=>Kh (kn _ _ (kc 3 40)) (Jdh ((hs.at_ (gg,24,gs) (by repeat (first | exact hgm | apply List.mem_cons_of_mem)))) hgz hlj))
     ·exact Wt _ _ _ _ _ _ _ (by rfl) (by rfl) Jg (fun ρ w kn hs=>Wd (kn _ _ (F.old (by rfl) rfl)))
     ·exact crS (fun ρ w kn hs=>Jbe (kn _ _ (kc 5 42)) ((((hs.get 0 rfl)).cell 2).trans rfl))
     ·exact Jm _ (by rfl)
     ·exact crS (fun ρ w kn hs=>Uh (b:=true) (r:=false) (kn _ _ (kc 7 44)) rfl)
     ·exact crS (fun ρ w kn hs=>Jb (kn _ _ (kc 8 45)))
     ·exact Wt _ _ _ _ _ _ _ (by rfl) (by rfl) (wc 9 46 9 (kc 9 46)) (fun ρ w kn hs=>Jb (kn _ _ (F.old (by rfl) rfl)))
     ·exact Wt _ _ _ _ _ _ _ (by rfl) (by rfl) (wc 9 46 9 (kc 9 46)) (fun ρ w kn hs=>Ut (kn _ _ (F.old (by rfl) rfl)))
     ·exact Wt _ _ _ _ _ _ _ (by rfl) (by rfl) (wc 9 46 9 (kc 9 46)) (fun ρ w kn hs=>Kx (kn _ _ (kc 11 48)) ((((hs.get 0 rfl)).cell 0).trans rfl))
     ·exact Wt _ _ _ _ _ _ _ (by rfl) (by rfl) (wc 9 46 9 (kc 9 46)) (fun ρ w kn hs=>Ko (kn _ _ (kc 12 49)))
     ·exact Wt _ _ _ _ _ _ _ (by rfl) (by rfl) (wc 9 46 9 (kc 9 46)) (fun ρ w kn hs=>Jz (u:=.int .i64 (j:Nat)) (v:=.int .i64 (k:Nat)) (fun ρ hx hy=>by simp only [execOp,hx,hy];simp [go_sem];omega) (kn _ _ (kc 10 47)) (kn _ _ (kc 13 50)))
     ·exact Wt _ _ _ _ _ _ _ (by rfl) (by rfl) (wc 9 46 9 (kc 9 46)) (fun ρ w kn hs=>Jb (kn _ _ (kc 14 51)))
     ·exact Kb _ _ _ _ _ _ (by rfl) (by rfl) (wc 15 52 15 (kc 15 52))
     ·exact Kb _ _ _ _ _ _ (by rfl) (by rfl) (wc 15 52 15 (kc 15 52))
     ·exact Kb _ _ _ _ _ _ (by rfl) (by rfl) (wc 15 52 15 (kc 15 52))
     ·exact Kb _ _ _ _ _ _ (by rfl) (by rfl) (wc 15 52 15 (kc 15 52))
     ·exact Kb _ _ _ _ _ _ (by rfl) (by rfl) (wc 15 52 15 (kc 15 52))
     ·exact Kb _ _ _ _ _ _ (by rfl) (by rfl) (wc 15 52 15 (kc 15 52))
     ·exact Kb _ _ _ _ _ _ (by rfl) (by rfl) (wc 15 52 15 (kc 15 52))
     ·exact Kb _ _ _ _ _ _ (by rfl) (by rfl) (wc 15 52 15 (kc 15 52))
     ·exact Kb _ _ _ _ _ _ (by rfl) (by rfl) (wc 15 52 15 (kc 15 52))
     ·exact Wt _ _ _ _ _ _ _ (by rfl) (by rfl) (wc 9 46 9 (kc 9 46)) (fun ρ w kn hs=>Kc (b:=false) (r:=.bool false) (kn _ _ (kc 15 52)) (kn _ _ (kc 24 61)) (kn _ _ (Ji _)) rfl)
     ·exact crS (fun ρ w kn hs=>Kc (b:=false) (r:=.bool false) (kn _ _ (kc 9 46)) (kn _ _ (Ji _)) (kn _ _ (kc 25 62)) rfl)
    ·(repeat (refine all_cons ?_ ?_;rotate_left));exact all_nil
     all_goals try exact sA
     ·exact fun _=>Jl _ 146 _ _ [.tmp 41,.tmp 43] _ _ _ _ _ _ _ (by rfl) Tryz.func146 (by kernel_rfl) (by rfl) (by rfl) (Jg) (.cons (kc 4 41) (.cons (kc 6 43) .nil)) ((Jfi q hq))
    intro gs rs a w hgs hrs F HM HBW HR HO HT
    obtain rfl:=nl0 rs hrs
    obtain rfl:=nl0 gs hgs
    clear hrs hgs HR HBW HO
    clear HT
    refine Ks (by kernel_rfl) ?_ _
    refine Kgq ?_
    refine wp_cond_false (F.ev rfl) ?_
    refine Kgr ?_
    refine lxv (.int .i64 (j:Nat)) F (Jb (F.ev rfl)) fun a F=>?_
    refine lxv (.int .i64 ((j+1:Nat):Int)) F (Jah (m:=j) (k:=1) (by omega) (F.ev rfl) rfl) fun a F=>?_
    refine lxv (.int .i64 ((j+1:Nat):Int)) F (Je (F.ev rfl)) fun a F=>?_
    refine Jc ?_
    refine Ku ?_
    refine ⟨⟨j+1,by omega,F.sub [5,4,3,0],HM⟩,?_⟩
    show k+40-(intOf (a.tmps.getD 5 undef)).toNat<k+40-(intOf (aT.tmps.getD 5 undef)).toNat
    rw [F.get 5 _ rfl,FT.get 5 _ rfl]
    show k+40-((j+1:Nat):Int).toNat<k+40-((j:Nat):Int).toNat
    omega
  ·refine Kgr ?_
   refine lxv (.int .i64 (j:Nat)) F (Jb (F.ev rfl)) fun a F=>?_
   refine lxv (.pointer (some ⟨gx,1,none⟩)) F (We (F.ev rfl)) fun a F=>?_
   refine lxv (.slice ag (k+40) cg) F (Kx (F.ev rfl) ((((HM.get 0 rfl)).cell 1).trans rfl)) fun a F=>?_
   refine lxv (.int .i64 ((k+40):Nat)) F (Ko (F.ev rfl)) fun a F=>?_
   refine lxv (.bool false) F (Jz (u:=.int .i64 (j:Nat)) (v:=.int .i64 ((k+40:Nat):Int)) (fun ρ hx hy=>by simp only [execOp,hx,hy];simp [go_sem];omega) (F.ev rfl) (F.ev rfl)) fun a F=>?_
   refine Jc ?_
   refine Kgq ?_
   refine wp_cond_false (F.ev rfl) ?_
   refine Kgq ?_
   refine wp_exit ?_
   repeat (first | refine Kk ?_ | refine Kd ?_)
   replace HM:=HM.erase 0 (M2:=((gB,57,(bkc N v))::R0)) rfl
   refine Kgr ?_
   refine lxv (.int .i64 (i:Nat)) F (Jb (F.ev rfl)) fun a F=>?_
   refine lxv (.int .i64 ((i+1:Nat):Int)) F (Jz (u:=.int .i64 (i:Nat)) (v:=.int .i64 1) (fun ρ hx hy=>by simp only [execOp,hx,hy];simp [go_sem,hwr]) (F.ev rfl) rfl) fun a F=>?_
   refine lxv (.int .i64 ((i+1:Nat):Int)) F (Je (F.ev rfl)) fun a F=>?_
   refine Jc ?_
   refine Ku ?_
   refine ⟨⟨i+1,by omega,F.sub [3,0],HM⟩,?_⟩
   show es.length-(intOf (a.tmps.getD 3 undef)).toNat<es.length-(intOf (aS.tmps.getD 3 undef)).toNat
   rw [F.get 3 _ rfl,FS2]
   show es.length-((i+1:Nat):Int).toNat<es.length-((i:Nat):Int).toNat
   omega
 ·refine Kgr ?_
  refine lxv (.int .i64 (i:Nat)) F (Jb (F.ev rfl)) fun a F=>?_
  refine lxv (.pointer (some ⟨gB,0,none⟩)) F (Jb (F.ev rfl)) fun a F=>?_
  refine lxv (.pointer (some ⟨gB,0,none⟩)) F (Ki (F.ev rfl)) fun a F=>?_
  refine lxv (.pointer (some ⟨gB,4,none⟩)) F (Uo (F.ev rfl)) fun a F=>?_
  refine lxv (.slice ah es.length ch) F (Vr (F.ev rfl) ((((HM.get 0 rfl)).cell 4).trans (congrArg some hv))) fun a F=>?_
  refine lxv (.int .i64 (es.length:Nat)) F (Xb (F.ev rfl)) fun a F=>?_
  refine lxv (.bool false) F (Jz (u:=.int .i64 (i:Nat)) (v:=.int .i64 (es.length:Nat)) (fun ρ hx hy=>by simp only [execOp,hx,hy];simp [go_sem];omega) (F.ev rfl) (F.ev rfl)) fun a F=>?_
  refine Jc ?_
  refine Kgq ?_
  refine wp_cond_false (F.ev rfl) ?_
  refine Kgq ?_
  refine wp_exit ?_
  repeat (first | refine Kk ?_ | refine Kd ?_)
  refine Kgr ?_
  refine lxv (.bool true) F (Je rfl) fun a F=>?_
  refine Jc ?_
  refine Kgq ?_
  refine wp_ret ?_
  repeat (first | refine Jt ?_ | refine Jo ?_)
  exact bodyPost_ret (Ua F rfl (s:=2) rfl) F.defers ⟨rfl,HM⟩

theorem keepNum_any (N gB n0 ch k cl:Nat) (ah al:Option Addr) (v:Nat→Value) (es:List En) (R0:List (Nat × TypeId × Array Value)) (w0 w:World) (hv:v 4=.slice ah es.length ch) (hN:N≤900) (hL:es.length≤900) (held:LW 114 3 R0 (.slice ah es.length ch) es.length (enC es)) (HM:Mem n0 w0 w ((gB,57,bkc N v)::R0)):Calls Tryz.prog 40 #[.pointer (some ⟨gB,0,none⟩),.slice al k cl] w fun e w'=>e=.returned (.tuple #[])∧∃ R' a' c',Mem n0 w0 w' ((gB,57,bkc (N+1) (Jft v 4 (.slice a' (es.length+1) c')))::R')∧LW 114 3 R' (.slice a' (es.length+1) c') (es++[(⟨.slice al k cl,.slice none 0 0,N+1,k⟩:En)]).length (enC (es++[(⟨.slice al k cl,.slice none 0 0,N+1,k⟩:En)]))∧KO 114 R0 R':=by
 refine Uf (args:=[.pointer (some ⟨gB,0,none⟩),.slice al k cl]) HM Tryz.func40 rfl Tryz.ntmps40 (by rfl) fun a F HM=>?_
 obtain ⟨i0,hi0,hz0,hz1,hz2⟩:=info_parts Tryz.infoHNum
 refine Kgr ?_
 refine lxv (.pointer (some ⟨gB,0,none⟩)) F (Jb (F.ev rfl)) fun a F=>?_
 refine lxv (.pointer (some ⟨gB,0,none⟩)) F (Ki (F.ev rfl)) fun a F=>?_
 refine lxv (.pointer (some ⟨gB,0,none⟩)) F (Jdf (F.ev rfl)) fun a F=>?_
 refine lxv (.int .i64 (N:Nat)) F (Jbe (F.ev rfl) ((((HM.get 0 rfl)).cell 0).trans rfl)) fun a F=>?_
 refine lxv (.int .i64 ((N+1:Nat):Int)) F (Jah (m:=N) (k:=1) (by omega) (F.ev rfl) rfl) fun a F=>?_
 refine lxv (.pointer (some ⟨gB,0,none⟩)) F (Ki (F.ev rfl)) fun a F=>?_
 refine lxv (.pointer (some ⟨gB,0,none⟩)) F (Jdf (F.ev rfl)) fun a F=>?_
 refine Jv F HM (Ja rfl _) rfl (k:=0) rfl (o_stInt (F.ev rfl) (F.ev rfl) (HM.get 0 rfl) (by rw [bkc_size];decide)) (M2:=((gB,57,(bkc (N+1) v))::R0)) (by rw [bk_set0];rfl) fun w HM=>?_
 refine Jc ?_
 refine Kgq ?_
 refine Kg (S:=fun _=>True) HM (fun _ h=>trivial) (by kernel_rfl) fun w HM HBW=>?_
 clear HBW
 try simp only [List.append_eq,List.cons_append,List.nil_append]
 refine Kt [⟨0,11,[],.val (.pointer (some ⟨gB,0,none⟩)),true⟩,
   ⟨1,12,[],.val (.pointer (some ⟨gB,0,none⟩)),true⟩,
   ⟨2,13,[1],.val (.pointer (some ⟨gB,0,none⟩)),true⟩,
   ⟨3,14,[2],.val (.pointer (some ⟨gB,4,none⟩)),true⟩,
   ⟨4,15,[3],.val (.slice ah es.length ch),false⟩,
   ⟨5,16,[],.val (.slice al k cl),true⟩,
   ⟨6,17,[],.val (.pointer (some ⟨gB,0,none⟩)),true⟩,
   ⟨7,18,[6],.val (.pointer (some ⟨gB,0,none⟩)),true⟩,
   ⟨8,19,[7],.val (.pointer (some ⟨gB,0,none⟩)),true⟩,
   ⟨9,20,[8],.val (.int .i64 ((N+1):Nat)),false⟩,
   ⟨10,21,[5,9],.val (.agg #[.slice al k cl,.slice none 0 0,.int .i64 ((N+1):Nat)]),true⟩,
   ⟨11,22,[10],.row 114 (#[.slice al k cl,.slice none 0 0,.int .i64 ((N+1):Nat)]) 1,false⟩] 4 _ F HM (fun _ _=>trivial) (by kernel_rfl) (by rfl) ?_ ?_ ?_ ?_ ?_ ?_ ?_
 ·kernel_rfl
 ·exact of_decide_eq_true (by kernel_rfl)
 ·(repeat refine all_cons ⟨_,by rfl,by rfl⟩ ?_);exact all_nil
 ·kernel_rfl
 ·(repeat (refine all_cons ?_ ?_;rotate_left));exact all_nil
  all_goals try exact Jm _ (by rfl)
  ·exact Wt _ _ _ _ _ _ _ (by rfl) (by rfl) Jg (fun ρ w kn hs=>Jb (kn _ _ (F.old (by rfl) rfl)))
  ·exact Wt _ _ _ _ _ _ _ (by rfl) (by rfl) Jg (fun ρ w kn hs=>Jb (kn _ _ (F.old (by rfl) rfl)))
  ·exact crS (fun ρ w kn hs=>Ki (kn _ _ (kc 1 12)))
  ·exact crS (fun ρ w kn hs=>Uo (kn _ _ (kc 2 13)))
  ·exact Wt _ _ _ _ _ _ _ (by rfl) (by rfl) Jg (fun ρ w kn hs=>Jb (kn _ _ (F.old (by rfl) rfl)))
  ·exact Wt _ _ _ _ _ _ _ (by rfl) (by rfl) Jg (fun ρ w kn hs=>Jb (kn _ _ (F.old (by rfl) rfl)))
  ·exact crS (fun ρ w kn hs=>Ki (kn _ _ (kc 6 17)))
  ·exact crS (fun ρ w kn hs=>Jdf (kn _ _ (kc 7 18)))
  ·exact crS (fun ρ w kn hs=>o_buildHNum (kn _ _ (kc 5 16)) (kn _ _ (kc 9 20)))
 ·(repeat (refine all_cons ?_ ?_;rotate_left));exact all_nil
  all_goals try exact sA
  ·exact fun _=>Um _ _ _ _ _ _ (by rfl) (by rfl) (fun ρ w kn hb=>Vr (kn _ _ (kc 3 14)) (((((HM.on hb).get 0 rfl)).cell 4).trans (congrArg some hv)))
  ·exact fun _=>Um _ _ _ _ _ _ (by rfl) (by rfl) (fun ρ w kn hb=>Jbe (kn _ _ (kc 8 19)) (((((HM.on hb).get 0 rfl)).cell 0).trans rfl))
  ·exact fun _=>core_row _ _ _ _ _ _ _ _ (by rfl) (by rfl) (fun ρ w kn=>o_sliceHNum (kn _ _ (kc 10 21)))
 intro gs rs a w hgs hrs F HM HBW HR HO HT
 obtain ⟨gr,rfl⟩:=nl1 rs hrs
 obtain rfl:=nl0 gs hgs
 have hatr:=HR _ List.mem_cons_self
 clear hrs hgs HR HBW HO
 clear HT
 have HMk:=HM
 obtain ⟨g2,cap2,w2,hrun,R2,HM2,l2,kp2,dj2,nb2⟩:=Jiv (P:=Tryz.prog) (ρ:=a.eval) (s:=.tmp 15) (x:=.tmp 22) (dst:=some 23) (T:=114) (t:=42) (A:=[(gB,57,bkc (N+1) v)]) (ys:=[.slice al k cl,.slice none 0 0,.int .i64 ((N+1:Nat):Int)]) Tryz.underlying42 hi0 hz0 hz1 hz2 rfl (by decide) HM held (F.ev rfl) (F.ev rfl) rfl (World.news_of_block hatr) (fun u hu=>by simp only [List.mem_cons,List.not_mem_nil,or_false] at hu;rcases hu with rfl | rfl | rfl <;> rfl) (by decide) (by unfold maxLen;omega) (by omega)
 refine sx_val1 (i:=12) F (by kernel_rfl) (by rfl) rfl rfl (by rfl) hrun trivial fun a F=>?_
 replace HM:=HM2
 refine Kt [⟨13,24,[],.val (.pointer (some ⟨gB,0,none⟩)),true⟩,
   ⟨14,25,[0],.val (.pointer (some ⟨gB,4,none⟩)),true⟩] 1 _ F HM (fun _ _=>trivial) (by kernel_rfl) (by rfl) ?_ ?_ ?_ ?_ ?_ ?_ ?_
 ·kernel_rfl
 ·exact of_decide_eq_true (by kernel_rfl)
 ·(repeat refine all_cons ⟨_,by rfl,by rfl⟩ ?_);exact all_nil
 ·kernel_rfl
 ·refine all_cons ?_ (all_cons ?_ (all_nil))
  ·exact Wt _ _ _ _ _ _ _ (by rfl) (by rfl) Jg (fun ρ w kn hs=>Ki (kn _ _ (F.old (by rfl) rfl)))
  ·exact crS (fun ρ w kn hs=>Uo (kn _ _ (kc 0 24)))
 ·refine all_cons ?_ (all_cons ?_ (all_nil))
  ·exact sA
  ·exact sA
 intro gs rs a w hgs hrs F HM HBW HR HO HT
 obtain rfl:=nl0 rs hrs
 obtain rfl:=nl0 gs hgs
 clear hrs hgs HR HBW HO
 clear HT
 refine Kn (i:=15) HM (by kernel_rfl) (by rfl) rfl rfl (k:=0) rfl (o_sthNum (F.ev rfl) (F.ev rfl) (HM.get 0 rfl) (by rw [bkc_size];decide)) (M2:=((gB,57,(bkc (N+1) (Jft v 4 (.slice (some ⟨g2,0,none⟩) (es.length+1) cap2))))::R2)) (by rw [bk_set4];rfl) (fun _ _=>trivial) fun w HM=>?_
 refine Ks (by kernel_rfl) ?_ _
 refine Kgq ?_
 exact bodyPost_end (Vk rfl) F.defers ⟨rfl,R2,some ⟨g2,0,none⟩,cap2,HM,by rw [List.length_append,enC_app];exact l2,fun T1 s1 v1 n1 xs1 hne h=>kp2 _ _ _ _ _ h (Or.inl (Jeg HMk (fun x hx=>List.mem_cons_of_mem _ hx) held h hne))⟩

theorem Ws (N gB n0 ch k cl:Nat) (ah al:Option Addr) (v:Nat→Value) (es:List En) (R0:List (Nat × TypeId × Array Value)) (w0 w:World) (hv:v 4=.slice ah es.length ch) (hN:N≤900) (hL:es.length≤900) (held:LW 114 3 R0 (.slice ah es.length ch) es.length (enC es)) (HM:Mem n0 w0 w ((gB,57,bkc N v)::R0)):Calls Tryz.prog 16 #[.pointer (some ⟨gB,0,none⟩),.slice al k cl] w fun e w'=>e=.returned (.tuple #[])∧∃ R' a' c',Mem n0 w0 w' ((gB,57,bkc (N+1) (Jft v 4 (.slice a' (es.length+1) c')))::R')∧LW 114 3 R' (.slice a' (es.length+1) c') (es++[(⟨.slice al k cl,.slice none 0 0,N+1,k⟩:En)]).length (enC (es++[(⟨.slice al k cl,.slice none 0 0,N+1,k⟩:En)]))∧KO 114 R0 R':=by
 refine Uf (args:=[.pointer (some ⟨gB,0,none⟩),.slice al k cl]) HM Tryz.func16 rfl Tryz.ntmps16 (by rfl) fun a F HM=>?_
 refine Kgr ?_
 refine lxv (.pointer (some ⟨gB,0,none⟩)) F (Jb (F.ev rfl)) fun a F=>?_
 refine lxv (.slice al k cl) F (Jb (F.ev rfl)) fun a F=>?_
 refine Jj F (Ja rfl _) rfl (by rfl) (Jh Tryz.func40 (by kernel_rfl) (by rfl) (.cons (F.ev rfl) (.cons (F.ev rfl) .nil)) _) (keepNum_any N gB n0 ch k cl ah al v es R0 _ _ hv hN hL held HM) fun a w HM F=>?_
 refine Jc ?_
 refine Kgq ?_
 exact bodyPost_end (Vk rfl) F.defers ⟨rfl,HM⟩

end Go.Proofs.YtmmgmljkmmgjdaaGreatDoor
