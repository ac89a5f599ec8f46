import Derived.Deep.Cut
import Derived.Test.YtmmgmljkmmgjdaaGreatDoorMBw
import Derived.Test.YtmmgmljkmmgjdaaGreatDoorMP9
import Derived.Test.YtmmgmljkmmgjdaaGreatDoorMRc
import Derived.Test.YtmmgmljkmmgjdaaGreatDoorMTree
namespace Go.Proofs.YtmmgmljkmmgjdaaGreatDoor
set_option maxRecDepth 100000
open Go.RowKit
set_option linter.unusedSimpArgs false
set_option linter.unusedVariables false
attribute [local go_sem ↓] Go.wp_at_zero Go.wp_at_succ

set_option maxRecDepth 100000 in
set_option maxHeartbeats 800000 in
theorem rwts_n1 (P Q G H X n cap:Nat) (pa:Option Addr) (xs:List Nat) (w0:World) (hQ:Q<2^256) (hX:X<2^256) (r:RN w0.heap.size w0 pa n cap xs) (hp:Jbr Q xs=false):Calls Tryz.prog 24 #[grp P Q G H,.slice pa n cap,num X] w0 fun e w'=>e=.returned (.tuple #[.slice none 0 0,.int .i64 1])∧Below w0.heap.size w0 w':=by
 refine Jx (args:=[grp P Q G H,.slice pa n cap,num X]) Tryz.func24 rfl Tryz.ntmps24 (by rfl) fun a F HM=>?_
 refine Kgr ?_
 refine Jn F HM (Ja rfl _) rfl (by rfl) (Km (F.ev rfl)) fun a w gg F HM=>?_
 refine Jn F HM (Ja rfl _) rfl (by rfl) (Kw (F.ev rfl)) fun a w gx F HM=>?_
 refine lxv (.slice none 0 0) F (Je rfl) fun a F=>?_
 refine lxv (.int .i64 0) F (Je rfl) fun a F=>?_
 refine Jc ?_
 refine Kgr ?_
 refine lxv (grp P Q G H) F (Js (F.ev rfl) (HM.get 1 rfl)) fun a F=>?_
 refine lxv (.slice pa n cap) F (Jb (F.ev rfl)) fun a F=>?_
 refine Jj F (Ja rfl _) rfl (by rfl) (Jh Tryz.func107 (by kernel_rfl) (by rfl) (.cons (F.ev rfl) (.cons (F.ev rfl) .nil)) _) (Xf P Q G H n cap pa xs _ hQ (r.call HM.bel HM.bel.size) hp) fun a w z F=>?_
 replace HM:=HM.on z
 clear z
 refine lxv (.bool true) F (Uh (b:=false) (r:=true) (F.ev rfl) rfl) fun a F=>?_
 refine lxv (.bool true) F (Jb (F.ev rfl)) fun a F=>?_
 refine lxp 17 true F fun a F=>?_
 refine lxp 17 true F fun a F=>?_
 refine lxp 17 true F fun a F=>?_
 refine lxp 17 true F fun a F=>?_
 refine lxv (.bool true) F (Kc (b:=true) (r:=.bool true) (F.ev rfl) rfl (F.ev rfl) rfl) fun a F=>?_
 refine Jc ?_
 refine Kgq ?_
 refine wp_cond_true (F.ev rfl) ?_
 refine Kgr ?_
 refine lxv (.slice none 0 0) F (Je rfl) fun a F=>?_
 refine lxv (.int .i64 1) F (Je rfl) fun a F=>?_
 refine Jc ?_
 refine Kgq ?_
 refine wp_ret ?_
 repeat (first | refine Jt ?_ | refine Jo ?_)
 exact bodyPost_ret (Jaa F (s:=6) (t:=7) rfl rfl rfl) F.defers ⟨rfl,HM.bel⟩

set_option maxRecDepth 100000 in
set_option maxHeartbeats 800000 in
theorem rwts_n2 (P Q G H X n cap:Nat) (pa:Option Addr) (xs:List Nat) (w0:World) (hQ:Q<2^256) (hX:X<2^256) (r:RN w0.heap.size w0 pa n cap xs) (hp:Jbr Q xs=true) (hxx:¬ (1<Q∧X<Q)):Calls Tryz.prog 24 #[grp P Q G H,.slice pa n cap,num X] w0 fun e w'=>e=.returned (.tuple #[.slice none 0 0,.int .i64 1])∧Below w0.heap.size w0 w':=by
 refine Jx (args:=[grp P Q G H,.slice pa n cap,num X]) Tryz.func24 rfl Tryz.ntmps24 (by rfl) fun a F HM=>?_
 refine Kgr ?_
 refine Jn F HM (Ja rfl _) rfl (by rfl) (Km (F.ev rfl)) fun a w gg F HM=>?_
 refine Jn F HM (Ja rfl _) rfl (by rfl) (Kw (F.ev rfl)) fun a w gx F HM=>?_
 refine lxv (.slice none 0 0) F (Je rfl) fun a F=>?_
 refine lxv (.int .i64 0) F (Je rfl) fun a F=>?_
 refine Jc ?_
 refine Kgr ?_
 refine lxv (grp P Q G H) F (Js (F.ev rfl) (HM.get 1 rfl)) fun a F=>?_
 refine lxv (.slice pa n cap) F (Jb (F.ev rfl)) fun a F=>?_
 refine Jj F (Ja rfl _) rfl (by rfl) (Jh Tryz.func107 (by kernel_rfl) (by rfl) (.cons (F.ev rfl) (.cons (F.ev rfl) .nil)) _) (Xf P Q G H n cap pa xs _ hQ (r.call HM.bel HM.bel.size) hp) fun a w z F=>?_
 replace HM:=HM.on z
 clear z
 refine lxv (.bool false) F (Uh (b:=true) (r:=false) (F.ev rfl) rfl) fun a F=>?_
 refine lxv (.bool false) F (Jb (F.ev rfl)) fun a F=>?_
 refine lxw 17 false (grp P Q G H) F (Js (F.ev rfl) (HM.get 1 rfl)) fun a F=>?_
 refine lxw 17 false (num X) F (Jp (F.ev rfl) (HM.get 0 rfl)) fun a F=>?_
 refine Jj F (F.want (t:=17) (c:=false) rfl rfl rfl (by rfl) rfl) rfl (by rfl) (Jh Tryz.func104 (by kernel_rfl) (by rfl) (.cons (F.ev rfl) (.cons (F.ev rfl) .nil)) _) ((Jdv P Q G H X hQ hX hxx) _) fun a w z F=>?_
 replace HM:=HM.on z
 clear z
 refine lxw 17 false (.bool true) F (Uh (b:=false) (r:=true) (F.ev rfl) rfl) fun a F=>?_
 refine lxv (.bool true) F (Kc (b:=false) (r:=.bool true) (F.ev rfl) rfl (F.ev rfl) rfl) fun a F=>?_
 refine Jc ?_
 refine Kgq ?_
 refine wp_cond_true (F.ev rfl) ?_
 refine Kgr ?_
 refine lxv (.slice none 0 0) F (Je rfl) fun a F=>?_
 refine lxv (.int .i64 1) F (Je rfl) fun a F=>?_
 refine Jc ?_
 refine Kgq ?_
 refine wp_ret ?_
 repeat (first | refine Jt ?_ | refine Jo ?_)
 exact bodyPost_ret (Jaa F (s:=6) (t:=7) rfl rfl rfl) F.defers ⟨rfl,HM.bel⟩

set_option maxRecDepth 100000 in
set_option maxHeartbeats 800000 in
theorem Jhy (P Q G H X n cap:Nat) (pa:Option Addr) (xs:List Nat) (w0:World) (hQ:Q<2^256) (hX:X<2^256) (r:RN w0.heap.size w0 pa n cap xs) (hn:n≤1000) (hp:Jbr Q xs=true) (h1:1<Q) (hXQ:X<Q) (hxs:∀ x∈xs,x<Q):Calls Tryz.prog 24 #[grp P Q G H,.slice pa n cap,num X] w0 fun e w'=>(Jii Q xs→∃ (a2:Option Addr) (c2:Nat) (ws:List Nat),e=.returned (.tuple #[.slice a2 n c2,.int .i64 0])∧Below w0.heap.size w0 w'∧RN w'.heap.size w' a2 n c2 ws∧WS Q xs X ws xs.length)∧(¬ Jii Q xs→e=.returned (.tuple #[.slice none 0 0,.int .i64 7])∧Below w0.heap.size w0 w'):=by
 refine Jx (args:=[grp P Q G H,.slice pa n cap,num X]) Tryz.func24 rfl Tryz.ntmps24 (by rfl) fun a F HM=>?_
 refine Kgr ?_
 refine Jn F HM (Ja rfl _) rfl (by rfl) (Km (F.ev rfl)) fun a w gg F HM=>?_
 refine Jn F HM (Ja rfl _) rfl (by rfl) (Kw (F.ev rfl)) fun a w gx F HM=>?_
 refine lxv (.slice none 0 0) F (Je rfl) fun a F=>?_
 refine lxv (.int .i64 0) F (Je rfl) fun a F=>?_
 refine Jc ?_
 refine Kgr ?_
 refine lxv (grp P Q G H) F (Js (F.ev rfl) (HM.get 1 rfl)) fun a F=>?_
 refine lxv (.slice pa n cap) F (Jb (F.ev rfl)) fun a F=>?_
 refine Jj F (Ja rfl _) rfl (by rfl) (Jh Tryz.func107 (by kernel_rfl) (by rfl) (.cons (F.ev rfl) (.cons (F.ev rfl) .nil)) _) (Xf P Q G H n cap pa xs _ hQ (r.call HM.bel HM.bel.size) hp) fun a w z F=>?_
 replace HM:=HM.on z
 clear z
 refine lxv (.bool false) F (Uh (b:=true) (r:=false) (F.ev rfl) rfl) fun a F=>?_
 refine lxv (.bool false) F (Jb (F.ev rfl)) fun a F=>?_
 refine lxw 17 false (grp P Q G H) F (Js (F.ev rfl) (HM.get 1 rfl)) fun a F=>?_
 refine lxw 17 false (num X) F (Jp (F.ev rfl) (HM.get 0 rfl)) fun a F=>?_
 refine Jj F (F.want (t:=17) (c:=false) rfl rfl rfl (by rfl) rfl) rfl (by rfl) (Jh Tryz.func104 (by kernel_rfl) (by rfl) (.cons (F.ev rfl) (.cons (F.ev rfl) .nil)) _) ((Jdu P Q G H X hQ h1 hXQ) _) fun a w z F=>?_
 replace HM:=HM.on z
 clear z
 refine lxw 17 false (.bool false) F (Uh (b:=true) (r:=false) (F.ev rfl) rfl) fun a F=>?_
 refine lxv (.bool false) F (Kc (b:=false) (r:=.bool false) (F.ev rfl) rfl (F.ev rfl) rfl) fun a F=>?_
 refine Jc ?_
 refine Kgq ?_
 refine wp_cond_false (F.ev rfl) ?_
 refine Kgr ?_
 refine lxv (.slice none 0 0) F (Je rfl) fun a F=>?_
 refine Jc ?_
 refine Kgr ?_
 refine lxv (.int .i64 0) F (Je rfl) fun a F=>?_
 refine Jc ?_
 refine Kgq ?_
 refine wp_loop (fun a w=>∃ (i:Nat) (v:Value) (ws:List Nat) (R:List (Nat × TypeId × Array Value)),i≤n∧ws.length=i∧(∀ v∈ws,v<Q)∧(∀ m x,m<i→xs[m]? = some x→∃ u,ws[m]? = some u∧U Q (oth Q xs (x:Int) m)∧Cg Q ((u:Int)*oth Q xs (x:Int) m) (oth Q xs (X:Int) m))∧LR R v ws∧Fr a 62 [(9,.int .i64 (i:Nat)),(1,.slice pa n cap),(3,.pointer (some ⟨gg,0,none⟩)),(5,.pointer (some ⟨gx,0,none⟩)),(8,v)] []∧Mem w0.heap.size w0 w ((gx,24,ncs X)::(gg,26,gcs P Q G H)::R)) (fun a _=>n-(intOf (a.tmps.getD 9 undef)).toNat) ⟨0,_,[],[],Nat.zero_le _,rfl,fun v h=>(by cases h),fun m x h=>absurd h (Nat.not_lt_zero _),LR.nil _,F.sub [9,1,3,5,8],HM⟩ ?_
 clear F HM
 rintro aS wS ⟨i,v,ws,R,hi,hwl,hwb,hwv,lv,FS,HM⟩
 have F:=FS
 by_cases hlt:i<n
 ·refine Kgr ?_
  refine lxv (.int .i64 (i:Nat)) F (Jb (F.ev rfl)) fun a F=>?_
  refine lxv (.slice pa n cap) F (Jb (F.ev rfl)) fun a F=>?_
  refine lxv (.int .i64 (n:Nat)) F (Ko (F.ev rfl)) fun a F=>?_
  refine lxv (.bool true) F (Jz (u:=.int .i64 (i:Nat)) (v:=.int .i64 (n:Nat)) (fun ρ hx hy=>by simp only [execOp,hx,hy];simp [go_sem];omega) (F.ev rfl) (F.ev rfl)) fun a F=>?_
  refine Jc ?_
  refine Kgq ?_
  refine wp_cond_true (F.ev rfl) ?_
  have hwr:=r.room hlt
  have hil:i<xs.length:=by rw [r.1];exact hlt
  have hgx:xs[i]? = some xs[i]:=List.getElem?_eq_getElem hil
  generalize xs[i]=x at *
  refine Kgr ?_
  refine lxv (grp P Q G H) F (Js (F.ev rfl) (HM.get 1 rfl)) fun a F=>?_
  refine lxv (.slice pa n cap) F (Jb (F.ev rfl)) fun a F=>?_
  refine lxv (.int .i64 (i:Nat)) F (Jb (F.ev rfl)) fun a F=>?_
  refine Wi F (Ja rfl _) rfl (by rfl) (Jh Tryz.func108 (by kernel_rfl) (by rfl) (.cons (F.ev rfl) (.cons (F.ev rfl) (.cons (F.ev rfl) .nil))) _) ((runder_any P Q G H n cap i x pa xs _ hQ h1 hxs hgx (r.call HM.bel HM.bel.size))) fun a w u hu F=>?_
  obtain ⟨z,V,b,rfl,hVQ,hT,hF⟩:=hu
  replace HM:=HM.on z
  clear z
  refine lxv (.tuple #[num V,.bool b]) F (Jb (F.ev rfl)) fun a F=>?_
  refine lxv (num V) F (Jk (F.ev rfl) rfl) fun a F=>?_
  refine lxv (.bool b) F (Jk (F.ev rfl) rfl) fun a F=>?_
  refine Jn F HM (Ja rfl _) rfl (by rfl) (Jw) fun a w gw F HM=>?_
  refine Jv F HM (Ja rfl _) rfl (k:=0) rfl (Jq (F.ev rfl) (F.ev rfl) (HM.get 0 rfl)) (M2:=((gw,24,ncs V)::(gx,24,ncs X)::(gg,26,gcs P Q G H)::R)) (rfl) fun w HM=>?_
  refine lxv (.bool b) F (Je (F.ev rfl)) fun a F=>?_
  refine Jc ?_
  rcases b with _ | _
  ·refine Kgr ?_
   refine lxv (.bool false) F (Jb (F.ev rfl)) fun a F=>?_
   refine lxv (.bool true) F (Uh (b:=false) (r:=true) (F.ev rfl) rfl) fun a F=>?_
   refine Jc ?_
   refine Kgq ?_
   refine wp_cond_true (F.ev rfl) ?_
   refine Kgr ?_
   refine lxv (.slice none 0 0) F (Je rfl) fun a F=>?_
   refine lxv (.int .i64 7) F (Je rfl) fun a F=>?_
   refine Jc ?_
   refine Kgq ?_
   refine wp_ret ?_
   repeat (first | refine Jt ?_ | refine Jo ?_)
   exact bodyPost_ret (Jaa F (s:=6) (t:=7) rfl rfl rfl) F.defers ⟨fun hu=>absurd (hu i x hgx) (hF rfl),fun _=>⟨rfl,HM.bel⟩⟩
  ·refine Kgr ?_
   refine lxv (.bool true) F (Jb (F.ev rfl)) fun a F=>?_
   refine lxv (.bool false) F (Uh (b:=true) (r:=false) (F.ev rfl) rfl) fun a F=>?_
   refine Jc ?_
   refine Kgq ?_
   refine wp_cond_false (F.ev rfl) ?_
   refine Kgr ?_
   refine lxv (.int .i64 0) F (Je rfl) fun a F=>?_
   refine Jc ?_
   refine Kgq ?_
   have hVx:=hT rfl
   clear hT hF
   refine wp_loop (fun a w=>∃ j W:Nat,j≤n∧W=Uq Q ((V:Int)*prZ (X:Int) ((zs (xs.take j)).eraseIdx i))∧Fr a 62 [(12,.int .i64 (j:Nat)),(9,.int .i64 (i:Nat)),(1,.slice pa n cap),(3,.pointer (some ⟨gg,0,none⟩)),(5,.pointer (some ⟨gx,0,none⟩)),(8,v),(10,.pointer (some ⟨gw,0,none⟩))] []∧Mem w0.heap.size w0 w ((gw,24,ncs W)::(gx,24,ncs X)::(gg,26,gcs P Q G H)::R)) (fun a _=>n-(intOf (a.tmps.getD 12 undef)).toNat) ⟨0,V,Nat.zero_le _,by simp only [List.take_zero,zs,List.map_nil,List.eraseIdx_nil,prZ,Int.mul_one];exact (Vq hVQ h1).symm,F.sub [12,9,1,3,5,8,10],HM⟩ ?_
   have FS9:aS.tmps.getD 9 undef=.int .i64 (i:Nat):=FS.get 9 _ rfl
   clear F HM FS
   rintro aT wT ⟨j,W,hj,hW,FT,HM⟩
   have F:=FT
   have hWQ:W<Q:=by rw [hW];exact Wn h1 _
   by_cases hlj:j<n
   ·refine Kgr ?_
    refine lxv (.int .i64 (j:Nat)) F (Jb (F.ev rfl)) fun a F=>?_
    refine lxv (.slice pa n cap) F (Jb (F.ev rfl)) fun a F=>?_
    refine lxv (.int .i64 (n:Nat)) F (Ko (F.ev rfl)) fun a F=>?_
    refine lxv (.bool true) F (Jz (u:=.int .i64 (j:Nat)) (v:=.int .i64 (n:Nat)) (fun ρ hx hy=>by simp only [execOp,hx,hy];simp [go_sem];omega) (F.ev rfl) (F.ev rfl)) fun a F=>?_
    refine Jc ?_
    refine Kgq ?_
    refine wp_cond_true (F.ev rfl) ?_
    have hwj:=r.room hlj
    obtain ⟨gl,ol,hpa,hjl,hyb,hc⟩:=r.get hlj
    have hst:=Jfg X xs i j hjl
    have hyQ:=hxs _ (List.getElem_mem hjl)
    generalize xs[j]=y at *
    by_cases hji:j=i
    ·refine Kgr ?_
     refine lxv (.int .i64 (j:Nat)) F (Jb (F.ev rfl)) fun a F=>?_
     refine lxv (.int .i64 (i:Nat)) F (Jb (F.ev rfl)) fun a F=>?_
     refine lxv (.bool false) F (Vn (b:=true) (decide_eq_true (by omega)) (F.ev rfl) (F.ev rfl) rfl) fun a F=>?_
     refine Jc ?_
     refine Kgq ?_
     refine wp_cond_false (F.ev rfl) ?_
     refine Kgr ?_
     refine lxv (.int .i64 (j:Nat)) F (Jb (F.ev rfl)) fun a F=>?_
     refine lxv (.int .i64 ((j+1:Nat):Int)) F (Jz (u:=.int .i64 (j:Nat)) (v:=.int .i64 1) (fun ρ hx hy=>by simp only [execOp,hx,hy];simp [go_sem,hwj]) (F.ev rfl) rfl) fun a F=>?_
     refine lxv (.int .i64 ((j+1:Nat):Int)) F (Je (F.ev rfl)) fun a F=>?_
     refine Jc ?_
     rw [if_pos hji] at hst
     refine Ku ?_
     refine ⟨⟨j+1,W,by omega,by rw [hst];exact hW,F.sub [12,9,1,3,5,8,10],HM⟩,?_⟩
     ·show n-(intOf (a.tmps.getD 12 undef)).toNat<n-(intOf (aT.tmps.getD 12 undef)).toNat
      rw [F.get 12 _ rfl,FT.get 12 _ rfl]
      show n-((j+1:Nat):Int).toNat<n-((j:Nat):Int).toNat
      omega
    ·refine Kgr ?_
     refine lxv (.int .i64 (j:Nat)) F (Jb (F.ev rfl)) fun a F=>?_
     refine lxv (.int .i64 (i:Nat)) F (Jb (F.ev rfl)) fun a F=>?_
     refine lxv (.bool true) F (Vn (b:=false) (decide_eq_false (by omega)) (F.ev rfl) (F.ev rfl) rfl) fun a F=>?_
     refine Jc ?_
     refine Kgq ?_
     refine wp_cond_true (F.ev rfl) ?_
     rw [if_neg hji] at hst
     have hDQ:(X+Q-y)%Q<Q:=Nat.mod_lt _ (by omega)
     have hWn:W*((X+Q-y)%Q)%Q=Uq Q ((V:Int)*prZ (X:Int) ((zs (xs.take (j+1))).eraseIdx i)):=by
      have h:=Jfz h1 ((V:Int)*prZ (X:Int) ((zs (xs.take j)).eraseIdx i)) ((X:Int)-(y:Int))
      have e:=Jep h1 (X:Int) (y:Int)
      rw [Vq hXQ h1,Vq hyQ h1] at e
      rw [← hW,← e] at h
      rw [h,hst,Int.mul_assoc]
     refine Kgq ?_
     refine Kg (S:=fun _=>True) HM (fun _ h=>trivial) (by kernel_rfl) fun w HM HBW=>?_
     clear HBW
     try simp only [List.append_eq,List.cons_append,List.nil_append]
     refine Kt [⟨0,47,[],.val (grp P Q G H),false⟩,
   ⟨1,48,[],.val (num W),false⟩,
   ⟨2,49,[],.val (grp P Q G H),false⟩,
   ⟨3,50,[],.val (num X),false⟩,
   ⟨4,51,[],.val (.slice pa n cap),true⟩,
   ⟨5,52,[],.val (.int .i64 (j:Nat)),true⟩,
   ⟨6,53,[4,5],.val (.pointer (some ⟨gl,ol+j*4,none⟩)),true⟩,
   ⟨7,54,[6],.val (num y),false⟩,
   ⟨8,55,[2,3,7],.val (num (((X+Q-y)%Q))),false⟩,
   ⟨9,56,[0,1,8],.val (num ((W*((X+Q-y)%Q)%Q))),false⟩] 1 _ F HM (fun _ _=>trivial) (by kernel_rfl) (by rfl) ?_ ?_ ?_ ?_ ?_ ?_ ?_
     ·kernel_rfl
     ·exact of_decide_eq_true (by kernel_rfl)
     ·(repeat refine all_cons ⟨_,by rfl,by rfl⟩ ?_);exact all_nil
     ·kernel_rfl
     ·(repeat (refine all_cons ?_ ?_;rotate_left));exact all_nil
      all_goals try exact Jm _ (by rfl)
      ·exact Wt _ _ _ _ _ _ _ (by rfl) (by rfl) Jg (fun ρ w kn hs=>Jb (kn _ _ (F.old (by rfl) rfl)))
      ·exact Wt _ _ _ _ _ _ _ (by rfl) (by rfl) Jg (fun ρ w kn hs=>Jb (kn _ _ (F.old (by rfl) rfl)))
      ·exact crS (fun ρ w kn hs=>Kv hlj (by rw [← hpa];exact (kn _ _ (kc 4 51))) (kn _ _ (kc 5 52)))
     ·(repeat (refine all_cons ?_ ?_;rotate_left));exact all_nil
      all_goals try exact sA
      ·exact fun _=>Um _ _ _ _ _ _ (by rfl) (by rfl) (fun ρ w kn hb=>Js (kn _ _ (F.old (by rfl) rfl)) ((HM.on hb).get 2 rfl))
      ·exact fun _=>Um _ _ _ _ _ _ (by rfl) (by rfl) (fun ρ w kn hb=>Jp (kn _ _ (F.old (by rfl) rfl)) ((HM.on hb).get 0 rfl))
      ·exact fun _=>Um _ _ _ _ _ _ (by rfl) (by rfl) (fun ρ w kn hb=>Js (kn _ _ (F.old (by rfl) rfl)) ((HM.on hb).get 2 rfl))
      ·exact fun _=>Um _ _ _ _ _ _ (by rfl) (by rfl) (fun ρ w kn hb=>Jp (kn _ _ (F.old (by rfl) rfl)) ((HM.on hb).get 1 rfl))
      ·exact fun _=>Um _ _ _ _ _ _ (by rfl) (by rfl) (fun ρ w kn hb=>Kh (kn _ _ (kc 6 53)) (hc _ (HM.on hb).bel))
      ·exact fun _=>Jl _ 109 _ _ [.tmp 49,.tmp 50,.tmp 54] _ _ _ _ _ _ _ (by rfl) Tryz.func109 (by kernel_rfl) (by rfl) (by rfl) (Jg) (.cons (kc 2 49) (.cons (kc 3 50) (.cons (kc 7 54) .nil))) ((Jbw P Q G H X y hQ h1 hXQ hyQ))
      ·exact fun _=>Jl _ 106 _ _ [.tmp 47,.tmp 48,.tmp 55] _ _ _ _ _ _ _ (by rfl) Tryz.func106 (by kernel_rfl) (by rfl) (by rfl) (Jg) (.cons (kc 0 47) (.cons (kc 1 48) (.cons (kc 8 55) .nil))) ((Wk P Q G H W ((X+Q-y)%Q) hQ h1 hWQ hDQ))
     intro gs rs a w hgs hrs F HM HBW HR HO HT
     obtain rfl:=nl0 rs hrs
     obtain rfl:=nl0 gs hgs
     clear hrs hgs HR HBW HO
     clear HT
     refine Kn (i:=10) HM (by kernel_rfl) (by rfl) rfl rfl (k:=0) rfl (Jq (F.ev rfl) (F.ev rfl) (HM.get 0 rfl)) (M2:=((gw,24,ncs ((W*((X+Q-y)%Q)%Q)))::(gx,24,ncs X)::(gg,26,gcs P Q G H)::R)) (rfl) (fun _ _=>trivial) fun w HM=>?_
     refine Ks (by kernel_rfl) ?_ _
     refine Kgr ?_
     refine lxv (.int .i64 (j:Nat)) F (Jb (F.ev rfl)) fun a F=>?_
     refine lxv (.int .i64 ((j+1:Nat):Int)) F (Jz (u:=.int .i64 (j:Nat)) (v:=.int .i64 1) (fun ρ hx hy=>by simp only [execOp,hx,hy];simp [go_sem,hwj]) (F.ev rfl) rfl) fun a F=>?_
     refine lxv (.int .i64 ((j+1:Nat):Int)) F (Je (F.ev rfl)) fun a F=>?_
     refine Jc ?_
     refine Ku ?_
     refine ⟨⟨j+1,_,by omega,hWn,F.sub [12,9,1,3,5,8,10],HM⟩,?_⟩
     ·show n-(intOf (a.tmps.getD 12 undef)).toNat<n-(intOf (aT.tmps.getD 12 undef)).toNat
      rw [F.get 12 _ rfl,FT.get 12 _ rfl]
      show n-((j+1:Nat):Int).toNat<n-((j:Nat):Int).toNat
      omega
   ·refine Kgr ?_
    refine lxv (.int .i64 (j:Nat)) F (Jb (F.ev rfl)) fun a F=>?_
    refine lxv (.slice pa n cap) F (Jb (F.ev rfl)) fun a F=>?_
    refine lxv (.int .i64 (n:Nat)) F (Ko (F.ev rfl)) fun a F=>?_
    refine lxv (.bool false) F (Jz (u:=.int .i64 (j:Nat)) (v:=.int .i64 (n:Nat)) (fun ρ hx hy=>by simp only [execOp,hx,hy];simp [go_sem];omega) (F.ev rfl) (F.ev rfl)) fun a F=>?_
    refine Jc ?_
    refine Kgq ?_
    refine wp_cond_false (F.ev rfl) ?_
    refine Kgq ?_
    refine wp_exit ?_
    repeat (first | refine Kk ?_ | refine Kd ?_)
    rw [List.take_of_length_le (by have:=r.1;omega)] at hW
    refine Kgr ?_
    refine lxv v F (Jb (F.ev rfl)) fun a F=>?_
    refine lxv (num W) F (Jp (F.ev rfl) (HM.get 0 rfl)) fun a F=>?_
    refine Vv F HM (Ja rfl _) rfl (by rfl) (Vl (F.ev rfl)) fun a w gr F HM=>?_
    obtain ⟨v2,w2,hrun,R,HM2,l2,lk2⟩:=appR (ρ:=a.eval) (s:=.tmp 57) (x:=.tmp 59) (A:=[(gr,24,(Jes W)),(gw,24,ncs W),(gx,24,ncs X),(gg,26,gcs P Q G H)]) HM lv (F.ev rfl) (F.ev rfl) rfl ((Pf.one W).lie (HM.get 0 rfl)) (by simp) (by rw [hwl];omega)
    replace HM:=HM2;have lv:=l2
    refine Ux (v:=v2) F (Ja rfl _) rfl (by rfl) hrun fun a F=>?_
    refine lxv v2 F (Je (F.ev rfl)) fun a F=>?_
    refine Jc ?_
    replace HM:=HM.erase 0 (M2:=((gw,24,ncs W)::(gx,24,ncs X)::(gg,26,gcs P Q G H)::R)) rfl
    replace HM:=HM.erase 0 (M2:=((gx,24,ncs X)::(gg,26,gcs P Q G H)::R)) rfl
    refine Kgr ?_
    refine lxv (.int .i64 (i:Nat)) F (Jb (F.ev rfl)) fun a F=>?_
    refine lxv (.int .i64 ((i+1:Nat):Int)) F (Jz (u:=.int .i64 (i:Nat)) (v:=.int .i64 1) (fun ρ hx hy=>by simp only [execOp,hx,hy];simp [go_sem,hwr]) (F.ev rfl) rfl) fun a F=>?_
    refine lxv (.int .i64 ((i+1:Nat):Int)) F (Je (F.ev rfl)) fun a F=>?_
    refine Jc ?_
    refine Ku ?_
    refine ⟨⟨i+1,_,ws++[W],_,by omega,by simp [hwl],fun u hu=>?_,fun m z hm hz=>?_,lv,F.sub [9,1,3,5,8],HM⟩,?_⟩
    ·rcases List.mem_append.1 hu with hu | hu
     ·exact hwb u hu
     ·rw [List.mem_singleton.1 hu];exact hWQ
    ·by_cases em:m=i
     ·subst em
      rw [hgx] at hz
      cases hz
      refine ⟨W,by rw [List.getElem?_append_right (by omega)];simp [hwl],⟨_,(Cg.of_eq (Int.mul_comm _ _)).trans hVx⟩,?_⟩
      rw [hW]
      refine ((Xs h1 _).mul (Cg.refl Q _)).trans ((Cg.of_eq ?_).trans ((hVx.mul (Cg.refl Q (oth Q xs (X:Int) m))).trans (Cg.of_eq (Int.one_mul _))))
      unfold oth
      grind
     ·obtain ⟨u,h3,h4⟩:=hwv m z (by omega) hz
      exact ⟨u,by rw [List.getElem?_append_left (by omega)];exact h3,h4⟩
    ·show n-(intOf (a.tmps.getD 9 undef)).toNat<n-(intOf (aS.tmps.getD 9 undef)).toNat
     rw [F.get 9 _ rfl,FS9]
     show n-((i+1:Nat):Int).toNat<n-((i:Nat):Int).toNat
     omega
 ·refine Kgr ?_
  refine lxv (.int .i64 (i:Nat)) F (Jb (F.ev rfl)) fun a F=>?_
  refine lxv (.slice pa n cap) F (Jb (F.ev rfl)) fun a F=>?_
  refine lxv (.int .i64 (n:Nat)) F (Ko (F.ev rfl)) fun a F=>?_
  refine lxv (.bool false) F (Jz (u:=.int .i64 (i:Nat)) (v:=.int .i64 (n:Nat)) (fun ρ hx hy=>by simp only [execOp,hx,hy];simp [go_sem];omega) (F.ev rfl) (F.ev rfl)) fun a F=>?_
  refine Jc ?_
  refine Kgq ?_
  refine wp_cond_false (F.ev rfl) ?_
  refine Kgq ?_
  refine wp_exit ?_
  repeat (first | refine Kk ?_ | refine Kd ?_)
  have hin:i=n:=by omega
  obtain ⟨a2,c2,rfl⟩:=lv.form
  rw [show ws.length=n from hwl.trans hin] at F lv
  refine Kgr ?_
  refine lxv (.slice a2 n c2) F (Jb (F.ev rfl)) fun a F=>?_
  refine lxv (.slice a2 n c2) F (Je (F.ev rfl)) fun a F=>?_
  refine lxv (.int .i64 0) F (Je rfl) fun a F=>?_
  refine Jc ?_
  refine Kgq ?_
  refine wp_ret ?_
  repeat (first | refine Jt ?_ | refine Jo ?_)
  exact bodyPost_ret (Jaa F (s:=6) (t:=7) rfl rfl rfl) F.defers ⟨fun _=>⟨a2,c2,ws,rfl,HM.bel,lv.rn HM (fun x hx=>by simp [hx]) (fun u hu=>Nat.lt_trans (hwb u hu) hQ),by rw [hwl,hin,r.1],hwb,fun m x hm hx=>by obtain ⟨u,e1,e2,e3⟩:=hwv m x (by rw [hin,← r.1];exact hm) hx;exact ⟨u,e1,e3⟩⟩,fun hno=>absurd (fun m x hx=>by obtain ⟨u,e1,e2,e3⟩:=hwv m x (by rw [hin,← r.1];exact (List.getElem?_eq_some_iff.1 hx).1) hx;exact e2) hno⟩

def Jfr (Q a:Nat):Nat→List Nat→List Nat
 | _,[]=>[]
 | c,p::ps=>((0+Q-p*a%Q)%Q+c)%Q::Jfr Q a p ps
theorem Ww (Q a:Nat):∀ (c:Nat) (ps:List Nat),(Jfr Q a c ps).length=ps.length
 | _,[]=>rfl
 | c,p::ps=>by simp [Jfr,Ww Q a p ps]
theorem mulr_lt {Q:Nat} (h1:1<Q) (a:Nat):∀ (c:Nat) (ps:List Nat),∀ x∈Jfr Q a c ps,x<Q
 | _,[],x,h=>by cases h
 | c,p::ps,x,h=>by
  rcases List.mem_cons.1 h with rfl | h
  ·exact Nat.mod_lt _ (by omega)
  ·exact mulr_lt h1 a p ps x h
theorem Jgl (Q a:Nat):∀ (c:Nat) (ps:List Nat) (j:Nat) (hj:j<ps.length),(Jfr Q a c ps)[j]? = some (((0+Q-ps[j]*a%Q)%Q+(if j=0 then c else ps.getD (j-1) 0))%Q)
 | c,p::ps,0,_=>by simp [Jfr]
 | c,p::ps,j+1,hj=>by
  have:=Jgl Q a p ps j (by simpa using hj)
  simp only [Jfr,List.getElem?_cons_succ,this,List.getElem_cons_succ]
  cases j with
  | zero=>simp
  | succ j=>simp
theorem neg_cg {Q p a:Nat} (h1:1<Q):Cg Q (((0+Q-p*a%Q)%Q:Nat):Int) (-((p:Int)*(a:Int))):=by
 have h:=sof_negQ h1 (Nat.mod_lt (p*a) (show 0<Q by omega))
 rw [h]
 refine (Xs h1 _).trans ?_
 have h2:Cg Q ((p*a%Q:Nat):Int) ((p:Int)*(a:Int)):=cg_prod
 have h3:=(Cg.refl Q 0).sub h2
 simpa using h3
theorem mulr_ev {Q a:Nat} (h1:1<Q) (X:Int):∀ (c:Nat) (ps:List Nat),Cg Q (evZ (zs (Jfr Q a c ps)) X) ((c:Int)+(X-(a:Int))*evZ (zs ps) X-X^ps.length*(((c::ps).getLast (by simp):Nat):Int))
 | c,[]=>by simp [Jfr,zs,evZ];exact Cg.refl _ _
 | c,p::ps=>by
  have ih:=mulr_ev (a:=a) h1 X p ps
  have e:evZ (zs (Jfr Q a c (p::ps))) X=((((0+Q-p*a%Q)%Q+c)%Q:Nat):Int)+X*evZ (zs (Jfr Q a p ps)) X:=rfl
  have e2:evZ (zs (p::ps)) X=(p:Int)+X*evZ (zs ps) X:=rfl
  rw [e,e2,List.getLast_cons (by simp),List.length_cons]
  have h2:Cg Q ((((0+Q-p*a%Q)%Q+c)%Q:Nat):Int) (-((p:Int)*(a:Int))+(c:Int)):=by
   rw [Int.natCast_emod,Int.natCast_add]
   exact (Cg.emod Q _).trans ((neg_cg h1).add (Cg.refl Q _))
  refine (h2.add (Cg.mulL X ih)).trans (Cg.of_eq ?_)
  generalize (((p::ps).getLast (by simp):Nat):Int)=l
  generalize evZ (zs ps) X=E
  rw [Int.pow_succ]
  grind
theorem mulr_all {Q a:Nat} (h1:1<Q) (X:Int) (ps:List Nat) (h0:ps=[]∨ps[ps.length-1]? = some 0):Cg Q (evZ (zs (Jfr Q a 0 ps)) X) ((X-(a:Int))*evZ (zs ps) X):=by
 have h:=mulr_ev (a:=a) h1 X 0 ps
 have hl:(((0::ps).getLast (by simp):Nat):Int)=0:=by
  rcases h0 with rfl | h0
  ·rfl
  ·cases ps with
   | nil=>rfl
   | cons p ps=>
    rw [List.getLast_cons (by simp),List.getLast_eq_getElem]
    obtain ⟨h2,h3⟩:=List.getElem?_eq_some_iff.1 h0
    rw [h3];rfl
 rw [hl] at h
 refine h.trans (Cg.of_eq ?_)
 simp
theorem mulr_deg {Q a d:Nat} (h1:1<Q) {ps:List Nat} (hd:∀ j,d<j→j<ps.length→ps[j]? = some 0):∀ j,d+1<j→j<(Jfr Q a 0 ps).length→(Jfr Q a 0 ps)[j]? = some 0:=by
 intro j hj hl
 rw [Ww] at hl
 have e1:=hd j (by omega) hl
 have e2:=hd (j-1) (by omega) (by omega)
 obtain ⟨_,e3⟩:=List.getElem?_eq_some_iff.1 e1
 rw [Jgl Q a 0 ps j hl,e3,if_neg (by omega),List.getD,e2]
 simp [Nat.mod_self]
theorem fold_set (p q:List Nat) (m:Nat) (x:Nat) (hp:m<p.length) (hq:q[m]? = some x) (hl:q.length=p.length):(p.take (m+1)++q.drop (m+1)).set m x=p.take m++q.drop m:=by
 obtain ⟨h2,rfl⟩:=List.getElem?_eq_some_iff.1 hq
 apply List.ext_getElem?
 intro j
 rw [List.getElem?_set]
 simp only [List.length_append,List.length_take,List.length_drop,List.getElem?_append,List.getElem?_take,List.getElem?_drop]
 by_cases e:m=j
 ·subst e
  simp [show m<min (m+1) p.length+(q.length-(m+1)) by omega,show ¬ m<min m p.length by omega,Nat.min_eq_left (Nat.le_of_lt hp)]
 ·rw [if_neg e]
  by_cases h3:j<m
  ·simp [show j<min (m+1) p.length by omega,show j<min m p.length by omega,h3,show j<m+1 by omega]
  ·simp only [show ¬ j<min (m+1) p.length by omega,show ¬ j<min m p.length by omega,if_false]
   congr 1
   omega
theorem fold_get (p q:List Nat) (m j:Nat) (hj:j<m) (hm:m≤p.length):(p.take m++q.drop m)[j]? = p[j]?:=by
 rw [List.getElem?_append_left (by rw [List.length_take];omega),List.getElem?_take,if_pos hj]
theorem padd_get (Q:Nat) (o p:List Nat) (h:o.length=p.length) (i:Nat) (hi:i<o.length):((o.zipWith (fun a b=>(a+b)%Q) p).take (i+1)++o.drop (i+1))=(((o.zipWith (fun a b=>(a+b)%Q) p).take i++o.drop i).set i ((o[i]+p[i])%Q)):=by
 have hz:(o.zipWith (fun a b=>(a+b)%Q) p).length=o.length:=by simp [h]
 apply List.ext_getElem?
 intro j
 rw [List.getElem?_set]
 simp only [List.length_append,List.length_take,List.length_drop,List.getElem?_append,List.getElem?_take,List.getElem?_drop,hz]
 by_cases e:i=j
 ·subst e
  simp [show i<min (i+1) o.length by omega,hi,show i<min i o.length+(o.length-i) by omega,List.getElem?_zipWith,List.getElem?_eq_getElem hi,List.getElem?_eq_getElem (show i<p.length by omega)]
 ·rw [if_neg e]
  by_cases h3:j<i
  ·simp [show j<min (i+1) o.length by omega,show j<min i o.length by omega,h3,show j<i+1 by omega]
  ·simp only [show ¬ j<min (i+1) o.length by omega,show ¬ j<min i o.length by omega,if_false]
   congr 1
   omega
theorem padd_ev {Q:Nat} (X:Int):∀ (o p:List Nat),o.length=p.length→Cg Q (evZ (zs (o.zipWith (fun a b=>(a+b)%Q) p)) X) (evZ (zs o) X+evZ (zs p) X)
 | [],[],_=>Cg.refl _ _
 | [],_::_,h=>by simp at h
 | _::_,[],h=>by simp at h
 | a::o,b::p,h=>by
  have ih:=padd_ev (Q:=Q) X o p (by simpa using h)
  have e:evZ (zs ((a::o).zipWith (fun a b=>(a+b)%Q) (b::p))) X=(((a+b)%Q:Nat):Int)+X*evZ (zs (o.zipWith (fun a b=>(a+b)%Q) p)) X:=rfl
  have e1:evZ (zs (a::o)) X=(a:Int)+X*evZ (zs o) X:=rfl
  have e2:evZ (zs (b::p)) X=(b:Int)+X*evZ (zs p) X:=rfl
  rw [e,e1,e2]
  have h2:Cg Q (((a+b)%Q:Nat):Int) ((a:Int)+(b:Int)):=by rw [Int.natCast_emod,Int.natCast_add];exact Cg.emod Q _
  refine (h2.add (Cg.mulL X ih)).trans (Cg.of_eq ?_)
  grind
theorem U.neg {Q:Nat} {a:Int}:U Q a→U Q (-a)
 | ⟨b,h⟩=>⟨-b,(Cg.of_eq (by grind)).trans h⟩
theorem allD_U {Q:Nat} {xs:List Nat}:Jij Q xs ↔ Jii Q xs:=by
 constructor
 ·intro h i x hx
  refine Jeu fun y hy=>?_
  obtain ⟨m,hm,hy⟩:=List.mem_eraseIdx_iff_getElem?.1 hy
  have hx2:(zs xs)[i]? = some (x:Int):=by simp [zs,hx]
  obtain ⟨h3,h4⟩:=List.getElem?_eq_some_iff.1 hx2
  obtain ⟨h5,h6⟩:=List.getElem?_eq_some_iff.1 hy
  rcases Nat.lt_or_gt_of_ne hm with hlt | hlt
  ·have:=List.pairwise_iff_getElem.1 h m i h5 h3 hlt
   rw [h4,h6] at this;exact this
  ·have:=List.pairwise_iff_getElem.1 h i m h3 h5 hlt
   rw [h4,h6] at this
   have h7:=U.neg this
   rwa [show -(y-(x:Int))=(x:Int)-y by omega] at h7
 ·intro h
  refine List.pairwise_iff_getElem.2 fun i j hi hj hij=>?_
  have hi':i<xs.length:=by rwa [Wg] at hi
  have hj':j<xs.length:=by rwa [Wg] at hj
  have:=h j xs[j] (List.getElem?_eq_getElem hj')
  rw [Jel hj',Jel hi']
  exact Jdy this _ (List.mem_eraseIdx_iff_getElem?.2 ⟨i,by omega,by rw [List.getElem?_eq_getElem hi,Jel hi']⟩)
theorem ts_one {Q:Nat} {xs vs ps qs:List Nat} (hD:Jij Q xs) (hv:vs.length=xs.length) (hp:TS Q xs vs ps) (hq:TS Q xs vs qs):ps=qs:=by
 refine uniqN (hp.1.trans hq.1.symm) (by rw [Wg,hp.1];exact Nat.le_refl _) hp.2.1 hq.2.1 hD fun x hx=>?_
 obtain ⟨i,hi,rfl⟩:=List.getElem_of_mem hx
 have hi':i<xs.length:=by rwa [Wg] at hi
 have hiv:i<vs.length:=by omega
 have h1:=hp.2.2 i xs[i] vs[i] (List.getElem?_eq_getElem hi') (List.getElem?_eq_getElem hiv)
 have h2:=hq.2.2 i xs[i] vs[i] (List.getElem?_eq_getElem hi') (List.getElem?_eq_getElem hiv)
 rw [Jel hi']
 exact h1.trans h2.symm
theorem ws_one {Q X:Nat} {xs ws us:List Nat} (hU:Jii Q xs) (hp:WS Q xs X ws xs.length) (hq:WS Q xs X us xs.length):ws=us:=by
 refine List.ext_getElem? fun i=>?_
 by_cases hi:i<xs.length
 ·have hx:xs[i]? = some xs[i]:=List.getElem?_eq_getElem hi
  obtain ⟨u,e1,c1⟩:=hp.2.2 i _ hi hx
  obtain ⟨v,e2,c2⟩:=hq.2.2 i _ hi hx
  rw [e1,e2]
  have:=U.cancel (c1.trans c2.symm) (hU i _ hx)
  rw [Cg.eq (hp.2.1 u (List.mem_of_getElem? e1)) (hq.2.1 v (List.mem_of_getElem? e2)) this]
 ·rw [List.getElem?_eq_none (by rw [hp.1];omega),List.getElem?_eq_none (by rw [hq.1];omega)]
theorem oth_mem {Q i j y:Nat} {xs:List Nat} (hij:j≠i) (hy:xs[j]? = some y):oth Q xs (y:Int) i=0:=Jhd (List.mem_eraseIdx_iff_getElem?.2 ⟨j,hij,by simp [zs,hy]⟩)
theorem er_step (xs:List Nat) (but k:Nat) (hk:k<xs.length):(zs (xs.take (k+1))).eraseIdx but=if k=but then (zs (xs.take k)).eraseIdx but else (zs (xs.take k)).eraseIdx but++[((xs[k]:Nat):Int)]:=by
 have hz:zs (xs.take (k+1))=zs (xs.take k)++[((xs[k]:Nat):Int)]:=by rw [List.take_succ_eq_append_getElem hk];unfold zs;rw [List.map_append];rfl
 have hl:(zs (xs.take k)).length=k:=by rw [Wg,List.length_take];omega
 rw [hz]
 rcases Nat.lt_trichotomy but k with h | h | h
 ·rw [if_neg (by omega),List.eraseIdx_append_of_lt_length (by omega)]
 ·subst h
  have e1:(zs (xs.take but)).eraseIdx but=zs (xs.take but):=List.eraseIdx_of_length_le (by omega)
  rw [if_pos rfl,List.eraseIdx_append_of_length_le (by omega),hl,Nat.sub_self,e1];simp
 ·have e1:(zs (xs.take k)).eraseIdx but=zs (xs.take k):=List.eraseIdx_of_length_le (by omega)
  have e2:(zs (xs.take k)++[((xs[k]:Nat):Int)]).eraseIdx but=zs (xs.take k)++[((xs[k]:Nat):Int)]:=List.eraseIdx_of_length_le (by simp;omega)
  rw [if_neg (by omega),e1,e2]
theorem er_len (xs:List Nat) (but k:Nat) (hk:k≤xs.length):((zs (xs.take k)).eraseIdx but).length=if but<k then k-1 else k:=by
 have hl:(zs (xs.take k)).length=k:=by rw [Wg,List.length_take];omega
 by_cases h:but<k
 ·rw [if_pos h,List.length_eraseIdx_of_lt (by omega),hl]
 ·rw [if_neg h,List.eraseIdx_of_length_le (by omega),hl]
theorem first_ev (n a:Nat) (hn:0<n) (X:Int):evZ (zs ((List.replicate n 0).set 0 a)) X=(a:Int):=by
 obtain ⟨m,rfl⟩:∃ m,n=m+1:=⟨n-1,by omega⟩
 rw [List.replicate_succ,List.set_cons_zero]
 show (a:Int)+X*evZ (zs (List.replicate m 0)) X=_
 rw [Jef _ X (fun c hc=>by obtain ⟨k,hk,rfl⟩:=List.mem_map.1 hc;rw [List.eq_of_mem_replicate hk];rfl)]
 omega
theorem prZ_one (X a:Int):prZ X [a]=X-a:=by simp [prZ]
theorem oth_unit {Q V v:Nat} {o:Int} (hV:Cg Q ((V:Int)*o) 1):Cg Q (((V:Int)*(v:Int))*o) (v:Int):=by
 refine (Cg.of_eq ?_).trans ((hV.mul (Cg.refl Q (v:Int))).trans (Cg.of_eq (by omega)))
 grind
end Go.Proofs.YtmmgmljkmmgjdaaGreatDoor
