import Derived.Deep.Cut
import Derived.Test.YtmmgmljkmmgjdaaGreatDoorMRa
import Derived.Test.YtmmgmljkmmgjdaaGreatDoorMTree
namespace Go.Proofs.YtmmgmljkmmgjdaaGreatDoor
set_option maxRecDepth 100000
open Go.RowKit
set_option linter.unusedSimpArgs false
set_option linter.unusedVariables false
attribute [local go_sem ↓] Go.wp_at_zero Go.wp_at_succ

set_option maxRecDepth 100000 in
set_option maxHeartbeats 800000 in
theorem rpts_0 (P Q G H n cap:Nat) (pa:Option Addr) (xs:List Nat) (w0:World) (hQ:Q<2^256) (r:RN w0.heap.size w0 pa n cap xs) (hn:n=0):Calls Tryz.prog 107 #[grp P Q G H,.slice pa n cap] w0 fun e w'=>e=.returned (.bool false)∧Below w0.heap.size w0 w':=by
 refine Jx (args:=[grp P Q G H,.slice pa n cap]) Tryz.func107 rfl Tryz.ntmps107 (by rfl) fun a F HM=>?_
 refine Kgr ?_
 refine Jn F HM (Ja rfl _) rfl (by rfl) (Km (F.ev rfl)) fun a w gg F HM=>?_
 refine lxv (.bool false) F (Je rfl) fun a F=>?_
 refine Jc ?_
 refine Kgr ?_
 refine lxv (.slice pa n cap) F (Jb (F.ev rfl)) fun a F=>?_
 refine lxv (.int .i64 (n:Nat)) F (Ko (F.ev rfl)) fun a F=>?_
 refine lxv (.bool true) F (Jgw (b:=true) (decide_eq_true (by omega)) (F.ev rfl) rfl rfl) fun a F=>?_
 refine lxv (.bool true) F (Jb (F.ev rfl)) fun a F=>?_
 refine lxp 10 true F fun a F=>?_
 refine lxp 10 true F fun a F=>?_
 refine lxp 10 true F fun a F=>?_
 refine lxp 10 true F fun a F=>?_
 refine lxv (.bool true) F (Kc (b:=true) (r:=.bool true) (F.ev rfl) rfl (F.ev rfl) rfl) fun a F=>?_
 refine Jc ?_
 refine Kgq ?_
 refine wp_cond_true (F.ev rfl) ?_
 refine Kgr ?_
 refine lxv (.bool false) F (Je rfl) fun a F=>?_
 refine Jc ?_
 refine Kgq ?_
 refine wp_ret ?_
 repeat (first | refine Jt ?_ | refine Jo ?_)
 exact Kp F HM (Ua F rfl (s:=4) rfl)

set_option maxRecDepth 100000 in
set_option maxHeartbeats 800000 in
theorem rpts_n (P Q G H n cap:Nat) (pa:Option Addr) (xs:List Nat) (w0:World) (hQ:Q<2^256) (r:RN w0.heap.size w0 pa n cap xs) (hn:n≠0) (hall:(decide (1<Q) && Vz Q xs)=false):Calls Tryz.prog 107 #[grp P Q G H,.slice pa n cap] w0 fun e w'=>e=.returned (.bool false)∧Below w0.heap.size w0 w':=by
 refine Jx (args:=[grp P Q G H,.slice pa n cap]) Tryz.func107 rfl Tryz.ntmps107 (by rfl) fun a F HM=>?_
 refine Kgr ?_
 refine Jn F HM (Ja rfl _) rfl (by rfl) (Km (F.ev rfl)) fun a w gg F HM=>?_
 refine lxv (.bool false) F (Je rfl) fun a F=>?_
 refine Jc ?_
 refine Kgr ?_
 refine lxv (.slice pa n cap) F (Jb (F.ev rfl)) fun a F=>?_
 refine lxv (.int .i64 (n:Nat)) F (Ko (F.ev rfl)) fun a F=>?_
 refine lxv (.bool false) F (Jgw (b:=false) (decide_eq_false (by omega)) (F.ev rfl) rfl rfl) fun a F=>?_
 refine lxv (.bool false) F (Jb (F.ev rfl)) fun a F=>?_
 refine lxw 10 false (grp P Q G H) F (Js (F.ev rfl) (HM.get 0 rfl)) fun a F=>?_
 refine lxw 10 false (.slice pa n cap) F (Jb (F.ev rfl)) fun a F=>?_
 refine Jj F (F.want (t:=10) (c:=false) rfl rfl rfl (by rfl) rfl) rfl (by rfl) (Jh Tryz.func103 (by kernel_rfl) (by rfl) (.cons (F.ev rfl) (.cons (F.ev rfl) .nil)) _) (Xi P Q G H n cap pa xs _ hQ (r.call HM.bel HM.bel.size) hall) fun a w z F=>?_
 replace HM:=HM.on z
 clear z
 refine lxw 10 false (.bool true) F (Uh (b:=false) (r:=true) (F.ev rfl) rfl) fun a F=>?_
 refine lxv (.bool true) F (Kc (b:=false) (r:=.bool true) (F.ev rfl) rfl (F.ev rfl) rfl) fun a F=>?_
 refine Jc ?_
 refine Kgq ?_
 refine wp_cond_true (F.ev rfl) ?_
 refine Kgr ?_
 refine lxv (.bool false) F (Je rfl) fun a F=>?_
 refine Jc ?_
 refine Kgq ?_
 refine wp_ret ?_
 repeat (first | refine Jt ?_ | refine Jo ?_)
 exact Kp F HM (Ua F rfl (s:=4) rfl)

set_option maxRecDepth 100000 in
set_option maxHeartbeats 800000 in
theorem rpts_y (P Q G H n cap:Nat) (pa:Option Addr) (xs:List Nat) (w0:World) (hQ:Q<2^256) (r:RN w0.heap.size w0 pa n cap xs) (hn:n≠0) (hall:(decide (1<Q) && Vz Q xs)=true):Calls Tryz.prog 107 #[grp P Q G H,.slice pa n cap] w0 fun e w'=>e=.returned (.bool (decide xs.Nodup))∧Below w0.heap.size w0 w':=by
 refine Jx (args:=[grp P Q G H,.slice pa n cap]) Tryz.func107 rfl Tryz.ntmps107 (by rfl) fun a F HM=>?_
 refine Kgr ?_
 refine Jn F HM (Ja rfl _) rfl (by rfl) (Km (F.ev rfl)) fun a w gg F HM=>?_
 refine lxv (.bool false) F (Je rfl) fun a F=>?_
 refine Jc ?_
 refine Kgr ?_
 refine lxv (.slice pa n cap) F (Jb (F.ev rfl)) fun a F=>?_
 refine lxv (.int .i64 (n:Nat)) F (Ko (F.ev rfl)) fun a F=>?_
 refine lxv (.bool false) F (Jgw (b:=false) (decide_eq_false (by omega)) (F.ev rfl) rfl rfl) fun a F=>?_
 refine lxv (.bool false) F (Jb (F.ev rfl)) fun a F=>?_
 refine lxw 10 false (grp P Q G H) F (Js (F.ev rfl) (HM.get 0 rfl)) fun a F=>?_
 refine lxw 10 false (.slice pa n cap) F (Jb (F.ev rfl)) fun a F=>?_
 refine Jj F (F.want (t:=10) (c:=false) rfl rfl rfl (by rfl) rfl) rfl (by rfl) (Jh Tryz.func103 (by kernel_rfl) (by rfl) (.cons (F.ev rfl) (.cons (F.ev rfl) .nil)) _) (Xi P Q G H n cap pa xs _ hQ (r.call HM.bel HM.bel.size) hall) fun a w z F=>?_
 replace HM:=HM.on z
 clear z
 refine lxw 10 false (.bool false) F (Uh (b:=true) (r:=false) (F.ev rfl) rfl) fun a F=>?_
 refine lxv (.bool false) F (Kc (b:=false) (r:=.bool false) (F.ev rfl) rfl (F.ev rfl) rfl) fun a F=>?_
 refine Jc ?_
 refine Kgq ?_
 refine wp_cond_false (F.ev rfl) ?_
 refine Kgr ?_
 refine lxv (.int .i64 0) F (Je rfl) fun a F=>?_
 refine Jc ?_
 refine Kgq ?_
 refine wp_loop (fun a w=>∃ i:Nat,i≤n∧(xs.take i).Nodup∧Fr a 36 [(5,.int .i64 (i:Nat)),(1,.slice pa n cap)] []∧Mem w0.heap.size w0 w [(gg,26,gcs P Q G H)]) (fun a _=>n-(intOf (a.tmps.getD 5 undef)).toNat) ⟨0,Nat.zero_le _,by simp,F.sub [5,1],HM⟩ ?_
 clear F HM
 rintro aS wS ⟨i,hi,HN,FS,HM⟩
 have F:=FS
 by_cases hlt:i<n
 ·refine Kgr ?_
  refine lxv (.int .i64 (i:Nat)) F (Jb (F.ev rfl)) fun a F=>?_
  refine lxv (.slice pa n cap) F (Jb (F.ev rfl)) fun a F=>?_
  refine lxv (.int .i64 (n:Nat)) F (Ko (F.ev rfl)) fun a F=>?_
  refine lxv (.bool true) F (Jz (u:=.int .i64 (i:Nat)) (v:=.int .i64 (n:Nat)) (fun ρ hx hy=>by simp only [execOp,hx,hy];simp [go_sem];omega) (F.ev rfl) (F.ev rfl)) fun a F=>?_
  refine Jc ?_
  refine Kgq ?_
  refine wp_cond_true (F.ev rfl) ?_
  have hwr:=r.room hlt
  obtain ⟨gl,ol,hpa,hil,hxb,hc⟩:=r.get hlt
  have htk:xs.take (i+1)=xs.take i++[xs[i]]:=List.take_succ_eq_append_getElem hil
  have hgx:xs[i]? = some xs[i]:=List.getElem?_eq_getElem hil
  generalize xs[i]=x at *
  refine Kgr ?_
  refine lxv (.int .i64 0) F (Je rfl) fun a F=>?_
  refine Jc ?_
  refine Kgq ?_
  refine wp_loop (fun a w=>∃ j:Nat,j≤i∧(∀ m,m<j→xs[m]?≠some x)∧Fr a 36 [(6,.int .i64 (j:Nat)),(5,.int .i64 (i:Nat)),(1,.slice pa n cap)] []∧Mem w0.heap.size w0 w [(gg,26,gcs P Q G H)]) (fun a _=>i-(intOf (a.tmps.getD 6 undef)).toNat) ⟨0,Nat.zero_le _,fun m h=>absurd h (Nat.not_lt_zero _),F.sub [6,5,1],HM⟩ ?_
  clear F HM
  rintro aT wT ⟨j,hj,hne,FT,HM⟩
  have F:=FT
  by_cases hlj:j<i
  ·refine Kgr ?_
   refine lxv (.int .i64 (j:Nat)) F (Jb (F.ev rfl)) fun a F=>?_
   refine lxv (.int .i64 (i:Nat)) F (Jb (F.ev rfl)) fun a F=>?_
   refine lxv (.bool true) F (Jz (u:=.int .i64 (j:Nat)) (v:=.int .i64 (i:Nat)) (fun ρ hx hy=>by simp only [execOp,hx,hy];simp [go_sem];omega) (F.ev rfl) (F.ev rfl)) fun a F=>?_
   refine Jc ?_
   refine Kgq ?_
   refine wp_cond_true (F.ev rfl) ?_
   have hjn:j<n:=by omega
   have hwj:=r.room hjn
   obtain ⟨gm,om,hpb,hjl,hyb,hd⟩:=r.get hjn
   have hgy:xs[j]? = some xs[j]:=List.getElem?_eq_getElem hjl
   generalize xs[j]=y at *
   rcases hxy:decide (x=y) with _ | _
   ·refine Kgq ?_
    refine Kg (S:=fun w'=>Mem _ _ w' [(gg,26,gcs P Q G H)]) HM (fun _ h=>h) (by kernel_rfl) fun w HM HBW=>?_
    clear HBW
    try simp only [List.append_eq,List.cons_append,List.nil_append]
    refine Kt [⟨0,27,[],.val (.slice pa n cap),true⟩,
   ⟨1,28,[0],.val (.int .i64 (i:Nat)),true⟩,
   ⟨2,29,[0,1],.val (.pointer (some ⟨gl,ol+i*4,none⟩)),true⟩,
   ⟨3,30,[2],.val (num x),true⟩,
   ⟨4,31,[3],.val (.slice pa n cap),true⟩,
   ⟨5,32,[4],.val (.int .i64 (j:Nat)),true⟩,
   ⟨6,33,[4,5],.val (.pointer (some ⟨gm,om+j*4,none⟩)),true⟩,
   ⟨7,34,[6],.val (num y),true⟩,
   ⟨8,35,[3,7],.val (.bool false),true⟩] 0 _ F HM (fun _ h=>h.subl (by first | exact List.Sublist.refl _ | (repeat (first | exact List.Sublist.refl _ | refine List.Sublist.cons_cons _ ?_ | refine List.Sublist.cons _ ?_)))) (by kernel_rfl) (by rfl) ?_ ?_ ?_ ?_ ?_ ?_ ?_
    ·kernel_rfl
    ·exact of_decide_eq_true (by kernel_rfl)
    ·(repeat refine all_cons ⟨_,by rfl,by rfl⟩ ?_);exact all_nil
    ·kernel_rfl
    ·(repeat (refine all_cons ?_ ?_;rotate_left));exact all_nil
     ·exact Wt _ _ _ _ _ _ _ (by rfl) (by rfl) Jg (fun ρ w kn hs=>Jb (kn _ _ (F.old (by rfl) rfl)))
     ·exact Wt _ _ _ _ _ _ _ (by rfl) (by rfl) Jg (fun ρ w kn hs=>Jb (kn _ _ (F.old (by rfl) rfl)))
     ·exact crS (fun ρ w kn hs=>Kv hlt (by rw [← hpa];exact (kn _ _ (kc 0 27))) (kn _ _ (kc 1 28)))
     ·exact crS (fun ρ w kn hs=>Kh (kn _ _ (kc 2 29)) (hc _ hs.bel))
     ·exact Wt _ _ _ _ _ _ _ (by rfl) (by rfl) Jg (fun ρ w kn hs=>Jb (kn _ _ (F.old (by rfl) rfl)))
     ·exact Wt _ _ _ _ _ _ _ (by rfl) (by rfl) Jg (fun ρ w kn hs=>Jb (kn _ _ (F.old (by rfl) rfl)))
     ·exact crS (fun ρ w kn hs=>Kv hjn (by rw [← hpb];exact (kn _ _ (kc 4 31))) (kn _ _ (kc 5 32)))
     ·exact crS (fun ρ w kn hs=>Kh (kn _ _ (kc 6 33)) (hd _ hs.bel))
     ·exact crS (fun ρ w kn hs=>Jcd hxb hyb hxy (kn _ _ (kc 3 30)) (kn _ _ (kc 7 34)))
    ·(repeat (refine all_cons ?_ ?_;rotate_left));exact all_nil
     all_goals try exact sA
    intro gs rs a w hgs hrs F HM HBW HR HO HT
    obtain rfl:=nl0 rs hrs
    obtain rfl:=nl0 gs hgs
    clear hrs hgs HR HBW HO
    clear HT
    refine Ks (by kernel_rfl) ?_ _
    refine Kgq ?_
    refine wp_cond_false (F.ev rfl) ?_
    refine Kgr ?_
    refine lxv (.int .i64 (j:Nat)) F (Jb (F.ev rfl)) fun a F=>?_
    refine lxv (.int .i64 ((j+1:Nat):Int)) F (Jz (u:=.int .i64 (j:Nat)) (v:=.int .i64 1) (fun ρ hx hy=>by simp only [execOp,hx,hy];simp [go_sem,hwj]) (F.ev rfl) rfl) fun a F=>?_
    refine lxv (.int .i64 ((j+1:Nat):Int)) F (Je (F.ev rfl)) fun a F=>?_
    refine Jc ?_
    refine Ku ?_
    refine ⟨⟨j+1,by omega,fun m hm=>?_,F.sub [6,5,1],HM⟩,?_⟩
    ·by_cases e:m=j
     ·subst e;rw [hgy];exact fun h=>(of_decide_eq_false hxy) (Option.some.inj h).symm
     ·exact hne m (by omega)
    ·show i-(intOf (a.tmps.getD 6 undef)).toNat<i-(intOf (aT.tmps.getD 6 undef)).toNat
     rw [F.get 6 _ rfl,FT.get 6 _ rfl]
     show i-((j+1:Nat):Int).toNat<i-((j:Nat):Int).toNat
     omega
   ·refine Kgq ?_
    refine Kg (S:=fun w'=>Mem _ _ w' [(gg,26,gcs P Q G H)]) HM (fun _ h=>h) (by kernel_rfl) fun w HM HBW=>?_
    clear HBW
    try simp only [List.append_eq,List.cons_append,List.nil_append]
    refine Kt [⟨0,27,[],.val (.slice pa n cap),true⟩,
   ⟨1,28,[0],.val (.int .i64 (i:Nat)),true⟩,
   ⟨2,29,[0,1],.val (.pointer (some ⟨gl,ol+i*4,none⟩)),true⟩,
   ⟨3,30,[2],.val (num x),true⟩,
   ⟨4,31,[3],.val (.slice pa n cap),true⟩,
   ⟨5,32,[4],.val (.int .i64 (j:Nat)),true⟩,
   ⟨6,33,[4,5],.val (.pointer (some ⟨gm,om+j*4,none⟩)),true⟩,
   ⟨7,34,[6],.val (num y),true⟩,
   ⟨8,35,[3,7],.val (.bool true),true⟩] 0 _ F HM (fun _ h=>h.subl (by first | exact List.Sublist.refl _ | (repeat (first | exact List.Sublist.refl _ | refine List.Sublist.cons_cons _ ?_ | refine List.Sublist.cons _ ?_)))) (by kernel_rfl) (by rfl) ?_ ?_ ?_ ?_ ?_ ?_ ?_
    ·kernel_rfl
    ·exact of_decide_eq_true (by kernel_rfl)
    ·(repeat refine all_cons ⟨_,by rfl,by rfl⟩ ?_);exact all_nil
    ·kernel_rfl
    ·(repeat (refine all_cons ?_ ?_;rotate_left));exact all_nil
     ·exact Wt _ _ _ _ _ _ _ (by rfl) (by rfl) Jg (fun ρ w kn hs=>Jb (kn _ _ (F.old (by rfl) rfl)))
     ·exact Wt _ _ _ _ _ _ _ (by rfl) (by rfl) Jg (fun ρ w kn hs=>Jb (kn _ _ (F.old (by rfl) rfl)))
     ·exact crS (fun ρ w kn hs=>Kv hlt (by rw [← hpa];exact (kn _ _ (kc 0 27))) (kn _ _ (kc 1 28)))
     ·exact crS (fun ρ w kn hs=>Kh (kn _ _ (kc 2 29)) (hc _ hs.bel))
     ·exact Wt _ _ _ _ _ _ _ (by rfl) (by rfl) Jg (fun ρ w kn hs=>Jb (kn _ _ (F.old (by rfl) rfl)))
     ·exact Wt _ _ _ _ _ _ _ (by rfl) (by rfl) Jg (fun ρ w kn hs=>Jb (kn _ _ (F.old (by rfl) rfl)))
     ·exact crS (fun ρ w kn hs=>Kv hjn (by rw [← hpb];exact (kn _ _ (kc 4 31))) (kn _ _ (kc 5 32)))
     ·exact crS (fun ρ w kn hs=>Kh (kn _ _ (kc 6 33)) (hd _ hs.bel))
     ·exact crS (fun ρ w kn hs=>Jcd hxb hyb hxy (kn _ _ (kc 3 30)) (kn _ _ (kc 7 34)))
    ·(repeat (refine all_cons ?_ ?_;rotate_left));exact all_nil
     all_goals try exact sA
    intro gs rs a w hgs hrs F HM HBW HR HO HT
    obtain rfl:=nl0 rs hrs
    obtain rfl:=nl0 gs hgs
    clear hrs hgs HR HBW HO
    clear HT
    refine Ks (by kernel_rfl) ?_ _
    refine Kgq ?_
    refine wp_cond_true (F.ev rfl) ?_
    refine Kgr ?_
    refine lxv (.bool false) F (Je rfl) fun a F=>?_
    refine Jc ?_
    have hV:decide xs.Nodup=false:=decide_eq_false fun hnd=>by
     obtain ⟨h1,h2⟩:=List.getElem?_eq_some_iff.1 hgx
     obtain ⟨h3,h4⟩:=List.getElem?_eq_some_iff.1 hgy
     exact List.pairwise_iff_getElem.1 hnd j i h3 h1 hlj (h4.trans ((of_decide_eq_true hxy).symm.trans h2.symm))
    rw [hV]
    refine Kgq ?_
    refine wp_ret ?_
    repeat (first | refine Jt ?_ | refine Jo ?_)
    exact Kp F HM (Ua F rfl (s:=4) rfl)
  ·refine Kgr ?_
   refine lxv (.int .i64 (j:Nat)) F (Jb (F.ev rfl)) fun a F=>?_
   refine lxv (.int .i64 (i:Nat)) F (Jb (F.ev rfl)) fun a F=>?_
   refine lxv (.bool false) F (Jz (u:=.int .i64 (j:Nat)) (v:=.int .i64 (i:Nat)) (fun ρ hx hy=>by simp only [execOp,hx,hy];simp [go_sem];omega) (F.ev rfl) (F.ev rfl)) fun a F=>?_
   refine Jc ?_
   refine Kgq ?_
   refine wp_cond_false (F.ev rfl) ?_
   refine Kgq ?_
   refine wp_exit ?_
   repeat (first | refine Kk ?_ | refine Kd ?_)
   refine Kgr ?_
   refine lxv (.int .i64 (i:Nat)) F (Jb (F.ev rfl)) fun a F=>?_
   refine lxv (.int .i64 ((i+1:Nat):Int)) F (Jz (u:=.int .i64 (i:Nat)) (v:=.int .i64 1) (fun ρ hx hy=>by simp only [execOp,hx,hy];simp [go_sem,hwr]) (F.ev rfl) rfl) fun a F=>?_
   refine lxv (.int .i64 ((i+1:Nat):Int)) F (Je (F.ev rfl)) fun a F=>?_
   refine Jc ?_
   refine Ku ?_
   refine ⟨⟨i+1,by omega,?_,F.sub [5,1],HM⟩,?_⟩
   ·rw [htk,List.nodup_append]
    refine ⟨HN,by simp,fun u hu v hv e=>?_⟩
    rw [List.mem_singleton.1 hv] at e
    obtain ⟨m,hm,rfl⟩:=List.getElem_of_mem hu
    rw [List.length_take] at hm
    rw [List.getElem_take] at e
    exact hne m (by omega) (e ▸ List.getElem?_eq_getElem (by omega))
   ·show n-(intOf (a.tmps.getD 5 undef)).toNat<n-(intOf (aS.tmps.getD 5 undef)).toNat
    rw [F.get 5 _ rfl,FS.get 5 _ rfl]
    show n-((i+1:Nat):Int).toNat<n-((i:Nat):Int).toNat
    omega
 ·refine Kgr ?_
  refine lxv (.int .i64 (i:Nat)) F (Jb (F.ev rfl)) fun a F=>?_
  refine lxv (.slice pa n cap) F (Jb (F.ev rfl)) fun a F=>?_
  refine lxv (.int .i64 (n:Nat)) F (Ko (F.ev rfl)) fun a F=>?_
  refine lxv (.bool false) F (Jz (u:=.int .i64 (i:Nat)) (v:=.int .i64 (n:Nat)) (fun ρ hx hy=>by simp only [execOp,hx,hy];simp [go_sem];omega) (F.ev rfl) (F.ev rfl)) fun a F=>?_
  refine Jc ?_
  refine Kgq ?_
  refine wp_cond_false (F.ev rfl) ?_
  refine Kgq ?_
  refine wp_exit ?_
  repeat (first | refine Kk ?_ | refine Kd ?_)
  have hV:decide xs.Nodup=true:=decide_eq_true (by rw [List.take_of_length_le (by have:=r.1;omega)] at HN;exact HN)
  refine Kgr ?_
  refine lxv (.bool true) F (Je rfl) fun a F=>?_
  refine Jc ?_
  rw [hV]
  refine Kgq ?_
  refine wp_ret ?_
  repeat (first | refine Jt ?_ | refine Jo ?_)
  exact Kp F HM (Ua F rfl (s:=4) rfl)

theorem Xf {b:Bool} (P Q G H n cap:Nat) (pa:Option Addr) (xs:List Nat) (w0:World) (hQ:Q<2^256) (r:RN w0.heap.size w0 pa n cap xs) (hb:Jbr Q xs=b):Calls Tryz.prog 107 #[grp P Q G H,.slice pa n cap] w0 fun e w'=>e=.returned (.bool b)∧Below w0.heap.size w0 w':=by
 subst hb
 by_cases hn:n=0
 ·have hx:xs=[]:=List.length_eq_zero_iff.1 (r.1.trans hn)
  have e:Jbr Q xs=false:=by rw [hx];rfl
  rw [e];exact rpts_0 P Q G H n cap pa xs w0 hQ r hn
 have hx:xs≠[]:=fun e=>hn (by rw [← r.1,e];rfl)
 by_cases ha:(decide (1<Q) && Vz Q xs)=true
 ·have e:Jbr Q xs=decide xs.Nodup:=by
   rw [Bool.and_eq_true] at ha
   unfold Jbr;rw [decide_eq_true hx,ha.2];simp
  rw [e];exact rpts_y P Q G H n cap pa xs w0 hQ r hn ha
 ·have e:Jbr Q xs=false:=by
   refine Bool.eq_false_iff.2 fun h=>ha ?_
   have h3:=(ptsB_iff.1 h).2.2
   obtain ⟨x,hm⟩:=List.exists_mem_of_ne_nil _ hx
   rw [h3,decide_eq_true (Jee h3 x hm).1];rfl
  rw [e];exact rpts_n P Q G H n cap pa xs w0 hQ r hn (Bool.eq_false_iff.2 ha)
end Go.Proofs.YtmmgmljkmmgjdaaGreatDoor
