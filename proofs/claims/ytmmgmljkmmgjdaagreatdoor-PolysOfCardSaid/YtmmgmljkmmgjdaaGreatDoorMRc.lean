import Derived.Deep.Cut
import Derived.Test.YtmmgmljkmmgjdaaGreatDoorMP8
import Derived.Test.YtmmgmljkmmgjdaaGreatDoorMRb
import Derived.Test.YtmmgmljkmmgjdaaGreatDoorMTree
namespace Go.Proofs.YtmmgmljkmmgjdaaGreatDoor
set_option maxRecDepth 100000
open Go.RowKit
set_option linter.unusedSimpArgs false
set_option linter.unusedVariables false
attribute [local go_sem ↓] Go.wp_at_zero Go.wp_at_succ

theorem r9inv_some (P Q G H A:Nat) (hQ:Q<2^256) (h1:1<Q) (hA:A<Q) (hg:Nat.gcd A Q=1):∃ V,V<Q∧A*V%Q=1∧∀ w,Calls Tryz.prog 168 #[grp P Q G H,num A] w fun e w'=>e=.returned (.tuple #[num V,.int .i64 0])∧Below w.heap.size w w':=by
 have hA2:A<2^256:=Nat.lt_trans hA hQ
 have hm:∀ w,Calls Tryz.prog 185 #[num A,num A,num Q] w fun e w'=>e=.returned (.bool true)∧Below w.heap.size w w':=fun w=>by
  have:=Jdi A A Q hA2 hA2 hQ w
  rw [show decide (1<Q∧A<Q∧A<Q)=true from decide_eq_true ⟨h1,hA,hA⟩] at this
  exact this
 have CO:=fun w=>Xg 1 (by decide) w
 have CC:=fun w=>rcom_any A Q hA2 hQ w
 obtain ⟨V,hV,hAV⟩:=Jfj A Q h1 hg
 rw [hg] at CC
 exact ⟨V,hV,hAV,fun w=>r9_inv P Q G H A V 0 (fun w=>ri_some A Q V hA h1 hQ hg hV hAV hm CC CO w) w⟩
theorem r9inv_none (P Q G H A:Nat) (hQ:Q<2^256) (h1:1<Q) (hA:A<Q) (hg:Nat.gcd A Q≠1):∀ w,Calls Tryz.prog 168 #[grp P Q G H,num A] w fun e w'=>e=.returned (.tuple #[num 0,.int .i64 7])∧Below w.heap.size w w':=by
 have hA2:A<2^256:=Nat.lt_trans hA hQ
 have hm:∀ w,Calls Tryz.prog 185 #[num A,num A,num Q] w fun e w'=>e=.returned (.bool true)∧Below w.heap.size w w':=fun w=>by
  have:=Jdi A A Q hA2 hA2 hQ w
  rw [show decide (1<Q∧A<Q∧A<Q)=true from decide_eq_true ⟨h1,hA,hA⟩] at this
  exact this
 have CO:=fun w=>Xg 1 (by decide) w
 have CC:=fun w=>rcom_any A Q hA2 hQ w
 have hgl:Nat.gcd A Q<2^256:=Nat.lt_of_le_of_lt (Nat.gcd_le_right _ (by omega)) hQ
 refine fun w=>r9_inv P Q G H A 0 7 (fun w=>?_) w
 have:=ri_none A Q _ hm CC CO (fun w=>by rw [eqN _ 1 hgl (by decide)];simp [hg]) w
 rwa [← num_zero] at this
theorem cg_less {Q x y:Nat} (h1:1<Q) (hx:x<Q) (hy:y<Q):Cg Q (((x+Q-y)%Q:Nat):Int) ((x:Int)-(y:Int)):=by
 have h:=Jep h1 (x:Int) (y:Int)
 rw [Vq hx h1,Vq hy h1] at h
 rw [h];exact Xs h1 _
theorem cg_prod {Q a b:Nat}:Cg Q ((a*b%Q:Nat):Int) ((a:Int)*(b:Int)):=by rw [Int.natCast_emod,Int.natCast_mul];exact Cg.emod Q _
theorem under_step {Q V V2 D:Nat} {p d:Int} (hV:Cg Q ((V:Int)*p) 1) (h2:D*V2%Q=1) (hD:Cg Q (D:Int) d):Cg Q (((V*V2%Q:Nat):Int)*(p*d)) 1:=by
 have e2:Cg Q ((D:Int)*(V2:Int)) 1:=cg_prod.symm.trans (Cg.of_eq (by rw [h2];rfl))
 have e3:Cg Q ((V2:Int)*d) 1:=((Cg.refl Q (V2:Int)).mul hD.symm).trans ((Cg.of_eq (Int.mul_comm _ _)).trans e2)
 refine (cg_prod.mul (Cg.refl Q (p*d))).trans ((Cg.of_eq ?_).trans ((hV.mul e3).trans (Cg.of_eq (by simp))))
 grind
theorem res_NB {fn:Func} {a:Act} {N:Nat} {L:List (Nat × Value)} {df:List Deferred} {w:World} (F:Fr a N L df) {s t gs X:Nat} {e:Bool} (hf:fn.results=#[.cell s 24,.tmp t]) (h1:lk L s=some (.pointer (some ⟨gs,0,none⟩))) (h2:lk L t=some (.bool e))
  (A1:At w gs 24 (ncs X)):(results fn a.tmps).run Tryz.prog w=.ok (.tuple #[num X,.bool e]) w:=by
 have e1:=F.get s _ h1
 have e2:=F.get t _ h2
 rw [Array.getD_eq_getD_getElem?] at e1 e2
 have c0:w.cell? ⟨gs,0,none⟩=some (.int .u64 (wd X 0)):=A1.cell 0
 have c1:w.cell? ⟨gs,1,none⟩=some (.int .u64 (wd X 1)):=A1.cell 1
 have c2:w.cell? ⟨gs,2,none⟩=some (.int .u64 (wd X 2)):=A1.cell 2
 have c3:w.cell? ⟨gs,3,none⟩=some (.int .u64 (wd X 3)):=A1.cell 3
 simp [results,hf,go_sem,e1,e2,c0,c1,c2,c3]
set_option maxRecDepth 100000 in
set_option maxHeartbeats 800000 in
theorem runder_any (P Q G H n cap i x:Nat) (pa:Option Addr) (xs:List Nat) (w0:World) (hQ:Q<2^256) (h1:1<Q) (hxs:∀ x∈xs,x<Q) (hx:xs[i]? = some x) (r:RN w0.heap.size w0 pa n cap xs):Calls Tryz.prog 108 #[grp P Q G H,.slice pa n cap,.int .i64 (i:Nat)] w0 fun e w'=>∃ u,e=.returned u∧Below w0.heap.size w0 w'∧∃ (V:Nat) (b:Bool),u=.tuple #[num V,.bool b]∧V<Q∧(b=true→Cg Q ((V:Int)*oth Q xs (x:Int) i) 1)∧(b=false→¬ U Q (oth Q xs (x:Int) i)):=by
 refine Jx (args:=[grp P Q G H,.slice pa n cap,.int .i64 (i:Nat)]) Tryz.func108 rfl Tryz.ntmps108 (by rfl) fun a F HM=>?_
 refine Kgr ?_
 refine Jn F HM (Ja rfl _) rfl (by rfl) (Km (F.ev rfl)) fun a w gg F HM=>?_
 refine Jn F HM (Ja rfl _) rfl (by rfl) (Jw) fun a w go F HM=>?_
 refine lxv (.bool false) F (Je rfl) fun a F=>?_
 refine Jc ?_
 obtain ⟨V0,hV0,hV1⟩:∃ V0,V0=Uq Q 1∧V0=1:=⟨_,rfl,Jfy h1⟩
 have hof:∀ w,Calls Tryz.prog 38 #[grp P Q G H,.int .i64 1] w fun e w'=>e=.returned (num V0)∧Below w.heap.size w w':=fun w=>by rw [hV0];exact rof9_any P Q G H 1 hQ (by decide) (by decide) w
 have hin:i<n:=by rw [← r.1];exact (List.getElem?_eq_some_iff.1 hx).1
 have hxQ:=hxs x (List.mem_of_getElem? hx)
 refine Kgr ?_
 refine lxv (grp P Q G H) F (Js (F.ev rfl) (HM.get 1 rfl)) fun a F=>?_
 refine Jj F (Ja rfl _) rfl (by rfl) (Jh Tryz.func38 (by kernel_rfl) (by rfl) (.cons (F.ev rfl) (.cons rfl .nil)) _) (hof _) fun a w z F=>?_
 replace HM:=HM.on z
 clear z
 refine Jn F HM (Ja rfl _) rfl (by rfl) (Jw) fun a w gv F HM=>?_
 refine Jv F HM (Ja rfl _) rfl (k:=0) rfl (Jq (F.ev rfl) (F.ev rfl) (HM.get 0 rfl)) (M2:=[(gv,24,ncs V0),(go,24,ncs 0),(gg,26,gcs P Q G H)]) (rfl) fun w HM=>?_
 refine Jc ?_
 refine Kgr ?_
 refine lxv (.int .i64 0) F (Je rfl) fun a F=>?_
 refine Jc ?_
 refine Kgq ?_
 refine wp_loop (fun a w=>∃ j V:Nat,j≤n∧V<Q∧Cg Q ((V:Int)*prZ (x:Int) ((zs (xs.take j)).eraseIdx i)) 1∧Fr a 46 [(9,.int .i64 (j:Nat)),(1,.slice pa n cap),(2,.int .i64 (i:Nat)),(3,.pointer (some ⟨gg,0,none⟩)),(6,.pointer (some ⟨go,0,none⟩)),(7,.bool false),(8,.pointer (some ⟨gv,0,none⟩))] []∧Mem w0.heap.size w0 w [(gv,24,ncs V),(go,24,ncs 0),(gg,26,gcs P Q G H)]) (fun a _=>n-(intOf (a.tmps.getD 9 undef)).toNat) ⟨0,V0,Nat.zero_le _,by rw [hV1];exact h1,by rw [hV1];exact Cg.of_eq (by simp [zs,prZ]),F.sub [9,1,2,3,6,7,8],HM⟩ ?_
 clear F HM hof hV0 hV1
 rintro aS wS ⟨j,V,hj,hVQ,hV,FS,HM⟩
 have F:=FS
 by_cases hlt:j<n
 ·refine Kgr ?_
  refine lxv (.int .i64 (j:Nat)) F (Jb (F.ev rfl)) fun a F=>?_
  refine lxv (.slice pa n cap) F (Jb (F.ev rfl)) fun a F=>?_
  refine lxv (.int .i64 (n:Nat)) F (Ko (F.ev rfl)) fun a F=>?_
  refine lxv (.bool true) F (Jz (u:=.int .i64 (j:Nat)) (v:=.int .i64 (n:Nat)) (fun ρ hx hy=>by simp only [execOp,hx,hy];simp [go_sem];omega) (F.ev rfl) (F.ev rfl)) fun a F=>?_
  refine Jc ?_
  refine Kgq ?_
  refine wp_cond_true (F.ev rfl) ?_
  have hwr:=r.room hlt
  obtain ⟨gl,ol,hpa,hjl,hyb,hc⟩:=r.get hlt
  have hst:=Jfg x xs i j hjl
  have hgy:xs[j]? = some xs[j]:=List.getElem?_eq_getElem hjl
  generalize xs[j]=y at *
  have hyQ:=hxs y (List.mem_of_getElem? hgy)
  by_cases hji:j=i
  ·refine Kgr ?_
   refine lxv (.int .i64 (j:Nat)) F (Jb (F.ev rfl)) fun a F=>?_
   refine lxv (.int .i64 (i:Nat)) F (Jb (F.ev rfl)) fun a F=>?_
   refine lxv (.bool false) F (Vn (b:=true) (decide_eq_true (by omega)) (F.ev rfl) (F.ev rfl) rfl) fun a F=>?_
   refine Jc ?_
   refine Kgq ?_
   refine wp_cond_false (F.ev rfl) ?_
   refine Kgr ?_
   refine lxv (.int .i64 (j:Nat)) F (Jb (F.ev rfl)) fun a F=>?_
   refine lxv (.int .i64 ((j+1:Nat):Int)) F (Jz (u:=.int .i64 (j:Nat)) (v:=.int .i64 1) (fun ρ hx hy=>by simp only [execOp,hx,hy];simp [go_sem,hwr]) (F.ev rfl) rfl) fun a F=>?_
   refine lxv (.int .i64 ((j+1:Nat):Int)) F (Je (F.ev rfl)) fun a F=>?_
   refine Jc ?_
   rw [if_pos hji] at hst
   refine Ku ?_
   refine ⟨⟨j+1,V,by omega,hVQ,by rw [hst];exact hV,F.sub [9,1,2,3,6,7,8],HM⟩,?_⟩
   ·show n-(intOf (a.tmps.getD 9 undef)).toNat<n-(intOf (aS.tmps.getD 9 undef)).toNat
    rw [F.get 9 _ rfl,FS.get 9 _ rfl]
    show n-((j+1:Nat):Int).toNat<n-((j:Nat):Int).toNat
    omega
  ·refine Kgr ?_
   refine lxv (.int .i64 (j:Nat)) F (Jb (F.ev rfl)) fun a F=>?_
   refine lxv (.int .i64 (i:Nat)) F (Jb (F.ev rfl)) fun a F=>?_
   refine lxv (.bool true) F (Vn (b:=false) (decide_eq_false (by omega)) (F.ev rfl) (F.ev rfl) rfl) fun a F=>?_
   refine Jc ?_
   refine Kgq ?_
   refine wp_cond_true (F.ev rfl) ?_
   rw [if_neg hji] at hst
   obtain ⟨gm,om,hpb,hil,hxb,hd⟩:=r.get hin
   have hgx:xs[i]=x:=by have:=List.getElem?_eq_getElem hil;rw [hx] at this;exact (Option.some.inj this).symm
   rw [hgx] at hd
   have hD:=cg_less h1 hxQ hyQ
   have hDQ:(x+Q-y)%Q<Q:=Nat.mod_lt _ (by omega)
   by_cases hgc:Nat.gcd ((x+Q-y)%Q) Q=1
   ·obtain ⟨V2,hV2,hDV,hiv⟩:=r9inv_some P Q G H _ hQ h1 hDQ hgc
    refine Kgq ?_
    refine Kg (S:=fun w'=>Mem _ _ w' [(gv,24,ncs V),(go,24,ncs 0),(gg,26,gcs P Q G H)]) HM (fun _ h=>h) (by kernel_rfl) fun w HM HBW=>?_
    clear HBW
    try simp only [List.append_eq,List.cons_append,List.nil_append]
    refine Kt [⟨0,24,[],.val (grp P Q G H),true⟩,
   ⟨1,25,[0],.val (grp P Q G H),true⟩,
   ⟨2,26,[1],.val (.slice pa n cap),true⟩,
   ⟨3,27,[2],.val (.int .i64 (i:Nat)),true⟩,
   ⟨4,28,[2,3],.val (.pointer (some ⟨gm,om+i*4,none⟩)),true⟩,
   ⟨5,29,[4],.val (num x),true⟩,
   ⟨6,30,[5],.val (.slice pa n cap),true⟩,
   ⟨7,31,[6],.val (.int .i64 (j:Nat)),true⟩,
   ⟨8,32,[6,7],.val (.pointer (some ⟨gl,ol+j*4,none⟩)),true⟩,
   ⟨9,33,[8],.val (num y),true⟩,
   ⟨15,10,[],.cell 24 (ncs 0),false⟩,
   ⟨10,34,[1,5,9],.val (num (((x+Q-y)%Q))),false⟩,
   ⟨11,35,[0,11],.val (.tuple #[num V2,.int .i64 0]),false⟩,
   ⟨12,23,[12],.val (.tuple #[num V2,.int .i64 0]),true⟩,
   ⟨13,36,[13],.val (num V2),true⟩,
   ⟨14,37,[13,14],.val (.int .i64 0),true⟩] 2 _ F HM (fun _ h=>h.subl (by first | exact List.Sublist.refl _ | (repeat (first | exact List.Sublist.refl _ | refine List.Sublist.cons_cons _ ?_ | refine List.Sublist.cons _ ?_)))) (by kernel_rfl) (by rfl) ?_ ?_ ?_ ?_ ?_ ?_ ?_
    ·kernel_rfl
    ·exact of_decide_eq_true (by kernel_rfl)
    ·(repeat refine all_cons ⟨_,by rfl,by rfl⟩ ?_);exact all_nil
    ·kernel_rfl
    ·(repeat (refine all_cons ?_ ?_;rotate_left));exact all_nil
     all_goals try exact Jm _ (by rfl)
     ·exact Wt _ _ _ _ _ _ _ (by rfl) (by rfl) Jg (fun ρ w kn hs=>Js (kn _ _ (F.old (by rfl) rfl)) (hs.get 2 rfl))
     ·exact Wt _ _ _ _ _ _ _ (by rfl) (by rfl) Jg (fun ρ w kn hs=>Js (kn _ _ (F.old (by rfl) rfl)) (hs.get 2 rfl))
     ·exact Wt _ _ _ _ _ _ _ (by rfl) (by rfl) Jg (fun ρ w kn hs=>Jb (kn _ _ (F.old (by rfl) rfl)))
     ·exact Wt _ _ _ _ _ _ _ (by rfl) (by rfl) Jg (fun ρ w kn hs=>Jb (kn _ _ (F.old (by rfl) rfl)))
     ·exact crS (fun ρ w kn hs=>Kv hin (by rw [← hpb];exact (kn _ _ (kc 2 26))) (kn _ _ (kc 3 27)))
     ·exact crS (fun ρ w kn hs=>Kh (kn _ _ (kc 4 28)) (hd _ hs.bel))
     ·exact Wt _ _ _ _ _ _ _ (by rfl) (by rfl) Jg (fun ρ w kn hs=>Jb (kn _ _ (F.old (by rfl) rfl)))
     ·exact Wt _ _ _ _ _ _ _ (by rfl) (by rfl) Jg (fun ρ w kn hs=>Jb (kn _ _ (F.old (by rfl) rfl)))
     ·exact crS (fun ρ w kn hs=>Kv hlt (by rw [← hpa];exact (kn _ _ (kc 6 30))) (kn _ _ (kc 7 31)))
     ·exact crS (fun ρ w kn hs=>Kh (kn _ _ (kc 8 32)) (hc _ hs.bel))
     ·exact crS (fun ρ w kn hs=>Jb (kn _ _ (kc 12 35)))
     ·exact crS (fun ρ w kn hs=>Jk (kn _ _ (kc 13 23)) rfl)
     ·exact crS (fun ρ w kn hs=>Jk (kn _ _ (kc 13 23)) rfl)
    ·(repeat (refine all_cons ?_ ?_;rotate_left));exact all_nil
     all_goals try exact sA
     ·exact fun _=>Uu _ _ _ _ _ _ _ _ (by rfl) (by rfl) (Nat.le_refl _) (fun ρ w=>Jw)
     ·exact fun _=>Jl _ 109 _ _ [.tmp 25,.tmp 29,.tmp 33] _ _ _ _ _ _ _ (by rfl) Tryz.func109 (by kernel_rfl) (by rfl) (by rfl) (Jg) (.cons (kc 1 25) (.cons (kc 5 29) (.cons (kc 9 33) .nil))) ((Jbw P Q G H x y hQ h1 hxQ hyQ))
     ·exact fun _=>Jl _ 168 _ _ [.tmp 24,.tmp 34] _ _ _ _ _ _ _ (by rfl) Tryz.func168 (by kernel_rfl) (by rfl) (by rfl) (Jg) (.cons (kc 0 24) (.cons (kc 11 34) .nil)) (hiv)
    intro gs rs a w hgs hrs F HM HBW HR HO HT
    obtain rfl:=nl0 rs hrs
    obtain ⟨gx,rfl⟩:=nl1 gs hgs
    clear hrs hgs HR HBW HO
    clear HT
    refine Kn (i:=16) HM (by kernel_rfl) (by rfl) rfl rfl (k:=0) rfl (Jq (F.ev rfl) (F.ev rfl) (HM.get 0 rfl)) (M2:=[(gx,24,ncs V2),(gv,24,ncs V),(go,24,ncs 0),(gg,26,gcs P Q G H)]) (rfl) (fun _ h=>h.subl (by first | exact List.Sublist.refl _ | (repeat (first | exact List.Sublist.refl _ | refine List.Sublist.cons_cons _ ?_ | refine List.Sublist.cons _ ?_)))) fun w HM=>?_
    refine Us (i:=17) (d:=11) (x:=.tmp 37) (v:=.int .i64 0) F ((HM.subl (by first | exact List.Sublist.refl _ | (repeat (first | exact List.Sublist.refl _ | refine List.Sublist.cons_cons _ ?_ | refine List.Sublist.cons _ ?_))))) (by kernel_rfl) (by rfl) (by rfl) (F.ev rfl) fun a F=>?_
    refine Ks (by kernel_rfl) ?_ _
    refine Kgr ?_
    refine lxv (.int .i64 0) F (Jb (F.ev rfl)) fun a F=>?_
    refine lxv (.bool false) F (Jz (u:=.int .i64 0) (v:=.int .i64 0) (fun ρ hx hy=>by simp only [execOp,hx,hy];simp [go_sem]) (F.ev rfl) rfl) fun a F=>?_
    refine Jc ?_
    refine Kgq ?_
    refine wp_cond_false (F.ev rfl) ?_
    refine Kgr ?_
    refine lxv (grp P Q G H) F (Js (F.ev rfl) (HM.get 3 rfl)) fun a F=>?_
    refine lxv (num V) F (Jp (F.ev rfl) (HM.get 1 rfl)) fun a F=>?_
    refine lxv (num V2) F (Jp (F.ev rfl) (HM.get 0 rfl)) fun a F=>?_
    refine Jj F (Ja rfl _) rfl (by rfl) (Jh Tryz.func106 (by kernel_rfl) (by rfl) (.cons (F.ev rfl) (.cons (F.ev rfl) (.cons (F.ev rfl) .nil))) _) ((Wk P Q G H V V2 hQ h1 hVQ hV2) _) fun a w z F=>?_
    replace HM:=HM.on z
    clear z
    refine Jv F HM (Ja rfl _) rfl (k:=1) rfl (Jq (F.ev rfl) (F.ev rfl) (HM.get 1 rfl)) (M2:=[(gx,24,ncs V2),(gv,24,ncs ((V*V2%Q))),(go,24,ncs 0),(gg,26,gcs P Q G H)]) (rfl) fun w HM=>?_
    refine Jc ?_
    replace HM:=HM.erase 0 (M2:=[(gv,24,ncs ((V*V2%Q))),(go,24,ncs 0),(gg,26,gcs P Q G H)]) rfl
    refine Kgr ?_
    refine lxv (.int .i64 (j:Nat)) F (Jb (F.ev rfl)) fun a F=>?_
    refine lxv (.int .i64 ((j+1:Nat):Int)) F (Jz (u:=.int .i64 (j:Nat)) (v:=.int .i64 1) (fun ρ hx hy=>by simp only [execOp,hx,hy];simp [go_sem,hwr]) (F.ev rfl) rfl) fun a F=>?_
    refine lxv (.int .i64 ((j+1:Nat):Int)) F (Je (F.ev rfl)) fun a F=>?_
    refine Jc ?_
    refine Ku ?_
    refine ⟨⟨j+1,V*V2%Q,by omega,Nat.mod_lt _ (by omega),by rw [hst];exact under_step hV hDV hD,F.sub [9,1,2,3,6,7,8],HM⟩,?_⟩
    ·show n-(intOf (a.tmps.getD 9 undef)).toNat<n-(intOf (aS.tmps.getD 9 undef)).toNat
     rw [F.get 9 _ rfl,FS.get 9 _ rfl]
     show n-((j+1:Nat):Int).toNat<n-((j:Nat):Int).toNat
     omega
   ·have hiv:=r9inv_none P Q G H _ hQ h1 hDQ hgc
    refine Kgq ?_
    refine Kg (S:=fun w'=>Mem _ _ w' [(gv,24,ncs V),(go,24,ncs 0),(gg,26,gcs P Q G H)]) HM (fun _ h=>h) (by kernel_rfl) fun w HM HBW=>?_
    clear HBW
    try simp only [List.append_eq,List.cons_append,List.nil_append]
    refine Kt [⟨0,24,[],.val (grp P Q G H),true⟩,
   ⟨1,25,[0],.val (grp P Q G H),true⟩,
   ⟨2,26,[1],.val (.slice pa n cap),true⟩,
   ⟨3,27,[2],.val (.int .i64 (i:Nat)),true⟩,
   ⟨4,28,[2,3],.val (.pointer (some ⟨gm,om+i*4,none⟩)),true⟩,
   ⟨5,29,[4],.val (num x),true⟩,
   ⟨6,30,[5],.val (.slice pa n cap),true⟩,
   ⟨7,31,[6],.val (.int .i64 (j:Nat)),true⟩,
   ⟨8,32,[6,7],.val (.pointer (some ⟨gl,ol+j*4,none⟩)),true⟩,
   ⟨9,33,[8],.val (num y),true⟩,
   ⟨15,10,[],.cell 24 (ncs 0),false⟩,
   ⟨10,34,[1,5,9],.val (num (((x+Q-y)%Q))),false⟩,
   ⟨11,35,[0,11],.val (.tuple #[num 0,.int .i64 7]),false⟩,
   ⟨12,23,[12],.val (.tuple #[num 0,.int .i64 7]),true⟩,
   ⟨13,36,[13],.val (num 0),true⟩,
   ⟨14,37,[13,14],.val (.int .i64 7),true⟩] 2 _ F HM (fun _ h=>h.subl (by first | exact List.Sublist.refl _ | (repeat (first | exact List.Sublist.refl _ | refine List.Sublist.cons_cons _ ?_ | refine List.Sublist.cons _ ?_)))) (by kernel_rfl) (by rfl) ?_ ?_ ?_ ?_ ?_ ?_ ?_
    ·kernel_rfl
    ·exact of_decide_eq_true (by kernel_rfl)
    ·(repeat refine all_cons ⟨_,by rfl,by rfl⟩ ?_);exact all_nil
    ·kernel_rfl
    ·(repeat (refine all_cons ?_ ?_;rotate_left));exact all_nil
     all_goals try exact Jm _ (by rfl)
     ·exact Wt _ _ _ _ _ _ _ (by rfl) (by rfl) Jg (fun ρ w kn hs=>Js (kn _ _ (F.old (by rfl) rfl)) (hs.get 2 rfl))
     ·exact Wt _ _ _ _ _ _ _ (by rfl) (by rfl) Jg (fun ρ w kn hs=>Js (kn _ _ (F.old (by rfl) rfl)) (hs.get 2 rfl))
     ·exact Wt _ _ _ _ _ _ _ (by rfl) (by rfl) Jg (fun ρ w kn hs=>Jb (kn _ _ (F.old (by rfl) rfl)))
     ·exact Wt _ _ _ _ _ _ _ (by rfl) (by rfl) Jg (fun ρ w kn hs=>Jb (kn _ _ (F.old (by rfl) rfl)))
     ·exact crS (fun ρ w kn hs=>Kv hin (by rw [← hpb];exact (kn _ _ (kc 2 26))) (kn _ _ (kc 3 27)))
     ·exact crS (fun ρ w kn hs=>Kh (kn _ _ (kc 4 28)) (hd _ hs.bel))
     ·exact Wt _ _ _ _ _ _ _ (by rfl) (by rfl) Jg (fun ρ w kn hs=>Jb (kn _ _ (F.old (by rfl) rfl)))
     ·exact Wt _ _ _ _ _ _ _ (by rfl) (by rfl) Jg (fun ρ w kn hs=>Jb (kn _ _ (F.old (by rfl) rfl)))
     ·exact crS (fun ρ w kn hs=>Kv hlt (by rw [← hpa];exact (kn _ _ (kc 6 30))) (kn _ _ (kc 7 31)))
     ·exact crS (fun ρ w kn hs=>Kh (kn _ _ (kc 8 32)) (hc _ hs.bel))
     ·exact crS (fun ρ w kn hs=>Jb (kn _ _ (kc 12 35)))
     ·exact crS (fun ρ w kn hs=>Jk (kn _ _ (kc 13 23)) rfl)
     ·exact crS (fun ρ w kn hs=>Jk (kn _ _ (kc 13 23)) rfl)
    ·(repeat (refine all_cons ?_ ?_;rotate_left));exact all_nil
     all_goals try exact sA
     ·exact fun _=>Uu _ _ _ _ _ _ _ _ (by rfl) (by rfl) (Nat.le_refl _) (fun ρ w=>Jw)
     ·exact fun _=>Jl _ 109 _ _ [.tmp 25,.tmp 29,.tmp 33] _ _ _ _ _ _ _ (by rfl) Tryz.func109 (by kernel_rfl) (by rfl) (by rfl) (Jg) (.cons (kc 1 25) (.cons (kc 5 29) (.cons (kc 9 33) .nil))) ((Jbw P Q G H x y hQ h1 hxQ hyQ))
     ·exact fun _=>Jl _ 168 _ _ [.tmp 24,.tmp 34] _ _ _ _ _ _ _ (by rfl) Tryz.func168 (by kernel_rfl) (by rfl) (by rfl) (Jg) (.cons (kc 0 24) (.cons (kc 11 34) .nil)) (hiv)
    intro gs rs a w hgs hrs F HM HBW HR HO HT
    obtain rfl:=nl0 rs hrs
    obtain ⟨gx,rfl⟩:=nl1 gs hgs
    clear hrs hgs HR HBW HO
    clear HT
    refine Kn (i:=16) HM (by kernel_rfl) (by rfl) rfl rfl (k:=0) rfl (Jq (F.ev rfl) (F.ev rfl) (HM.get 0 rfl)) (M2:=[(gx,24,ncs 0),(gv,24,ncs V),(go,24,ncs 0),(gg,26,gcs P Q G H)]) (rfl) (fun _ h=>h.subl (by first | exact List.Sublist.refl _ | (repeat (first | exact List.Sublist.refl _ | refine List.Sublist.cons_cons _ ?_ | refine List.Sublist.cons _ ?_)))) fun w HM=>?_
    refine Us (i:=17) (d:=11) (x:=.tmp 37) (v:=.int .i64 7) F ((HM.subl (by first | exact List.Sublist.refl _ | (repeat (first | exact List.Sublist.refl _ | refine List.Sublist.cons_cons _ ?_ | refine List.Sublist.cons _ ?_))))) (by kernel_rfl) (by rfl) (by rfl) (F.ev rfl) fun a F=>?_
    refine Ks (by kernel_rfl) ?_ _
    refine Kgr ?_
    refine lxv (.int .i64 7) F (Jb (F.ev rfl)) fun a F=>?_
    refine lxv (.bool true) F (Jz (u:=.int .i64 7) (v:=.int .i64 0) (fun ρ hx hy=>by simp only [execOp,hx,hy];simp [go_sem]) (F.ev rfl) rfl) fun a F=>?_
    refine Jc ?_
    refine Kgq ?_
    refine wp_cond_true (F.ev rfl) ?_
    refine Kgr ?_
    refine lxv (num 0) F (Uc) fun a F=>?_
    refine Jv F HM (Ja rfl _) rfl (k:=2) rfl (Jq (F.ev rfl) (F.ev rfl) (HM.get 2 rfl)) (M2:=[(gx,24,ncs 0),(gv,24,ncs V),(go,24,ncs 0),(gg,26,gcs P Q G H)]) (rfl) fun w HM=>?_
    refine lxv (.bool false) F (Je rfl) fun a F=>?_
    refine Jc ?_
    have hno:¬ U Q (oth Q xs (x:Int) i):=fun hu=>hgc (U.gcd h1 (U.cg hD.symm (Jdy hu (y:Int) (List.mem_eraseIdx_iff_getElem?.2 ⟨j,hji,by simp [zs,hgy]⟩))))
    refine Kgq ?_
    refine wp_ret ?_
    repeat (first | refine Jt ?_ | refine Jo ?_)
    exact bodyPost_ret (res_NB F (s:=6) (t:=7) rfl rfl rfl (HM.get 2 rfl)) F.defers ⟨_,rfl,HM.bel,_,_,rfl,Nat.lt_trans Nat.zero_lt_one h1,fun h=>absurd h (by decide),fun _=>hno⟩
 ·refine Kgr ?_
  refine lxv (.int .i64 (j:Nat)) F (Jb (F.ev rfl)) fun a F=>?_
  refine lxv (.slice pa n cap) F (Jb (F.ev rfl)) fun a F=>?_
  refine lxv (.int .i64 (n:Nat)) F (Ko (F.ev rfl)) fun a F=>?_
  refine lxv (.bool false) F (Jz (u:=.int .i64 (j:Nat)) (v:=.int .i64 (n:Nat)) (fun ρ hx hy=>by simp only [execOp,hx,hy];simp [go_sem];omega) (F.ev rfl) (F.ev rfl)) fun a F=>?_
  refine Jc ?_
  refine Kgq ?_
  refine wp_cond_false (F.ev rfl) ?_
  refine Kgq ?_
  refine wp_exit ?_
  repeat (first | refine Kk ?_ | refine Kd ?_)
  rw [List.take_of_length_le (by have:=r.1;omega)] at hV
  refine Kgr ?_
  refine lxv (num V) F (Jp (F.ev rfl) (HM.get 0 rfl)) fun a F=>?_
  refine Jv F HM (Ja rfl _) rfl (k:=1) rfl (Jq (F.ev rfl) (F.ev rfl) (HM.get 1 rfl)) (M2:=[(gv,24,ncs V),(go,24,ncs V),(gg,26,gcs P Q G H)]) (rfl) fun w HM=>?_
  refine lxv (.bool true) F (Je rfl) fun a F=>?_
  refine Jc ?_
  refine Kgq ?_
  refine wp_ret ?_
  repeat (first | refine Jt ?_ | refine Jo ?_)
  exact bodyPost_ret (res_NB F (s:=6) (t:=7) rfl rfl rfl (HM.get 1 rfl)) F.defers ⟨_,rfl,HM.bel,_,_,rfl,hVQ,fun _=>hV,fun h=>absurd h (by decide)⟩

end Go.Proofs.YtmmgmljkmmgjdaaGreatDoor
