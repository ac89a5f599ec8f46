import Derived.Test.YtcbnmdkmfdjpiaaPCell
import Derived.Test.YtcbnmdkmfdjpiaaPMod1
import Derived.Test.YtcbnmdkmfdjpiaaPModE
import Derived.Test.YtcbnmdkmfdjpiaaPShort
namespace Go.Proofs.Ytcbnmdkmfdjpiaa
set_option maxRecDepth 100000
set_option maxHeartbeats 8000000
open Go.RowKit
set_option linter.unusedSimpArgs false
set_option linter.unusedVariables false
attribute [local go_sem ↓] Go.wp_at_zero Go.wp_at_succ

theorem invodd_walk (M T:Nat) (hM:M<2^256) (ho:M%2=1) (hT:T<2^256) (hMT:M*T%2^256=1) (w:World):Calls Try.prog 91 #[num M] w fun e w'=>e=.returned (num T)∧Below w.heap.size w w':=by
 have HB:=Jgm hM;have HO:=Jgm ho;have HT:=Jgm hT;have HMT:=Jgm hMT
 have CT:=Vd 2 (by decide)
 have AT:=Jgm CT
 clear hM ho hT hMT CT
 go_enter Try.func91,Try.ntmps91
 go_wp2_with fail
 have BW:=Jgm (Below.refl w.heap.size w)
 generalize hW1:(((w.alloc (.cells (ncs M) 24)).alloc (.cells #[.int .u64 0,.int .u64 0,.int .u64 0,.int .u64 0] 24)).alloc (.cells (ncs M) 24))=W1 at *
 have Nm:At W1 (w.heap.size) _ _:=Jd hW1 (((At.at_ _ _ _ _ (by simp)).alloc _).alloc _)
 have No:At W1 (w.heap.size+1) _ _:=Jd hW1 ((At.at_ _ _ _ _ (by simp)).alloc _)
 have Eo:w.heap.size≤w.heap.size+1:=by have:=BW.out.size;omega
 have Dmo:w.heap.size≠w.heap.size+1:=by omega
 have Nx:At W1 (w.heap.size+1+1) _ _:=Jd hW1 (At.at_ _ _ _ _ (by simp))
 have Ex:w.heap.size≤w.heap.size+1+1:=by have:=BW.out.size;omega
 have Dmx:w.heap.size≠w.heap.size+1+1:=by omega
 have Dox:w.heap.size+1≠w.heap.size+1+1:=by omega
 have NB:=Ke hW1 (Jb (Jb (Jb BW.out _) _) _)
 clear BW
 clear hW1
 generalize w.heap.size+1+1=gx at *
 generalize w.heap.size+1=go at *
 obtain ⟨gm,hg0⟩:∃ g,g=w.heap.size:=⟨_,rfl⟩
 rw [← hg0] at Nm ⊢
 rw [← hg0] at Dmo Dmx
 clear hg0
 have Fm:=Jgm Nm
 have Fo:=Jgm No
 have Fx:=Jgm Nx
 have BW:=Jgm NB
 clear NB Nm No Nx
 go_loopw [4] (fun s wr=>∃ r X:Nat,s=.int .i64 (r:Nat)∧3≤r∧r<512∧Hid (At wr gm 24 (ncs M)∧At wr go 24 #[.int .u64 0,.int .u64 0,.int .u64 0,.int .u64 0]∧At wr gx 24 (ncs X)∧Below w.heap.size w wr∧X<2^256∧M*X%2^(min r 256)=1)) (fun s _=>512-(intOf s).toNat)
 case atStart=>
  exact ⟨3,M,rfl,by omega,by omega,Fm.out,Fo.out,Fx.out,BW.out,HB.out,newt_first M HO.out⟩
 case round=>
  obtain ⟨r,X,rfl,h3,h512,hM⟩:=hrel
  clear BW Fm Fo Fx
  have Fm:=Jgm hM.out.1;have Fo:=Jgm hM.out.2.1;have Fx:=Jgm hM.out.2.2.1;have BW:=Jgm hM.out.2.2.2.1;have HX:=Jgm hM.out.2.2.2.2.1;have HI:=Jgm hM.out.2.2.2.2.2
  clear hM
  by_cases hlt:r<256
  ·have hz:(r:Int)<256:=by omega
   obtain ⟨p,l,hp,hl,e1,C1⟩:=Jcu M X HB.out HX.out
   obtain ⟨S,c,hS,hc,e2,C2⟩:=Jdx 2 p (by decide) hp
   obtain ⟨X2,h,hX2,hh,e3,C3⟩:=Jcu X S HX.out hS
   have HR:=Jgm (newt_round M X p S X2 l c h r h3 HI.out hlt e1 e2 e3)
   have HX2:=Jgm hX2
   have A1:=Jgm C1;have A2:=Jgm C2;have A3:=Jgm C3
   have gw:IntKind.i64.wrap ((r:Int)*2)=((r*2:Nat):Int):=by rw [IntKind.wrap_i64];omega
   clear e1 e2 e3 C1 C2 C3 hX2 hp hl hS hc hh HI HX
   have Lm:=Fm.out.lt
   obtain ⟨cm0,cm1,cm2,cm3⟩:=Ku Fm.out
   have Lx:=Fx.out.lt
   obtain ⟨cx0,cx1,cx2,cx3⟩:=Ku Fx.out
   go_wp2_with fail
   clear Lm cm0 cm1 cm2 cm3 Lx cx0 cx1 cx2 cx3
   refine (A1.out _).mono ?_
   rintro e v2 ⟨rfl,z2⟩
   have Nm:=Jgm (Fm.out.on z2)
   have No:=Jgm (Fo.out.on z2)
   have Nx:=Jgm (Fx.out.on z2)
   have NB:=Jgm (Jw BW.out z2)
   clear BW z2 Fm Fo Fx
   have Fm:=Nm
   have Fo:=No
   have Fx:=Nx
   have BW:=NB
   clear NB Nm No Nx
   go_wp2_with fail
   generalize hW3:((v2.alloc (.cells (ncs p) 24)).alloc (.cells (ncs l) 24))=W3 at *
   have Np:At W3 (v2.heap.size) _ _:=Jd hW3 ((At.at_ _ _ _ _ (by simp)).alloc _)
   have Dop:go≠v2.heap.size:=by have:=Fo.out.lt;omega
   have Dxp:gx≠v2.heap.size:=by have:=Fx.out.lt;omega
   have Nl:At W3 (v2.heap.size+1) _ _:=Jd hW3 (At.at_ _ _ _ _ (by simp))
   have Dol:go≠v2.heap.size+1:=by have:=Fo.out.lt;omega
   have Dxl:gx≠v2.heap.size+1:=by have:=Fx.out.lt;omega
   have Nm:=Jd hW3 ((Fm.out.alloc _).alloc _)
   have No:=Jd hW3 ((Fo.out.alloc _).alloc _)
   have Nx:=Jd hW3 ((Fx.out.alloc _).alloc _)
   have NB:=Ke hW3 (Jb (Jb BW.out _) _)
   clear BW Fm Fo Fx
   clear hW3
   generalize v2.heap.size+1=gl at *
   generalize v2.heap.size=gp at *
   have Fm:=Jgm Nm
   have Fo:=Jgm No
   have Fx:=Jgm Nx
   have Fp:=Jgm Np
   have Fl:=Jgm Nl
   have BW:=Jgm NB
   clear NB Nm No Nx Np Nl
   try simp only [List.append_eq,List.cons_append,List.nil_append]
   refine wp_region_noPanic ?_
   refine wp_region_held_drew (S:=fun w'=>True) (by kernel_rfl) (trivial) (fun _=>?_)
   refine Kf (fuel:=2) (⟨0,21,[],Kind.val (.agg #[.int .u64 (wd 2 0),.int .u64 (wd 2 1),.int .u64 (wd 2 2),.int .u64 (wd 2 3)]),false⟩::⟨1,22,[],Kind.val (num p),false⟩::⟨2,23,[0,1],Kind.val (.tuple #[num S,.int .u64 (c:Nat)]),false⟩::⟨3,20,[2],Kind.val (.tuple #[num S,.int .u64 (c:Nat)]),true⟩::⟨4,24,[3],Kind.val (num S),true⟩::⟨5,25,[3],Kind.val (.int .u64 (c:Nat)),true⟩::⟨6,7,[],Kind.cell W3.heap.size 24 #[.int .u64 0,.int .u64 0,.int .u64 0,.int .u64 0],false⟩::[]) _ _ W3 _ ?_ ?_ ?_ ?_ ?_ ?_ ?_ ?_ ?_ ?_ ?_
   ·rfl
   ·kernel_rfl
   ·exact of_decide_eq_true rfl
   ·(repeat refine all_cons ⟨_,rfl,rfl⟩ ?_);exact Jj
   ·exact fun _ hb=>trivial
   ·exact (Below.refl _ _).drew
   ·kernel_rfl
   ·exact fun _ _ _ _ _ h=>h
   ·(repeat (refine all_cons ?_ ?_;rotate_left));exact Jj
    all_goals try exact Jq _ (by rfl)
    ·exact Xi _ _ _ _ _ _ (by rfl) (by rfl) (kc 2 23)
    ·exact Uo _ _ 0 _ _ _ _ _ (by rfl) (by rfl) (kc 3 20) (by rfl)
    ·exact Uo _ _ 1 _ _ _ _ _ (by rfl) (by rfl) (kc 3 20) (by rfl)
   ·(repeat (refine all_cons ?_ ?_;rotate_left));exact Jj
    all_goals try exact sA
    ·exact fun _=>Um _ 23 _ _ [.const (.int .u64 2)] _ _ _ _ _ _ (by rfl) Try.func23 (by kernel_rfl) (by rfl) (by rfl) (.cons (Je _) .nil) (AT.out)
    ·exact fun _=>Uv _ _ _ _ _ gp _ _ _ _ (by rfl) (by rfl) (ko 5) Fp.out
    ·exact fun _=>Um _ 65 _ _ [.tmp 21,.tmp 22] _ _ _ _ _ _ (by rfl) Try.func65 (by kernel_rfl) (by rfl) (by rfl) (.cons (kc 0 21) (.cons (kc 1 22) .nil)) (A2.out)
    ·exact fun _=>Wk _ _ _ _ _ (by rfl) (by rfl) (Nat.le_refl _)
   intro vs y4 hc
   obtain ⟨vv0,vv1,vv2,vv3,vv4,vv5,vv6,rfl⟩:=Jgi vs hc.lv
   have qq0:=okv hc 0
   have qq1:=okv hc 1
   have qq2:=okv hc 2
   have qq3:=okv hc 3
   have qq4:=okv hc 4
   have qq5:=okv hc 5
   obtain ⟨xx,hx,gs,hv,Es,As⟩:=hc.ok 6 _ rfl rfl
   have qq6:vv6=.pointer (some ⟨gs,0,none⟩):=(Option.some.inj (show some vv6=some xx from hx)).trans hv
   clear hx hv
   have BZ:=hc.bel
   clear hc
   have Nm:=Fm.out.on BZ
   have No:=Fo.out.on BZ
   have Nx:=Fx.out.on BZ
   have Np:=Fp.out.on BZ
   have Nl:=Fl.out.on BZ
   have Dms:gm≠gs:=by have:=Fm.out.lt;omega
   have Dos:go≠gs:=by have:=Fo.out.lt;omega
   have Dxs:gx≠gs:=by have:=Fx.out.lt;omega
   have Dps:gp≠gs:=by have:=Fp.out.lt;omega
   have Dls:gl≠gs:=by have:=Fl.out.lt;omega
   have HSZ4:=BW.out.size
   have NB:=Jw BW.out BZ
   clear BW BZ Fm Fo Fx Fp Fl
   subst qq0 qq1 qq2 qq3 qq4 qq5 qq6
   simp only [List.map_cons,List.map_nil,over,Act.put,List.setIfInBounds_toArray,List.set_cons_zero,List.set_cons_succ]
   have OLD:=As
   replace Nm:=p4f Nm Dms S
   replace No:=p4f No Dos S
   replace Nx:=p4f Nx Dxs S
   replace Np:=p4f Np Dps S
   replace Nl:=p4f Nl Dls S
   replace As:=p4a As S
   replace NB:=Uz NB (Nat.le_trans HSZ4 Es) (.int .u64 (wd S 0)) (.int .u64 (wd S 1)) (.int .u64 (wd S 2)) (.int .u64 (wd S 3))
   refine Uu (i:=7) _ _ _ _ _ gs _ _ _ _ _ _ _ _ (by kernel_rfl) (by rfl) (by rfl) (by rfl) OLD (trivial) ?_
   clear OLD
   generalize (put4 y4 gs (.int .u64 (wd S 0)) (.int .u64 (wd S 1)) (.int .u64 (wd S 2)) (.int .u64 (wd S 3)))=y4_7 at *
   refine Vn (i:=8) _ 8 _ _ _ _ (by kernel_rfl) (by rfl) (by rfl) (trivial) ?_
   try simp only [Act.put,List.setIfInBounds_toArray,List.set_cons_zero,List.set_cons_succ]
   refine wpAnyH_done (by kernel_rfl) ?_ _
   refine NoPanic.normal ?_
   have Fm:=Jgm Nm
   have Fo:=Jgm No
   have Fx:=Jgm Nx
   have Fp:=Jgm Np
   have Fl:=Jgm Nl
   have Fs:=Jgm As
   have BW:=Jgm NB
   clear NB Nm No Nx Np Nl As
   clear Es
   clear HSZ4
   have Lx:=Fx.out.lt
   obtain ⟨cx0,cx1,cx2,cx3⟩:=Ku Fx.out
   have Ls:=Fs.out.lt
   obtain ⟨cs0,cs1,cs2,cs3⟩:=Ku Fs.out
   go_wp2_with fail
   clear Lx cx0 cx1 cx2 cx3 Ls cs0 cs1 cs2 cs3
   refine (A3.out _).mono ?_
   rintro e v5 ⟨rfl,z5⟩
   have Nm:=Jgm (Fm.out.on z5)
   have No:=Jgm (Fo.out.on z5)
   have Nx:=Jgm (Fx.out.on z5)
   have Np:=Jgm (Fp.out.on z5)
   have Nl:=Jgm (Fl.out.on z5)
   have Ns:=Jgm (Fs.out.on z5)
   have NB:=Jgm (Jw BW.out z5)
   clear BW z5 Fm Fo Fx Fp Fl Fs
   have Fm:=Nm
   have Fo:=No
   have Fx:=Nx
   have Fp:=Np
   have Fl:=Nl
   have Fs:=Ns
   have BW:=NB
   clear NB Nm No Nx Np Nl Ns
   clear Fp
   clear Fl
   clear Fs
   have Lx:=Fx.out.lt
   obtain ⟨cx0,cx1,cx2,cx3⟩:=Ku Fx.out
   obtain ⟨fx0,fx1,fx2,fx3⟩:=Wc Fx.out
   go_wp2_with fail
   generalize hW6:((((v5.setCell ⟨gx,0,none⟩ (.int .u64 (wd X2 0))).setCell ⟨gx,1,none⟩ (.int .u64 (wd X2 1))).setCell ⟨gx,2,none⟩ (.int .u64 (wd X2 2))).setCell ⟨gx,3,none⟩ (.int .u64 (wd X2 3)))=W6 at *
   clear Lx cx0 cx1 cx2 cx3 fx0 fx1 fx2 fx3
   have Nm_0:=Jd hW6 ((Fm.out).far4 Dmx _ _ _ _)
   have No_0:=Jd hW6 ((Fo.out).far4 Dox _ _ _ _)
   have Nx_0:=Jd hW6 ((Fx.out).put4 _ _ _ _)
   have NB_0:=Ke hW6 (((((BW.out).setCell Ex _).setCell Ex _).setCell Ex _).setCell Ex _)
   have Nm:=Nm_0
   have No:=No_0
   have Nx:=Nx_0
   have NB:=NB_0
   clear BW Fm Fo Fx Nm_0 No_0 Nx_0 NB_0
   clear hW6
   have Fm:=Jgm Nm
   have Fo:=Jgm No
   have Fx:=Jgm Nx
   have BW:=Jgm NB
   clear NB Nm No Nx
   go_roundw
   case rel=>
    first
     | exact ⟨r*2,X2,rfl,by omega,by omega,Fm.out,Fo.out,Fx.out,BW.out,HX2.out,HR.out⟩
     | exact ⟨r*2,X2,by go_num,by omega,by omega,Fm.out,Fo.out,Fx.out,BW.out,HX2.out,HR.out⟩
     | ((repeat apply Exists.intro);exact ⟨⟨r*2,X2,by go_num,by omega,by omega,Fm.out,Fo.out,Fx.out,BW.out,HX2.out,HR.out⟩,rfl⟩)
   case measure=>(simp [intOf] <;> omega)
  ·have hz:¬ (r:Int)<256:=by omega
   have hx:X=T:=by
    have hi:=HI.out
    rw [show min r 256=256 by omega] at hi
    exact inv_one M X T _ HX.out HT.out hi HMT.out
   subst hx
   have Lx:=Fx.out.lt
   obtain ⟨cx0,cx1,cx2,cx3⟩:=Ku Fx.out
   have Lo:=Fo.out.lt
   have co0:wr.cell? ⟨go,0,none⟩=some (.int .u64 0):=Fo.out.cell 0
   have co1:wr.cell? ⟨go,1,none⟩=some (.int .u64 0):=Fo.out.cell 1
   have co2:wr.cell? ⟨go,2,none⟩=some (.int .u64 0):=Fo.out.cell 2
   have co3:wr.cell? ⟨go,3,none⟩=some (.int .u64 0):=Fo.out.cell 3
   obtain ⟨fo0,fo1,fo2,fo3⟩:=Wc Fo.out
   go_wp2_with fail
   generalize hW2:((((wr.setCell ⟨go,0,none⟩ (.int .u64 (wd X 0))).setCell ⟨go,1,none⟩ (.int .u64 (wd X 1))).setCell ⟨go,2,none⟩ (.int .u64 (wd X 2))).setCell ⟨go,3,none⟩ (.int .u64 (wd X 3)))=W2 at *
   clear Lx cx0 cx1 cx2 cx3 Lo co0 co1 co2 co3 fo0 fo1 fo2 fo3
   have Nm_0:=Jd hW2 ((Fm.out).far4 Dmo _ _ _ _)
   have No_0:=Jd hW2 ((Fo.out).put4 _ _ _ _)
   have Nx_0:=Jd hW2 ((Fx.out).far4 Dox.symm _ _ _ _)
   have NB_0:=Ke hW2 (((((BW.out).setCell Eo _).setCell Eo _).setCell Eo _).setCell Eo _)
   have Nm:=Nm_0
   have No:=No_0
   have Nx:=Nx_0
   have NB:=NB_0
   clear BW Fm Fo Fx Nm_0 No_0 Nx_0 NB_0
   clear hW2
   have Fm:=Jgm Nm
   have Fo:=Jgm No
   have Fx:=Jgm Nx
   have BW:=Jgm NB
   clear NB Nm No Nx
   have Lo:=Fo.out.lt
   obtain ⟨co0,co1,co2,co3⟩:=Ku Fo.out
   exact bodyPost_ret (v:=num X) (by simp [results,Try.results91,go_sem, *]) rfl ⟨rfl,BW.out⟩

theorem invodd_ex (M:Nat) (hM:M<2^256) (ho:M%2=1):∃ T,T<2^256∧M*T%2^256=1∧∀ w,Calls Try.prog 91 #[num M] w fun e w'=>e=.returned (num T)∧Below w.heap.size w w':=by
 obtain ⟨T,hT,h⟩:=inv_exists M hM ho
 exact ⟨T,hT,h,fun w=>invodd_walk M T hM ho hT h w⟩
end Go.Proofs.Ytcbnmdkmfdjpiaa
