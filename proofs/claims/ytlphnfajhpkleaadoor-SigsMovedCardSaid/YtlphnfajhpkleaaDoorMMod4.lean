/-
 mods.inverseOfOdd: Newton's way.
-/
import Derived.Test.YtlphnfajhpkleaaDoorMCell
import Derived.Test.YtlphnfajhpkleaaDoorMMod1
import Derived.Test.YtlphnfajhpkleaaDoorMModE
import Derived.Test.YtlphnfajhpkleaaDoorMMult
import Derived.Test.YtlphnfajhpkleaaDoorMSmall
namespace Go.Proofs.YtlphnfajhpkleaaDoor
open Go.RowKit
set_option linter.unusedSimpArgs false
set_option linter.unusedVariables false
attribute [local go_sem ↓] Go.wp_at_zero Go.wp_at_succ

set_option maxRecDepth 100000 in
set_option maxHeartbeats 8000000 in
theorem invodd_walk (M T:Nat) (hM:M<2^256) (ho:M%2=1) (hT:T<2^256) (hMT:M*T%2^256=1) (w:World):Calls Tryd.prog 75 #[num M] w fun e w'=>e=.returned (num T)∧Below w.heap.size w w':=by
 have HB:=Lib.hid hM;have HO:=Lib.hid ho;have HT:=Lib.hid hT;have HMT:=Lib.hid hMT
 have CT:=of_any 2 (by decide)
 have AT:=Lib.hid CT
 clear hM ho hT hMT CT
 go_enter Tryd.func75,Tryd.ntmps75
 go_wp2_with fail
 have BW:=Lib.hid (Below.refl w.heap.size w)
 generalize hW1:(((w.alloc (.cells #[.int .u64 (wd M 0:Nat),.int .u64 (wd M 1:Nat),.int .u64 (wd M 2:Nat),.int .u64 (wd M 3:Nat)] 24)).alloc (.cells #[.int .u64 0,.int .u64 0,.int .u64 0,.int .u64 0] 24)).alloc (.cells #[.int .u64 (wd M 0:Nat),.int .u64 (wd M 1:Nat),.int .u64 (wd M 2:Nat),.int .u64 (wd M 3:Nat)] 24))=W1 at *
 have Nm:At W1 (w.heap.size) _ _:=at_of hW1 (((At.at_ _ _ _ _ (by simp)).alloc _).alloc _)
 have No:At W1 (w.heap.size+1) _ _:=at_of hW1 ((At.at_ _ _ _ _ (by simp)).alloc _)
 have Eo:w.heap.size≤w.heap.size+1:=by have:=BW.out.size;omega
 have Dmo:w.heap.size≠w.heap.size+1:=by omega
 have Nx:At W1 (w.heap.size+1+1) _ _:=at_of hW1 (At.at_ _ _ _ _ (by simp))
 have Ex:w.heap.size≤w.heap.size+1+1:=by have:=BW.out.size;omega
 have Dmx:w.heap.size≠w.heap.size+1+1:=by omega
 have Dox:w.heap.size+1≠w.heap.size+1+1:=by omega
 have NB:=gr_of hW1 (gr_alloc (gr_alloc (gr_alloc BW.out _) _) _)
 clear BW
 clear hW1
 generalize w.heap.size+1+1=gx at *
 generalize w.heap.size+1=go at *
 obtain ⟨gm,hg0⟩:∃ g,g=w.heap.size:=⟨_,rfl⟩
 rw [← hg0] at Nm ⊢
 rw [← hg0] at Dmo Dmx
 clear hg0
 have Fm:=Lib.hid Nm
 have Fo:=Lib.hid No
 have Fx:=Lib.hid Nx
 have BW:=Lib.hid NB
 clear NB Nm No Nx
 go_loopw [4] (fun s wr=>∃ r X:Nat,s=.int .i64 (r:Nat)∧3≤r∧r<512∧Hid (At wr gm 24 #[.int .u64 (wd M 0:Nat),.int .u64 (wd M 1:Nat),.int .u64 (wd M 2:Nat),.int .u64 (wd M 3:Nat)]∧At wr go 24 #[.int .u64 0,.int .u64 0,.int .u64 0,.int .u64 0]∧At wr gx 24 #[.int .u64 (wd X 0:Nat),.int .u64 (wd X 1:Nat),.int .u64 (wd X 2:Nat),.int .u64 (wd X 3:Nat)]∧Below w.heap.size w wr∧X<2^256∧M*X%2^(min r 256)=1)) (fun s _=>512-(intOf s).toNat)
 case atStart=>
  exact ⟨3,M,rfl,by omega,by omega,Fm.out,Fo.out,Fx.out,BW.out,HB.out,newt_first M HO.out⟩
 case round=>
  obtain ⟨r,X,rfl,h3,h512,hM⟩:=hrel
  clear BW Fm Fo Fx
  have Fm:=Lib.hid hM.out.1;have Fo:=Lib.hid hM.out.2.1;have Fx:=Lib.hid hM.out.2.2.1;have BW:=Lib.hid hM.out.2.2.2.1;have HX:=Lib.hid hM.out.2.2.2.2.1;have HI:=Lib.hid hM.out.2.2.2.2.2
  clear hM
  by_cases hlt:r<256
  ·have hz:(r:Int)<256:=by omega
   obtain ⟨p,l,hp,hl,e1,C1⟩:=mul_ex M X HB.out HX.out
   obtain ⟨S,c,hS,hc,e2,C2⟩:=sub_ex 2 p (by decide) hp
   obtain ⟨X2,h,hX2,hh,e3,C3⟩:=mul_ex X S HX.out hS
   have HR:=Lib.hid (newt_round M X p S X2 l c h r h3 HI.out hlt e1 e2 e3)
   have HX2:=Lib.hid hX2
   have A1:=Lib.hid C1;have A2:=Lib.hid C2;have A3:=Lib.hid C3
   have gw:IntKind.i64.wrap ((r:Int)*2)=((r*2:Nat):Int):=by rw [IntKind.wrap_i64];omega
   clear e1 e2 e3 C1 C2 C3 hX2 hp hl hS hc hh HI HX
   have Lm:=Fm.out.lt
   have cm0:=Fm.out.c0
   have cm1:=Fm.out.c1
   have cm2:=Fm.out.c2
   have cm3:=Fm.out.c3
   have Lx:=Fx.out.lt
   have cx0:=Fx.out.c0
   have cx1:=Fx.out.c1
   have cx2:=Fx.out.c2
   have cx3:=Fx.out.c3
   go_wp2_with fail
   clear Lm cm0 cm1 cm2 cm3 Lx cx0 cx1 cx2 cx3
   refine (A1.out _).mono ?_
   rintro e v2 ⟨rfl,z2⟩
   have Nm:=Lib.hid (Fm.out.on z2)
   have No:=Lib.hid (Fo.out.on z2)
   have Nx:=Lib.hid (Fx.out.on z2)
   have NB:=Lib.hid (bel_tr BW.out z2)
   clear BW z2 Fm Fo Fx
   have Fm:=Nm
   have Fo:=No
   have Fx:=Nx
   have BW:=NB
   clear NB Nm No Nx
   go_wp2_with fail
   generalize hW3:((v2.alloc (.cells #[.int .u64 (wd p 0:Nat),.int .u64 (wd p 1:Nat),.int .u64 (wd p 2:Nat),.int .u64 (wd p 3:Nat)] 24)).alloc (.cells #[.int .u64 (wd l 0:Nat),.int .u64 (wd l 1:Nat),.int .u64 (wd l 2:Nat),.int .u64 (wd l 3:Nat)] 24))=W3 at *
   have Np:At W3 (v2.heap.size) _ _:=at_of hW3 ((At.at_ _ _ _ _ (by simp)).alloc _)
   have Dop:go≠v2.heap.size:=by have:=Fo.out.lt;omega
   have Dxp:gx≠v2.heap.size:=by have:=Fx.out.lt;omega
   have Nl:At W3 (v2.heap.size+1) _ _:=at_of hW3 (At.at_ _ _ _ _ (by simp))
   have Dol:go≠v2.heap.size+1:=by have:=Fo.out.lt;omega
   have Dxl:gx≠v2.heap.size+1:=by have:=Fx.out.lt;omega
   have Nm:=at_of hW3 ((Fm.out.alloc _).alloc _)
   have No:=at_of hW3 ((Fo.out.alloc _).alloc _)
   have Nx:=at_of hW3 ((Fx.out.alloc _).alloc _)
   have NB:=gr_of hW3 (gr_alloc (gr_alloc BW.out _) _)
   clear BW Fm Fo Fx
   clear hW3
   generalize v2.heap.size+1=gl at *
   generalize v2.heap.size=gp at *
   have Fm:=Lib.hid Nm
   have Fo:=Lib.hid No
   have Fx:=Lib.hid Nx
   have Fp:=Lib.hid Np
   have Fl:=Lib.hid Nl
   have BW:=Lib.hid NB
   clear NB Nm No Nx Np Nl
   try simp only [List.append_eq,List.cons_append,List.nil_append]
   refine wp_region_noPanic ?_
   refine wp_region_held_drew (S:=fun w'=>True) (by kernel_rfl) (trivial) (fun _=>?_)
   refine wpAnyH_cores (fuel:=2) (⟨0,21,[],Kind.val (.agg #[.int .u64 (wd 2 0:Nat),.int .u64 (wd 2 1:Nat),.int .u64 (wd 2 2:Nat),.int .u64 (wd 2 3:Nat)]),false⟩::⟨1,22,[],Kind.val (.agg #[.int .u64 (wd p 0:Nat),.int .u64 (wd p 1:Nat),.int .u64 (wd p 2:Nat),.int .u64 (wd p 3:Nat)]),false⟩::⟨2,23,[0,1],Kind.val (.tuple #[.agg #[.int .u64 (wd S 0:Nat),.int .u64 (wd S 1:Nat),.int .u64 (wd S 2:Nat),.int .u64 (wd S 3:Nat)],.int .u64 (c:Nat)]),false⟩::⟨3,20,[2],Kind.val (.tuple #[.agg #[.int .u64 (wd S 0:Nat),.int .u64 (wd S 1:Nat),.int .u64 (wd S 2:Nat),.int .u64 (wd S 3:Nat)],.int .u64 (c:Nat)]),true⟩::⟨4,24,[3],Kind.val (.agg #[.int .u64 (wd S 0:Nat),.int .u64 (wd S 1:Nat),.int .u64 (wd S 2:Nat),.int .u64 (wd S 3:Nat)]),true⟩::⟨5,25,[3],Kind.val (.int .u64 (c:Nat)),true⟩::⟨6,7,[],Kind.cell W3.heap.size 24 #[.int .u64 0,.int .u64 0,.int .u64 0,.int .u64 0],false⟩::[]) _ _ W3 _ ?_ ?_ ?_ ?_ ?_ ?_ ?_ ?_ ?_ ?_ ?_
   ·rfl
   ·kernel_rfl
   ·exact of_decide_eq_true rfl
   ·(repeat refine all_cons ⟨_,rfl,rfl⟩ ?_);exact all_nil
   ·exact fun _ hb=>trivial
   ·exact (Below.refl _ _).drew
   ·kernel_rfl
   ·exact fun _ _ _ _ _ h=>h
   ·(repeat (refine all_cons ?_ ?_;rotate_left));exact all_nil
    ·exact core_pureAs _ (by rfl)
    ·exact core_pureAs _ (by rfl)
    ·exact core_pureAs _ (by rfl)
    ·exact core_move _ _ _ _ _ _ (by rfl) (by rfl) (kc 2 23)
    ·exact core_extract _ _ 0 _ _ _ _ _ (by rfl) (by rfl) (kc 3 20) (by rfl)
    ·exact core_extract _ _ 1 _ _ _ _ _ (by rfl) (by rfl) (kc 3 20) (by rfl)
    ·exact core_pureAs _ (by rfl)
   ·(repeat (refine all_cons ?_ ?_;rotate_left));exact all_nil
    ·exact fun _=>core_call _ 30 _ _ [.const (.int .u64 2)] _ _ _ _ _ _ (by rfl) Tryd.func30 (by kernel_rfl) (by rfl) (by rfl) (.cons (known_const _) .nil) (AT.out)
    ·exact fun _=>core_load _ _ _ _ _ gp _ _ _ _ (by rfl) (by rfl) (ko 5) Fp.out
    ·exact fun _=>core_call _ 26 _ _ [.tmp 21,.tmp 22] _ _ _ _ _ _ (by rfl) Tryd.func26 (by kernel_rfl) (by rfl) (by rfl) (.cons (kc 0 21) (.cons (kc 1 22) .nil)) (A2.out)
    ·exact sA
    ·exact sA
    ·exact sA
    ·exact fun _=>core_alloc _ _ _ _ _ (by rfl) (by rfl) (Nat.le_refl _)
   intro vs y4 hc
   obtain ⟨vv0,vv1,vv2,vv3,vv4,vv5,vv6,rfl⟩:=len7 vs hc.lv
   have qq0:=okv hc 0
   have qq1:=okv hc 1
   have qq2:=okv hc 2
   have qq3:=okv hc 3
   have qq4:=okv hc 4
   have qq5:=okv hc 5
   obtain ⟨xx,hx,gs,hv,Es,As⟩:=hc.ok 6 _ rfl rfl
   have qq6:vv6=.pointer (some ⟨gs,0,none⟩):=(Option.some.inj (show some vv6=some xx from hx)).trans hv
   clear hx hv
   have BZ:=hc.bel
   clear hc
   have Nm:=Fm.out.on BZ
   have No:=Fo.out.on BZ
   have Nx:=Fx.out.on BZ
   have Np:=Fp.out.on BZ
   have Nl:=Fl.out.on BZ
   have Dms:gm≠gs:=by have:=Fm.out.lt;omega
   have Dos:go≠gs:=by have:=Fo.out.lt;omega
   have Dxs:gx≠gs:=by have:=Fx.out.lt;omega
   have Dps:gp≠gs:=by have:=Fp.out.lt;omega
   have Dls:gl≠gs:=by have:=Fl.out.lt;omega
   have HSZ4:=BW.out.size
   have NB:=bel_tr BW.out BZ
   clear BW BZ Fm Fo Fx Fp Fl
   subst qq0 qq1 qq2 qq3 qq4 qq5 qq6
   simp only [List.map_cons,List.map_nil,over,Act.put,List.setIfInBounds_toArray,List.set_cons_zero,List.set_cons_succ]
   have OLD:=As
   replace Nm:=put4_far Nm Dms (.int .u64 (wd S 0:Nat)) (.int .u64 (wd S 1:Nat)) (.int .u64 (wd S 2:Nat)) (.int .u64 (wd S 3:Nat))
   replace No:=put4_far No Dos (.int .u64 (wd S 0:Nat)) (.int .u64 (wd S 1:Nat)) (.int .u64 (wd S 2:Nat)) (.int .u64 (wd S 3:Nat))
   replace Nx:=put4_far Nx Dxs (.int .u64 (wd S 0:Nat)) (.int .u64 (wd S 1:Nat)) (.int .u64 (wd S 2:Nat)) (.int .u64 (wd S 3:Nat))
   replace Np:=put4_far Np Dps (.int .u64 (wd S 0:Nat)) (.int .u64 (wd S 1:Nat)) (.int .u64 (wd S 2:Nat)) (.int .u64 (wd S 3:Nat))
   replace Nl:=put4_far Nl Dls (.int .u64 (wd S 0:Nat)) (.int .u64 (wd S 1:Nat)) (.int .u64 (wd S 2:Nat)) (.int .u64 (wd S 3:Nat))
   replace As:=put4_at As (.int .u64 (wd S 0:Nat)) (.int .u64 (wd S 1:Nat)) (.int .u64 (wd S 2:Nat)) (.int .u64 (wd S 3:Nat))
   replace NB:=put4_below NB (Nat.le_trans HSZ4 Es) (.int .u64 (wd S 0:Nat)) (.int .u64 (wd S 1:Nat)) (.int .u64 (wd S 2:Nat)) (.int .u64 (wd S 3:Nat))
   refine store_one (i:=7) _ _ _ _ _ gs _ _ _ _ _ _ _ _ (by kernel_rfl) (by rfl) (by rfl) (by rfl) OLD (trivial) ?_
   clear OLD
   generalize (put4 y4 gs (.int .u64 (wd S 0:Nat)) (.int .u64 (wd S 1:Nat)) (.int .u64 (wd S 2:Nat)) (.int .u64 (wd S 3:Nat)))=y4_7 at *
   refine assign_one (i:=8) _ 8 _ _ _ _ (by kernel_rfl) (by rfl) (by rfl) (trivial) ?_
   try simp only [Act.put,List.setIfInBounds_toArray,List.set_cons_zero,List.set_cons_succ]
   refine wpAnyH_done (by kernel_rfl) ?_ _
   refine NoPanic.normal ?_
   have Fm:=Lib.hid Nm
   have Fo:=Lib.hid No
   have Fx:=Lib.hid Nx
   have Fp:=Lib.hid Np
   have Fl:=Lib.hid Nl
   have Fs:=Lib.hid As
   have BW:=Lib.hid NB
   clear NB Nm No Nx Np Nl As
   clear Es
   clear HSZ4
   have Lx:=Fx.out.lt
   have cx0:=Fx.out.c0
   have cx1:=Fx.out.c1
   have cx2:=Fx.out.c2
   have cx3:=Fx.out.c3
   have Ls:=Fs.out.lt
   have cs0:=Fs.out.c0
   have cs1:=Fs.out.c1
   have cs2:=Fs.out.c2
   have cs3:=Fs.out.c3
   go_wp2_with fail
   clear Lx cx0 cx1 cx2 cx3 Ls cs0 cs1 cs2 cs3
   refine (A3.out _).mono ?_
   rintro e v5 ⟨rfl,z5⟩
   have Nm:=Lib.hid (Fm.out.on z5)
   have No:=Lib.hid (Fo.out.on z5)
   have Nx:=Lib.hid (Fx.out.on z5)
   have Np:=Lib.hid (Fp.out.on z5)
   have Nl:=Lib.hid (Fl.out.on z5)
   have Ns:=Lib.hid (Fs.out.on z5)
   have NB:=Lib.hid (bel_tr BW.out z5)
   clear BW z5 Fm Fo Fx Fp Fl Fs
   have Fm:=Nm
   have Fo:=No
   have Fx:=Nx
   have Fp:=Np
   have Fl:=Nl
   have Fs:=Ns
   have BW:=NB
   clear NB Nm No Nx Np Nl Ns
   clear Fp
   clear Fl
   clear Fs
   have Lx:=Fx.out.lt
   have cx0:=Fx.out.c0
   have cx1:=Fx.out.c1
   have cx2:=Fx.out.c2
   have cx3:=Fx.out.c3
   have fx0:v5.frozen? ⟨gx,0,none⟩=false:=Fx.out.frozen 0
   have fx1:v5.frozen? ⟨gx,1,none⟩=false:=Fx.out.frozen 1
   have fx2:v5.frozen? ⟨gx,2,none⟩=false:=Fx.out.frozen 2
   have fx3:v5.frozen? ⟨gx,3,none⟩=false:=Fx.out.frozen 3
   go_wp2_with fail
   generalize hW6:((((v5.setCell ⟨gx,0,none⟩ (.int .u64 (wd X2 0:Nat))).setCell ⟨gx,1,none⟩ (.int .u64 (wd X2 1:Nat))).setCell ⟨gx,2,none⟩ (.int .u64 (wd X2 2:Nat))).setCell ⟨gx,3,none⟩ (.int .u64 (wd X2 3:Nat)))=W6 at *
   clear Lx cx0 cx1 cx2 cx3 fx0 fx1 fx2 fx3
   have Nm_0:=at_of hW6 ((Fm.out).far4 Dmx _ _ _ _)
   have No_0:=at_of hW6 ((Fo.out).far4 Dox _ _ _ _)
   have Nx_0:=at_of hW6 ((Fx.out).put4 _ _ _ _)
   have NB_0:=gr_of hW6 (((((BW.out).setCell Ex _).setCell Ex _).setCell Ex _).setCell Ex _)
   have Nm:=Nm_0
   have No:=No_0
   have Nx:=Nx_0
   have NB:=NB_0
   clear BW Fm Fo Fx Nm_0 No_0 Nx_0 NB_0
   clear hW6
   have Fm:=Lib.hid Nm
   have Fo:=Lib.hid No
   have Fx:=Lib.hid Nx
   have BW:=Lib.hid NB
   clear NB Nm No Nx
   go_roundw
   case rel=>
    first
     | exact ⟨r*2,X2,rfl,by omega,by omega,Fm.out,Fo.out,Fx.out,BW.out,HX2.out,HR.out⟩
     | exact ⟨r*2,X2,by go_num,by omega,by omega,Fm.out,Fo.out,Fx.out,BW.out,HX2.out,HR.out⟩
     | ((repeat apply Exists.intro);exact ⟨⟨r*2,X2,by go_num,by omega,by omega,Fm.out,Fo.out,Fx.out,BW.out,HX2.out,HR.out⟩,rfl⟩)
   case measure=>(simp [intOf] <;> omega)
  ·have hz:¬ (r:Int)<256:=by omega
   have hx:X=T:=by
    have hi:=HI.out
    rw [show min r 256=256 by omega] at hi
    exact inv_one M X T _ HX.out HT.out hi HMT.out
   subst hx
   have Lx:=Fx.out.lt
   have cx0:=Fx.out.c0
   have cx1:=Fx.out.c1
   have cx2:=Fx.out.c2
   have cx3:=Fx.out.c3
   have Lo:=Fo.out.lt
   have co0:wr.cell? ⟨go,0,none⟩=some (.int .u64 0):=Fo.out.cell 0
   have co1:wr.cell? ⟨go,1,none⟩=some (.int .u64 0):=Fo.out.cell 1
   have co2:wr.cell? ⟨go,2,none⟩=some (.int .u64 0):=Fo.out.cell 2
   have co3:wr.cell? ⟨go,3,none⟩=some (.int .u64 0):=Fo.out.cell 3
   have fo0:wr.frozen? ⟨go,0,none⟩=false:=Fo.out.frozen 0
   have fo1:wr.frozen? ⟨go,1,none⟩=false:=Fo.out.frozen 1
   have fo2:wr.frozen? ⟨go,2,none⟩=false:=Fo.out.frozen 2
   have fo3:wr.frozen? ⟨go,3,none⟩=false:=Fo.out.frozen 3
   go_wp2_with fail
   generalize hW2:((((wr.setCell ⟨go,0,none⟩ (.int .u64 (wd X 0:Nat))).setCell ⟨go,1,none⟩ (.int .u64 (wd X 1:Nat))).setCell ⟨go,2,none⟩ (.int .u64 (wd X 2:Nat))).setCell ⟨go,3,none⟩ (.int .u64 (wd X 3:Nat)))=W2 at *
   clear Lx cx0 cx1 cx2 cx3 Lo co0 co1 co2 co3 fo0 fo1 fo2 fo3
   have Nm_0:=at_of hW2 ((Fm.out).far4 Dmo _ _ _ _)
   have No_0:=at_of hW2 ((Fo.out).put4 _ _ _ _)
   have Nx_0:=at_of hW2 ((Fx.out).far4 Dox.symm _ _ _ _)
   have NB_0:=gr_of hW2 (((((BW.out).setCell Eo _).setCell Eo _).setCell Eo _).setCell Eo _)
   have Nm:=Nm_0
   have No:=No_0
   have Nx:=Nx_0
   have NB:=NB_0
   clear BW Fm Fo Fx Nm_0 No_0 Nx_0 NB_0
   clear hW2
   have Fm:=Lib.hid Nm
   have Fo:=Lib.hid No
   have Fx:=Lib.hid Nx
   have BW:=Lib.hid NB
   clear NB Nm No Nx
   have Lo:=Fo.out.lt
   have co0:=Fo.out.c0
   have co1:=Fo.out.c1
   have co2:=Fo.out.c2
   have co3:=Fo.out.c3
   exact bodyPost_ret (v:=num X) (by simp [results,Tryd.results75,go_sem, *]) rfl ⟨rfl,BW.out⟩

theorem invodd_ex (M:Nat) (hM:M<2^256) (ho:M%2=1):∃ T,T<2^256∧M*T%2^256=1∧∀ w,Calls Tryd.prog 75 #[num M] w fun e w'=>e=.returned (num T)∧Below w.heap.size w w':=by
 obtain ⟨T,hT,h⟩:=inv_exists M hM ho
 exact ⟨T,hT,h,fun w=>invodd_walk M T hM ho hT h w⟩
end Go.Proofs.YtlphnfajhpkleaaDoor

/-
 mods: the function values of both ways.
-/
namespace Go.Proofs.YtlphnfajhpkleaaDoor
open Go.RowKit
set_option linter.unusedSimpArgs false
set_option linter.unusedVariables false
attribute [local go_sem ↓] Go.wp_at_zero Go.wp_at_succ

set_option maxRecDepth 100000 in
set_option maxHeartbeats 8000000 in
theorem red_walk (gt gm M T low high often h1 l2 off rest:Nat)
  (c1:∀ w,Calls Tryd.prog 61 #[num low,num T] w fun e w'=>e=.returned (.tuple #[num often,num h1])∧Below w.heap.size w w')
  (c2:∀ w,Calls Tryd.prog 61 #[num often,num M] w fun e w'=>e=.returned (.tuple #[num l2,num off])∧Below w.heap.size w w')
  (c3:∀ w,Calls Tryd.prog 43 #[num high,num off,num M] w fun e w'=>e=.returned (.tuple #[num rest,.int .i64 0])∧Below w.heap.size w w')
  (w:World) (Pt:At w gt 24 #[.int .u64 (wd T 0:Nat),.int .u64 (wd T 1:Nat),.int .u64 (wd T 2:Nat),.int .u64 (wd T 3:Nat)]) (Pm:At w gm 24 #[.int .u64 (wd M 0:Nat),.int .u64 (wd M 1:Nat),.int .u64 (wd M 2:Nat),.int .u64 (wd M 3:Nat)]):Calls Tryd.prog 76 #[num low,num high,.pointer (some ⟨gt,0,none⟩),.pointer (some ⟨gm,0,none⟩)] w fun e w'=>e=.returned (num rest)∧Below w.heap.size w w':=by
 have Hc1:=Lib.hid c1
 have Hc2:=Lib.hid c2
 have Hc3:=Lib.hid c3
 clear c1 c2 c3
 have Ft:=Lib.hid Pt
 have Fm:=Lib.hid Pm
 clear Pt Pm
 have Lt:=Ft.out.lt
 have ct0:=Ft.out.c0
 have ct1:=Ft.out.c1
 have ct2:=Ft.out.c2
 have ct3:=Ft.out.c3
 have Lt_1:gt<w.heap.size+1:=by omega
 have Lt_2:gt<w.heap.size+1+1:=by omega
 go_enter Tryd.func76,Tryd.ntmps76
 go_wp2_with fail
 clear Lt ct0 ct1 ct2 ct3 Lt_1 Lt_2
 have BW:=Lib.hid (Below.refl w.heap.size w)
 have Eo:w.heap.size≤w.heap.size+1+1:=by have:=BW.out.size;omega
 have Dto:gt≠w.heap.size+1+1:=by have:=Ft.out.lt;omega
 have Dmo:gm≠w.heap.size+1+1:=by have:=Fm.out.lt;omega
 have Dao:w.heap.size≠w.heap.size+1+1:=by omega
 have Dbo:w.heap.size+1≠w.heap.size+1+1:=by omega
 generalize hW1:(((w.alloc (.cells #[.int .u64 (wd low 0:Nat),.int .u64 (wd low 1:Nat),.int .u64 (wd low 2:Nat),.int .u64 (wd low 3:Nat)] 24)).alloc (.cells #[.int .u64 (wd high 0:Nat),.int .u64 (wd high 1:Nat),.int .u64 (wd high 2:Nat),.int .u64 (wd high 3:Nat)] 24)).alloc (.cells #[.int .u64 0,.int .u64 0,.int .u64 0,.int .u64 0] 24))=W1 at *
 have Na:At W1 (w.heap.size) _ _:=at_of hW1 (((At.at_ _ _ _ _ (by simp)).alloc _).alloc _)
 have Nb:At W1 (w.heap.size+1) _ _:=at_of hW1 ((At.at_ _ _ _ _ (by simp)).alloc _)
 have No:At W1 (w.heap.size+1+1) _ _:=at_of hW1 (At.at_ _ _ _ _ (by simp))
 have Nt:=at_of hW1 (((Ft.out.alloc _).alloc _).alloc _)
 have Nm:=at_of hW1 (((Fm.out.alloc _).alloc _).alloc _)
 have NB:=gr_of hW1 (gr_alloc (gr_alloc (gr_alloc BW.out _) _) _)
 clear hW1 BW Ft Fm
 generalize w.heap.size+1+1=go at *
 generalize w.heap.size+1=gb at *
 obtain ⟨ga,hg0⟩:∃ g,g=w.heap.size:=⟨_,rfl⟩
 rw [← hg0] at Na ⊢
 rw [← hg0] at Dao
 clear hg0
 have Ft:=Lib.hid Nt
 have Fm:=Lib.hid Nm
 have Fa:=Lib.hid Na
 have Fb:=Lib.hid Nb
 have Fo:=Lib.hid No
 have BW:=Lib.hid NB
 clear NB Nt Nm Na Nb No
 refine (Hc1.out _).mono ?_
 rintro e v2 ⟨rfl,z2⟩
 have Nt:=Lib.hid (Ft.out.on z2)
 have Nm:=Lib.hid (Fm.out.on z2)
 have Na:=Lib.hid (Fa.out.on z2)
 have Nb:=Lib.hid (Fb.out.on z2)
 have No:=Lib.hid (Fo.out.on z2)
 have NB:=Lib.hid (bel_tr BW.out z2)
 clear BW z2 Ft Fm Fa Fb Fo
 have Ft:=Nt
 have Fm:=Nm
 have Fa:=Na
 have Fb:=Nb
 have Fo:=No
 have BW:=NB
 clear NB Nt Nm Na Nb No
 have Lm:=Fm.out.lt
 have cm0:=Fm.out.c0
 have cm1:=Fm.out.c1
 have cm2:=Fm.out.c2
 have cm3:=Fm.out.c3
 go_wp2_with fail
 clear Lm cm0 cm1 cm2 cm3
 have Dop:go≠v2.heap.size:=by have:=Fo.out.lt;omega
 have Dou:go≠v2.heap.size+1:=by have:=Fo.out.lt;omega
 generalize hW3:((v2.alloc (.cells #[.int .u64 (wd often 0:Nat),.int .u64 (wd often 1:Nat),.int .u64 (wd often 2:Nat),.int .u64 (wd often 3:Nat)] 24)).alloc (.cells #[.int .u64 (wd h1 0:Nat),.int .u64 (wd h1 1:Nat),.int .u64 (wd h1 2:Nat),.int .u64 (wd h1 3:Nat)] 24))=W3 at *
 have Np:At W3 (v2.heap.size) _ _:=at_of hW3 ((At.at_ _ _ _ _ (by simp)).alloc _)
 have Nu:At W3 (v2.heap.size+1) _ _:=at_of hW3 (At.at_ _ _ _ _ (by simp))
 have Nt:=at_of hW3 ((Ft.out.alloc _).alloc _)
 have Nm:=at_of hW3 ((Fm.out.alloc _).alloc _)
 have Na:=at_of hW3 ((Fa.out.alloc _).alloc _)
 have Nb:=at_of hW3 ((Fb.out.alloc _).alloc _)
 have No:=at_of hW3 ((Fo.out.alloc _).alloc _)
 have NB:=gr_of hW3 (gr_alloc (gr_alloc BW.out _) _)
 clear hW3 BW Ft Fm Fa Fb Fo
 generalize v2.heap.size+1=gu at *
 generalize v2.heap.size=gp at *
 have Ft:=Lib.hid Nt
 have Fm:=Lib.hid Nm
 have Fa:=Lib.hid Na
 have Fb:=Lib.hid Nb
 have Fo:=Lib.hid No
 have Fp:=Lib.hid Np
 have Fu:=Lib.hid Nu
 have BW:=Lib.hid NB
 clear NB Nt Nm Na Nb No Np Nu
 refine (Hc2.out _).mono ?_
 rintro e v4 ⟨rfl,z4⟩
 have Nt:=Lib.hid (Ft.out.on z4)
 have Nm:=Lib.hid (Fm.out.on z4)
 have Na:=Lib.hid (Fa.out.on z4)
 have Nb:=Lib.hid (Fb.out.on z4)
 have No:=Lib.hid (Fo.out.on z4)
 have Np:=Lib.hid (Fp.out.on z4)
 have Nu:=Lib.hid (Fu.out.on z4)
 have NB:=Lib.hid (bel_tr BW.out z4)
 clear BW z4 Ft Fm Fa Fb Fo Fp Fu
 have Ft:=Nt
 have Fm:=Nm
 have Fa:=Na
 have Fb:=Nb
 have Fo:=No
 have Fp:=Np
 have Fu:=Nu
 have BW:=NB
 clear NB Nt Nm Na Nb No Np Nu
 have Lb:=Fb.out.lt
 have cb0:=Fb.out.c0
 have cb1:=Fb.out.c1
 have cb2:=Fb.out.c2
 have cb3:=Fb.out.c3
 have Lm:=Fm.out.lt
 have cm0:=Fm.out.c0
 have cm1:=Fm.out.c1
 have cm2:=Fm.out.c2
 have cm3:=Fm.out.c3
 go_wp2_with fail
 clear Lb cb0 cb1 cb2 cb3 Lm cm0 cm1 cm2 cm3
 have Doq:go≠v4.heap.size:=by have:=Fo.out.lt;omega
 have Dof:go≠v4.heap.size+1:=by have:=Fo.out.lt;omega
 generalize hW5:((v4.alloc (.cells #[.int .u64 (wd l2 0:Nat),.int .u64 (wd l2 1:Nat),.int .u64 (wd l2 2:Nat),.int .u64 (wd l2 3:Nat)] 24)).alloc (.cells #[.int .u64 (wd off 0:Nat),.int .u64 (wd off 1:Nat),.int .u64 (wd off 2:Nat),.int .u64 (wd off 3:Nat)] 24))=W5 at *
 have Nq:At W5 (v4.heap.size) _ _:=at_of hW5 ((At.at_ _ _ _ _ (by simp)).alloc _)
 have Nf:At W5 (v4.heap.size+1) _ _:=at_of hW5 (At.at_ _ _ _ _ (by simp))
 have Nt:=at_of hW5 ((Ft.out.alloc _).alloc _)
 have Nm:=at_of hW5 ((Fm.out.alloc _).alloc _)
 have Na:=at_of hW5 ((Fa.out.alloc _).alloc _)
 have Nb:=at_of hW5 ((Fb.out.alloc _).alloc _)
 have No:=at_of hW5 ((Fo.out.alloc _).alloc _)
 have Np:=at_of hW5 ((Fp.out.alloc _).alloc _)
 have Nu:=at_of hW5 ((Fu.out.alloc _).alloc _)
 have NB:=gr_of hW5 (gr_alloc (gr_alloc BW.out _) _)
 clear hW5 BW Ft Fm Fa Fb Fo Fp Fu
 generalize v4.heap.size+1=gf at *
 generalize v4.heap.size=gq at *
 have Ft:=Lib.hid Nt
 have Fm:=Lib.hid Nm
 have Fa:=Lib.hid Na
 have Fb:=Lib.hid Nb
 have Fo:=Lib.hid No
 have Fp:=Lib.hid Np
 have Fu:=Lib.hid Nu
 have Fq:=Lib.hid Nq
 have Ff:=Lib.hid Nf
 have BW:=Lib.hid NB
 clear NB Nt Nm Na Nb No Np Nu Nq Nf
 refine (Hc3.out _).mono ?_
 rintro e v6 ⟨rfl,z6⟩
 have Nt:=Lib.hid (Ft.out.on z6)
 have Nm:=Lib.hid (Fm.out.on z6)
 have Na:=Lib.hid (Fa.out.on z6)
 have Nb:=Lib.hid (Fb.out.on z6)
 have No:=Lib.hid (Fo.out.on z6)
 have Np:=Lib.hid (Fp.out.on z6)
 have Nu:=Lib.hid (Fu.out.on z6)
 have Nq:=Lib.hid (Fq.out.on z6)
 have Nf:=Lib.hid (Ff.out.on z6)
 have NB:=Lib.hid (bel_tr BW.out z6)
 clear BW z6 Ft Fm Fa Fb Fo Fp Fu Fq Ff
 have Ft:=Nt
 have Fm:=Nm
 have Fa:=Na
 have Fb:=Nb
 have Fo:=No
 have Fp:=Np
 have Fu:=Nu
 have Fq:=Nq
 have Ff:=Nf
 have BW:=NB
 clear NB Nt Nm Na Nb No Np Nu Nq Nf
 have Lo:=Fo.out.lt
 have co0:=Fo.out.c0
 have co1:=Fo.out.c1
 have co2:=Fo.out.c2
 have co3:=Fo.out.c3
 have fo0:v6.frozen? ⟨go,0,none⟩=false:=Fo.out.frozen 0
 have fo1:v6.frozen? ⟨go,1,none⟩=false:=Fo.out.frozen 1
 have fo2:v6.frozen? ⟨go,2,none⟩=false:=Fo.out.frozen 2
 have fo3:v6.frozen? ⟨go,3,none⟩=false:=Fo.out.frozen 3
 go_wp2_with fail
 clear Lo co0 co1 co2 co3 fo0 fo1 fo2 fo3
 generalize hW7:((((v6.setCell ⟨go,0,none⟩ (.int .u64 (wd rest 0:Nat))).setCell ⟨go,1,none⟩ (.int .u64 (wd rest 1:Nat))).setCell ⟨go,2,none⟩ (.int .u64 (wd rest 2:Nat))).setCell ⟨go,3,none⟩ (.int .u64 (wd rest 3:Nat)))=W7 at *
 have Nt:=at_of hW7 ((Ft.out).far4 Dto _ _ _ _)
 have Nm:=at_of hW7 ((Fm.out).far4 Dmo _ _ _ _)
 have Na:=at_of hW7 ((Fa.out).far4 Dao _ _ _ _)
 have Nb:=at_of hW7 ((Fb.out).far4 Dbo _ _ _ _)
 have No:=at_of hW7 ((Fo.out).put4 _ _ _ _)
 have Np:=at_of hW7 ((Fp.out).far4 Dop.symm _ _ _ _)
 have Nu:=at_of hW7 ((Fu.out).far4 Dou.symm _ _ _ _)
 have Nq:=at_of hW7 ((Fq.out).far4 Doq.symm _ _ _ _)
 have Nf:=at_of hW7 ((Ff.out).far4 Dof.symm _ _ _ _)
 have NB:=gr_of hW7 (((((BW.out).setCell Eo _).setCell Eo _).setCell Eo _).setCell Eo _)
 clear hW7 BW Ft Fm Fa Fb Fo Fp Fu Fq Ff
 have Ft:=Lib.hid Nt
 have Fm:=Lib.hid Nm
 have Fa:=Lib.hid Na
 have Fb:=Lib.hid Nb
 have Fo:=Lib.hid No
 have Fp:=Lib.hid Np
 have Fu:=Lib.hid Nu
 have Fq:=Lib.hid Nq
 have Ff:=Lib.hid Nf
 have BW:=Lib.hid NB
 clear NB Nt Nm Na Nb No Np Nu Nq Nf
 have Dos:go≠W7.heap.size:=by have:=Fo.out.lt;omega
 generalize hW8:(W7.alloc (.cells #[.int .u64 (wd rest 0:Nat),.int .u64 (wd rest 1:Nat),.int .u64 (wd rest 2:Nat),.int .u64 (wd rest 3:Nat)] 24))=W8 at *
 have Ns:At W8 (W7.heap.size) _ _:=at_of hW8 (At.at_ _ _ _ _ (by simp))
 have Nt:=at_of hW8 (Ft.out.alloc _)
 have Nm:=at_of hW8 (Fm.out.alloc _)
 have Na:=at_of hW8 (Fa.out.alloc _)
 have Nb:=at_of hW8 (Fb.out.alloc _)
 have No:=at_of hW8 (Fo.out.alloc _)
 have Np:=at_of hW8 (Fp.out.alloc _)
 have Nu:=at_of hW8 (Fu.out.alloc _)
 have Nq:=at_of hW8 (Fq.out.alloc _)
 have Nf:=at_of hW8 (Ff.out.alloc _)
 have NB:=gr_of hW8 (gr_alloc BW.out _)
 clear hW8 BW Ft Fm Fa Fb Fo Fp Fu Fq Ff
 generalize W7.heap.size=gs at *
 have Ft:=Lib.hid Nt
 have Fm:=Lib.hid Nm
 have Fa:=Lib.hid Na
 have Fb:=Lib.hid Nb
 have Fo:=Lib.hid No
 have Fp:=Lib.hid Np
 have Fu:=Lib.hid Nu
 have Fq:=Lib.hid Nq
 have Ff:=Lib.hid Nf
 have Fs:=Lib.hid Ns
 have BW:=Lib.hid NB
 clear NB Nt Nm Na Nb No Np Nu Nq Nf Ns
 have Lo:=Fo.out.lt
 have co0:=Fo.out.c0
 have co1:=Fo.out.c1
 have co2:=Fo.out.c2
 have co3:=Fo.out.c3
 refine bodyPost_ret (v:=num rest) (by simp [results,Tryd.results76,go_sem, *]) rfl ⟨rfl,BW.out⟩

/-- what low and high words are worth by M,once divided by 2^256 -/
theorem red_ex (M T low high:Nat) (hM:M<2^256) (hM0:0<M) (hT:T<2^256) (hMT:M*T%2^256=1) (hl:low<2^256) (hh:high<M) :
  ∃ rest often off c:Nat,rest<M∧often*M=low+2^256*off∧high+M*c=rest+off∧∀ (gt gm:Nat) (w:World),At w gt 24 #[.int .u64 (wd T 0:Nat),.int .u64 (wd T 1:Nat),.int .u64 (wd T 2:Nat),.int .u64 (wd T 3:Nat)]→At w gm 24 #[.int .u64 (wd M 0:Nat),.int .u64 (wd M 1:Nat),.int .u64 (wd M 2:Nat),.int .u64 (wd M 3:Nat)] →
   Calls Tryd.prog 76 #[num low,num high,.pointer (some ⟨gt,0,none⟩),.pointer (some ⟨gm,0,none⟩)] w fun e w'=>e=.returned (num rest)∧Below w.heap.size w w':=by
 obtain ⟨often,h1,ho,_,e1,c1⟩:=mul_ex low T hl hT
 obtain ⟨l2,off,hl2,_,e2,c2⟩:=mul_ex often M ho hM
 obtain ⟨ho2,e3⟩:=red_nat M T low high often h1 off l2 hMT hM0 hl e1 ho e2 hl2
 obtain ⟨rest,c,hr,_,e4,c3⟩:=diff_ex high off M hh ho2 hM
 exact ⟨rest,often,off,c,hr,e3,e4,fun gt gm w at1 at2=>red_walk gt gm M T low high often h1 l2 off rest c1 c2 c3 w at1 at2⟩

set_option maxRecDepth 100000 in
set_option maxHeartbeats 8000000 in
theorem into_walk (gm M X r:Nat)
  (c1:∀ w,Calls Tryd.prog 56 #[.agg #[.int .u64 0,.int .u64 0,.int .u64 0,.int .u64 0],num X,num M] w fun e w'=>e=.returned (.tuple #[num r,.int .i64 0])∧Below w.heap.size w w')
  (w:World) (Pm:At w gm 24 #[.int .u64 (wd M 0:Nat),.int .u64 (wd M 1:Nat),.int .u64 (wd M 2:Nat),.int .u64 (wd M 3:Nat)]):Calls Tryd.prog 77 #[num X,.pointer (some ⟨gm,0,none⟩)] w fun e w'=>e=.returned (num r)∧Below w.heap.size w w':=by
 have Hc1:=Lib.hid c1
 clear c1
 have Fm:=Lib.hid Pm
 clear Pm
 have Lm:=Fm.out.lt
 have cm0:=Fm.out.c0
 have cm1:=Fm.out.c1
 have cm2:=Fm.out.c2
 have cm3:=Fm.out.c3
 have Lm_1:gm<w.heap.size+1:=by omega
 go_enter Tryd.func77,Tryd.ntmps77
 go_wp2_with fail
 clear Lm cm0 cm1 cm2 cm3 Lm_1
 have BW:=Lib.hid (Below.refl w.heap.size w)
 have Eo:w.heap.size≤w.heap.size+1:=by have:=BW.out.size;omega
 have Dmo:gm≠w.heap.size+1:=by have:=Fm.out.lt;omega
 have Dao:w.heap.size≠w.heap.size+1:=by omega
 generalize hW1:((w.alloc (.cells #[.int .u64 (wd X 0:Nat),.int .u64 (wd X 1:Nat),.int .u64 (wd X 2:Nat),.int .u64 (wd X 3:Nat)] 24)).alloc (.cells #[.int .u64 0,.int .u64 0,.int .u64 0,.int .u64 0] 24))=W1 at *
 have Na:At W1 (w.heap.size) _ _:=at_of hW1 ((At.at_ _ _ _ _ (by simp)).alloc _)
 have No:At W1 (w.heap.size+1) _ _:=at_of hW1 (At.at_ _ _ _ _ (by simp))
 have Nm:=at_of hW1 ((Fm.out.alloc _).alloc _)
 have NB:=gr_of hW1 (gr_alloc (gr_alloc BW.out _) _)
 clear hW1 BW Fm
 generalize w.heap.size+1=go at *
 obtain ⟨ga,hg0⟩:∃ g,g=w.heap.size:=⟨_,rfl⟩
 rw [← hg0] at Na ⊢
 rw [← hg0] at Dao
 clear hg0
 have Fm:=Lib.hid Nm
 have Fa:=Lib.hid Na
 have Fo:=Lib.hid No
 have BW:=Lib.hid NB
 clear NB Nm Na No
 refine (Hc1.out _).mono ?_
 rintro e v2 ⟨rfl,z2⟩
 have Nm:=Lib.hid (Fm.out.on z2)
 have Na:=Lib.hid (Fa.out.on z2)
 have No:=Lib.hid (Fo.out.on z2)
 have NB:=Lib.hid (bel_tr BW.out z2)
 clear BW z2 Fm Fa Fo
 have Fm:=Nm
 have Fa:=Na
 have Fo:=No
 have BW:=NB
 clear NB Nm Na No
 have Lo:=Fo.out.lt
 have co0:=Fo.out.c0
 have co1:=Fo.out.c1
 have co2:=Fo.out.c2
 have co3:=Fo.out.c3
 have fo0:v2.frozen? ⟨go,0,none⟩=false:=Fo.out.frozen 0
 have fo1:v2.frozen? ⟨go,1,none⟩=false:=Fo.out.frozen 1
 have fo2:v2.frozen? ⟨go,2,none⟩=false:=Fo.out.frozen 2
 have fo3:v2.frozen? ⟨go,3,none⟩=false:=Fo.out.frozen 3
 go_wp2_with fail
 clear Lo co0 co1 co2 co3 fo0 fo1 fo2 fo3
 generalize hW3:((((v2.setCell ⟨go,0,none⟩ (.int .u64 (wd r 0:Nat))).setCell ⟨go,1,none⟩ (.int .u64 (wd r 1:Nat))).setCell ⟨go,2,none⟩ (.int .u64 (wd r 2:Nat))).setCell ⟨go,3,none⟩ (.int .u64 (wd r 3:Nat)))=W3 at *
 have Nm:=at_of hW3 ((Fm.out).far4 Dmo _ _ _ _)
 have Na:=at_of hW3 ((Fa.out).far4 Dao _ _ _ _)
 have No:=at_of hW3 ((Fo.out).put4 _ _ _ _)
 have NB:=gr_of hW3 (((((BW.out).setCell Eo _).setCell Eo _).setCell Eo _).setCell Eo _)
 clear hW3 BW Fm Fa Fo
 have Fm:=Lib.hid Nm
 have Fa:=Lib.hid Na
 have Fo:=Lib.hid No
 have BW:=Lib.hid NB
 clear NB Nm Na No
 have Dos:go≠W3.heap.size:=by have:=Fo.out.lt;omega
 generalize hW4:(W3.alloc (.cells #[.int .u64 (wd r 0:Nat),.int .u64 (wd r 1:Nat),.int .u64 (wd r 2:Nat),.int .u64 (wd r 3:Nat)] 24))=W4 at *
 have Ns:At W4 (W3.heap.size) _ _:=at_of hW4 (At.at_ _ _ _ _ (by simp))
 have Nm:=at_of hW4 (Fm.out.alloc _)
 have Na:=at_of hW4 (Fa.out.alloc _)
 have No:=at_of hW4 (Fo.out.alloc _)
 have NB:=gr_of hW4 (gr_alloc BW.out _)
 clear hW4 BW Fm Fa Fo
 generalize W3.heap.size=gs at *
 have Fm:=Lib.hid Nm
 have Fa:=Lib.hid Na
 have Fo:=Lib.hid No
 have Fs:=Lib.hid Ns
 have BW:=Lib.hid NB
 clear NB Nm Na No Ns
 have Lo:=Fo.out.lt
 have co0:=Fo.out.c0
 have co1:=Fo.out.c1
 have co2:=Fo.out.c2
 have co3:=Fo.out.c3
 refine bodyPost_ret (v:=num r) (by simp [results,Tryd.results77,go_sem, *]) rfl ⟨rfl,BW.out⟩

set_option maxRecDepth 100000 in
set_option maxHeartbeats 8000000 in
theorem back_walk (gt gm gr M T X r:Nat)
  (c1:∀ (gt gm:Nat) (w:World),At w gt 24 #[.int .u64 (wd T 0:Nat),.int .u64 (wd T 1:Nat),.int .u64 (wd T 2:Nat),.int .u64 (wd T 3:Nat)]→At w gm 24 #[.int .u64 (wd M 0:Nat),.int .u64 (wd M 1:Nat),.int .u64 (wd M 2:Nat),.int .u64 (wd M 3:Nat)]→Calls Tryd.prog 76 #[num X,.agg #[.int .u64 0,.int .u64 0,.int .u64 0,.int .u64 0],.pointer (some ⟨gt,0,none⟩),.pointer (some ⟨gm,0,none⟩)] w fun e w'=>e=.returned (num r)∧Below w.heap.size w w')
  (w:World) (Pt:At w gt 24 #[.int .u64 (wd T 0:Nat),.int .u64 (wd T 1:Nat),.int .u64 (wd T 2:Nat),.int .u64 (wd T 3:Nat)]) (Pm:At w gm 24 #[.int .u64 (wd M 0:Nat),.int .u64 (wd M 1:Nat),.int .u64 (wd M 2:Nat),.int .u64 (wd M 3:Nat)]) (Pr:At w gr 73 #[.func (.func 76) #[] #[.pointer (some ⟨gt,0,none⟩),.pointer (some ⟨gm,0,none⟩)]]):Calls Tryd.prog 78 #[num X,.pointer (some ⟨gr,0,none⟩)] w fun e w'=>e=.returned (num r)∧Below w.heap.size w w':=by
 have Hc1:=Lib.hid c1
 clear c1
 have Ft:=Lib.hid Pt
 have Fm:=Lib.hid Pm
 have Fr:=Lib.hid Pr
 clear Pt Pm Pr
 have Lr:=Fr.out.lt
 have cr0:w.cell? ⟨gr,0,none⟩=some (.func (.func 76) #[] #[.pointer (some ⟨gt,0,none⟩),.pointer (some ⟨gm,0,none⟩)]):=Fr.out.cell 0
 have Lr_1:gr<w.heap.size+1:=by omega
 go_enter Tryd.func78,Tryd.ntmps78
 go_wp2_with fail
 clear Lr cr0 Lr_1
 have BW:=Lib.hid (Below.refl w.heap.size w)
 have Eo:w.heap.size≤w.heap.size+1:=by have:=BW.out.size;omega
 have Dto:gt≠w.heap.size+1:=by have:=Ft.out.lt;omega
 have Dmo:gm≠w.heap.size+1:=by have:=Fm.out.lt;omega
 have Dro:gr≠w.heap.size+1:=by have:=Fr.out.lt;omega
 have Dao:w.heap.size≠w.heap.size+1:=by omega
 generalize hW1:((w.alloc (.cells #[.int .u64 (wd X 0:Nat),.int .u64 (wd X 1:Nat),.int .u64 (wd X 2:Nat),.int .u64 (wd X 3:Nat)] 24)).alloc (.cells #[.int .u64 0,.int .u64 0,.int .u64 0,.int .u64 0] 24))=W1 at *
 have Na:At W1 (w.heap.size) _ _:=at_of hW1 ((At.at_ _ _ _ _ (by simp)).alloc _)
 have No:At W1 (w.heap.size+1) _ _:=at_of hW1 (At.at_ _ _ _ _ (by simp))
 have Nt:=at_of hW1 ((Ft.out.alloc _).alloc _)
 have Nm:=at_of hW1 ((Fm.out.alloc _).alloc _)
 have Nr:=at_of hW1 ((Fr.out.alloc _).alloc _)
 have NB:=gr_of hW1 (gr_alloc (gr_alloc BW.out _) _)
 clear hW1 BW Ft Fm Fr
 generalize w.heap.size+1=go at *
 obtain ⟨ga,hg0⟩:∃ g,g=w.heap.size:=⟨_,rfl⟩
 rw [← hg0] at Na ⊢
 rw [← hg0] at Dao
 clear hg0
 have Ft:=Lib.hid Nt
 have Fm:=Lib.hid Nm
 have Fr:=Lib.hid Nr
 have Fa:=Lib.hid Na
 have Fo:=Lib.hid No
 have BW:=Lib.hid NB
 clear NB Nt Nm Nr Na No
 refine (Hc1.out _ _ _ Ft.out Fm.out).mono ?_
 rintro e v2 ⟨rfl,z2⟩
 have Nt:=Lib.hid (Ft.out.on z2)
 have Nm:=Lib.hid (Fm.out.on z2)
 have Nr:=Lib.hid (Fr.out.on z2)
 have Na:=Lib.hid (Fa.out.on z2)
 have No:=Lib.hid (Fo.out.on z2)
 have NB:=Lib.hid (bel_tr BW.out z2)
 clear BW z2 Ft Fm Fr Fa Fo
 have Ft:=Nt
 have Fm:=Nm
 have Fr:=Nr
 have Fa:=Na
 have Fo:=No
 have BW:=NB
 clear NB Nt Nm Nr Na No
 have Lo:=Fo.out.lt
 have co0:=Fo.out.c0
 have co1:=Fo.out.c1
 have co2:=Fo.out.c2
 have co3:=Fo.out.c3
 have fo0:v2.frozen? ⟨go,0,none⟩=false:=Fo.out.frozen 0
 have fo1:v2.frozen? ⟨go,1,none⟩=false:=Fo.out.frozen 1
 have fo2:v2.frozen? ⟨go,2,none⟩=false:=Fo.out.frozen 2
 have fo3:v2.frozen? ⟨go,3,none⟩=false:=Fo.out.frozen 3
 go_wp2_with fail
 clear Lo co0 co1 co2 co3 fo0 fo1 fo2 fo3
 generalize hW3:((((v2.setCell ⟨go,0,none⟩ (.int .u64 (wd r 0:Nat))).setCell ⟨go,1,none⟩ (.int .u64 (wd r 1:Nat))).setCell ⟨go,2,none⟩ (.int .u64 (wd r 2:Nat))).setCell ⟨go,3,none⟩ (.int .u64 (wd r 3:Nat)))=W3 at *
 have Nt:=at_of hW3 ((Ft.out).far4 Dto _ _ _ _)
 have Nm:=at_of hW3 ((Fm.out).far4 Dmo _ _ _ _)
 have Nr:=at_of hW3 ((Fr.out).far4 Dro _ _ _ _)
 have Na:=at_of hW3 ((Fa.out).far4 Dao _ _ _ _)
 have No:=at_of hW3 ((Fo.out).put4 _ _ _ _)
 have NB:=gr_of hW3 (((((BW.out).setCell Eo _).setCell Eo _).setCell Eo _).setCell Eo _)
 clear hW3 BW Ft Fm Fr Fa Fo
 have Ft:=Lib.hid Nt
 have Fm:=Lib.hid Nm
 have Fr:=Lib.hid Nr
 have Fa:=Lib.hid Na
 have Fo:=Lib.hid No
 have BW:=Lib.hid NB
 clear NB Nt Nm Nr Na No
 have Lo:=Fo.out.lt
 have co0:=Fo.out.c0
 have co1:=Fo.out.c1
 have co2:=Fo.out.c2
 have co3:=Fo.out.c3
 refine bodyPost_ret (v:=num r) (by simp [results,Tryd.results78,go_sem, *]) rfl ⟨rfl,BW.out⟩

set_option maxRecDepth 100000 in
set_option maxHeartbeats 8000000 in
theorem times_walk (gt gm gr M T X Y low high r:Nat)
  (c1:∀ w,Calls Tryd.prog 61 #[num X,num Y] w fun e w'=>e=.returned (.tuple #[num low,num high])∧Below w.heap.size w w')
  (c2:∀ (gt gm:Nat) (w:World),At w gt 24 #[.int .u64 (wd T 0:Nat),.int .u64 (wd T 1:Nat),.int .u64 (wd T 2:Nat),.int .u64 (wd T 3:Nat)]→At w gm 24 #[.int .u64 (wd M 0:Nat),.int .u64 (wd M 1:Nat),.int .u64 (wd M 2:Nat),.int .u64 (wd M 3:Nat)]→Calls Tryd.prog 76 #[num low,num high,.pointer (some ⟨gt,0,none⟩),.pointer (some ⟨gm,0,none⟩)] w fun e w'=>e=.returned (num r)∧Below w.heap.size w w')
  (w:World) (Pt:At w gt 24 #[.int .u64 (wd T 0:Nat),.int .u64 (wd T 1:Nat),.int .u64 (wd T 2:Nat),.int .u64 (wd T 3:Nat)]) (Pm:At w gm 24 #[.int .u64 (wd M 0:Nat),.int .u64 (wd M 1:Nat),.int .u64 (wd M 2:Nat),.int .u64 (wd M 3:Nat)]) (Pr:At w gr 73 #[.func (.func 76) #[] #[.pointer (some ⟨gt,0,none⟩),.pointer (some ⟨gm,0,none⟩)]]):Calls Tryd.prog 79 #[num X,num Y,.pointer (some ⟨gr,0,none⟩)] w fun e w'=>e=.returned (num r)∧Below w.heap.size w w':=by
 have Hc1:=Lib.hid c1
 have Hc2:=Lib.hid c2
 clear c1 c2
 have Ft:=Lib.hid Pt
 have Fm:=Lib.hid Pm
 have Fr:=Lib.hid Pr
 clear Pt Pm Pr
 go_enter Tryd.func79,Tryd.ntmps79
 go_wp2_with fail
 have BW:=Lib.hid (Below.refl w.heap.size w)
 have Eo:w.heap.size≤w.heap.size+1+1:=by have:=BW.out.size;omega
 have Dto:gt≠w.heap.size+1+1:=by have:=Ft.out.lt;omega
 have Dmo:gm≠w.heap.size+1+1:=by have:=Fm.out.lt;omega
 have Dro:gr≠w.heap.size+1+1:=by have:=Fr.out.lt;omega
 have Dao:w.heap.size≠w.heap.size+1+1:=by omega
 have Dbo:w.heap.size+1≠w.heap.size+1+1:=by omega
 generalize hW1:(((w.alloc (.cells #[.int .u64 (wd X 0:Nat),.int .u64 (wd X 1:Nat),.int .u64 (wd X 2:Nat),.int .u64 (wd X 3:Nat)] 24)).alloc (.cells #[.int .u64 (wd Y 0:Nat),.int .u64 (wd Y 1:Nat),.int .u64 (wd Y 2:Nat),.int .u64 (wd Y 3:Nat)] 24)).alloc (.cells #[.int .u64 0,.int .u64 0,.int .u64 0,.int .u64 0] 24))=W1 at *
 have Na:At W1 (w.heap.size) _ _:=at_of hW1 (((At.at_ _ _ _ _ (by simp)).alloc _).alloc _)
 have Nb:At W1 (w.heap.size+1) _ _:=at_of hW1 ((At.at_ _ _ _ _ (by simp)).alloc _)
 have No:At W1 (w.heap.size+1+1) _ _:=at_of hW1 (At.at_ _ _ _ _ (by simp))
 have Nt:=at_of hW1 (((Ft.out.alloc _).alloc _).alloc _)
 have Nm:=at_of hW1 (((Fm.out.alloc _).alloc _).alloc _)
 have Nr:=at_of hW1 (((Fr.out.alloc _).alloc _).alloc _)
 have NB:=gr_of hW1 (gr_alloc (gr_alloc (gr_alloc BW.out _) _) _)
 clear hW1 BW Ft Fm Fr
 generalize w.heap.size+1+1=go at *
 generalize w.heap.size+1=gb at *
 obtain ⟨ga,hg0⟩:∃ g,g=w.heap.size:=⟨_,rfl⟩
 rw [← hg0] at Na ⊢
 rw [← hg0] at Dao
 clear hg0
 have Ft:=Lib.hid Nt
 have Fm:=Lib.hid Nm
 have Fr:=Lib.hid Nr
 have Fa:=Lib.hid Na
 have Fb:=Lib.hid Nb
 have Fo:=Lib.hid No
 have BW:=Lib.hid NB
 clear NB Nt Nm Nr Na Nb No
 try simp only [List.append_eq,List.cons_append,List.nil_append]
 refine wp_region_noPanic ?_
 refine wp_region_held_drew (S:=fun w'=>At w' gr 73 #[.func (.func 76) #[] #[.pointer (some ⟨gt,0,none⟩),.pointer (some ⟨gm,0,none⟩)]]) (by kernel_rfl) (Fr.out.drew) (fun _=>?_)
 refine wpAnyH_cores (fuel:=1) (⟨0,6,[],Kind.val (.func (.func 76) #[] #[.pointer (some ⟨gt,0,none⟩),.pointer (some ⟨gm,0,none⟩)]),true⟩::⟨1,7,[],Kind.val (.agg #[.int .u64 (wd X 0:Nat),.int .u64 (wd X 1:Nat),.int .u64 (wd X 2:Nat),.int .u64 (wd X 3:Nat)]),false⟩::⟨2,8,[],Kind.val (.agg #[.int .u64 (wd Y 0:Nat),.int .u64 (wd Y 1:Nat),.int .u64 (wd Y 2:Nat),.int .u64 (wd Y 3:Nat)]),false⟩::⟨3,9,[1,2],Kind.val (.tuple #[.agg #[.int .u64 (wd low 0:Nat),.int .u64 (wd low 1:Nat),.int .u64 (wd low 2:Nat),.int .u64 (wd low 3:Nat)],.agg #[.int .u64 (wd high 0:Nat),.int .u64 (wd high 1:Nat),.int .u64 (wd high 2:Nat),.int .u64 (wd high 3:Nat)]]),false⟩::⟨4,10,[3],Kind.val (.agg #[.int .u64 (wd low 0:Nat),.int .u64 (wd low 1:Nat),.int .u64 (wd low 2:Nat),.int .u64 (wd low 3:Nat)]),true⟩::⟨5,11,[3],Kind.val (.agg #[.int .u64 (wd high 0:Nat),.int .u64 (wd high 1:Nat),.int .u64 (wd high 2:Nat),.int .u64 (wd high 3:Nat)]),true⟩::⟨6,12,[0,4,5,3],Kind.val (.agg #[.int .u64 (wd r 0:Nat),.int .u64 (wd r 1:Nat),.int .u64 (wd r 2:Nat),.int .u64 (wd r 3:Nat)]),false⟩::[]) _ _ W1 _ ?_ ?_ ?_ ?_ ?_ ?_ ?_ ?_ ?_ ?_ ?_
 ·rfl
 ·kernel_rfl
 ·exact of_decide_eq_true rfl
 ·(repeat refine all_cons ⟨_,rfl,rfl⟩ ?_);exact all_nil
 ·exact fun _ hb=>Fr.out.on hb
 ·exact (Below.refl _ _).drew
 ·kernel_rfl
 ·exact fun _ _ _ _ _ h=>h
 ·(repeat (refine all_cons ?_ ?_;rotate_left));exact all_nil
  ·exact core_held _ _ _ _ _ _ _ _ (by rfl) (by rfl) (ko 2) (fun ρ w hx hs=>loadF_run _ _ _ _ _ _ ρ w gr 0 _ hx (hs.cell 0))
  ·exact core_pureAs _ (by rfl)
  ·exact core_pureAs _ (by rfl)
  ·exact core_pureAs _ (by rfl)
  ·exact core_extract _ _ 0 _ _ _ _ _ (by rfl) (by rfl) (kc 3 9) (by rfl)
  ·exact core_extract _ _ 1 _ _ _ _ _ (by rfl) (by rfl) (kc 3 9) (by rfl)
  ·exact core_pureAs _ (by rfl)
 ·(repeat (refine all_cons ?_ ?_;rotate_left));exact all_nil
  ·exact sA
  ·exact fun _=>core_load _ _ _ _ _ ga _ _ _ _ (by rfl) (by rfl) (ko 3) Fa.out
  ·exact fun _=>core_load _ _ _ _ _ gb _ _ _ _ (by rfl) (by rfl) (ko 4) Fb.out
  ·exact fun _=>core_call _ 61 _ _ [.tmp 7,.tmp 8] _ _ _ _ _ _ (by rfl) Tryd.func61 (by kernel_rfl) (by rfl) (by rfl) (.cons (kc 1 7) (.cons (kc 2 8) .nil)) (Hc1.out)
  ·exact sA
  ·exact sA
  ·exact fun _=>core_callV _ 76 _ _ (.tmp 6) #[.pointer (some ⟨gt,0,none⟩),.pointer (some ⟨gm,0,none⟩)] [.tmp 10,.tmp 11] _ _ _ _ _ _ _ (by rfl) Tryd.func76 (by kernel_rfl) (by rfl) (by rfl) (kc 0 6) (.cons (kc 4 10) (.cons (kc 5 11) .nil)) (by rfl) (fun w hb=>Hc2.out _ _ _ (Ft.out.on hb) (Fm.out.on hb))
 intro vs y2 hc
 obtain ⟨vv0,vv1,vv2,vv3,vv4,vv5,vv6,rfl⟩:=len7 vs hc.lv
 have qq0:=okv hc 0
 have qq1:=okv hc 1
 have qq2:=okv hc 2
 have qq3:=okv hc 3
 have qq4:=okv hc 4
 have qq5:=okv hc 5
 have qq6:=okv hc 6
 have BZ:=hc.bel
 clear hc
 have Nt:=Ft.out.on BZ
 have Nm:=Fm.out.on BZ
 have Nr:=Fr.out.on BZ
 have Na:=Fa.out.on BZ
 have Nb:=Fb.out.on BZ
 have No:=Fo.out.on BZ
 have HSZ2:=BW.out.size
 have NB:=bel_tr BW.out BZ
 clear BW BZ Ft Fm Fr Fa Fb Fo
 subst qq0 qq1 qq2 qq3 qq4 qq5 qq6
 simp only [List.map_cons,List.map_nil,over,Act.put,List.setIfInBounds_toArray,List.set_cons_zero,List.set_cons_succ]
 have OLD:=No
 replace Nt:=put4_far Nt Dto (.int .u64 (wd r 0:Nat)) (.int .u64 (wd r 1:Nat)) (.int .u64 (wd r 2:Nat)) (.int .u64 (wd r 3:Nat))
 replace Nm:=put4_far Nm Dmo (.int .u64 (wd r 0:Nat)) (.int .u64 (wd r 1:Nat)) (.int .u64 (wd r 2:Nat)) (.int .u64 (wd r 3:Nat))
 replace Nr:=put4_far Nr Dro (.int .u64 (wd r 0:Nat)) (.int .u64 (wd r 1:Nat)) (.int .u64 (wd r 2:Nat)) (.int .u64 (wd r 3:Nat))
 replace Na:=put4_far Na Dao (.int .u64 (wd r 0:Nat)) (.int .u64 (wd r 1:Nat)) (.int .u64 (wd r 2:Nat)) (.int .u64 (wd r 3:Nat))
 replace Nb:=put4_far Nb Dbo (.int .u64 (wd r 0:Nat)) (.int .u64 (wd r 1:Nat)) (.int .u64 (wd r 2:Nat)) (.int .u64 (wd r 3:Nat))
 replace No:=put4_at No (.int .u64 (wd r 0:Nat)) (.int .u64 (wd r 1:Nat)) (.int .u64 (wd r 2:Nat)) (.int .u64 (wd r 3:Nat))
 replace NB:=put4_below NB Eo (.int .u64 (wd r 0:Nat)) (.int .u64 (wd r 1:Nat)) (.int .u64 (wd r 2:Nat)) (.int .u64 (wd r 3:Nat))
 refine store_one (i:=7) _ _ _ _ _ go _ _ _ _ _ _ _ _ (by kernel_rfl) (by rfl) (by rfl) (by rfl) OLD (Nr) ?_
 clear OLD
 generalize (put4 y2 go (.int .u64 (wd r 0:Nat)) (.int .u64 (wd r 1:Nat)) (.int .u64 (wd r 2:Nat)) (.int .u64 (wd r 3:Nat)))=y2_7 at *
 refine wpAnyH_done (by kernel_rfl) ?_ _
 refine NoPanic.normal ?_
 have Ft:=Lib.hid Nt
 have Fm:=Lib.hid Nm
 have Fr:=Lib.hid Nr
 have Fa:=Lib.hid Na
 have Fb:=Lib.hid Nb
 have Fo:=Lib.hid No
 have BW:=Lib.hid NB
 clear NB Nt Nm Nr Na Nb No
 clear HSZ2
 have Lo:=Fo.out.lt
 have co0:=Fo.out.c0
 have co1:=Fo.out.c1
 have co2:=Fo.out.c2
 have co3:=Fo.out.c3
 go_wp2_with fail
 refine bodyPost_ret (v:=num r) (by simp [results,Tryd.results79,go_sem, *]) rfl ⟨rfl,BW.out⟩

theorem same_any (X:Nat) (w:World):Calls Tryd.prog 80 #[num X] w fun e w'=>e=.returned (num X)∧Below w.heap.size w w':=by
 go_enter Tryd.func80,Tryd.ntmps80
 go_wp2_with fail
 refine bodyPost_ret (v:=num X) (by simp [results,Tryd.results80,go_sem, *]) rfl ⟨rfl,?_⟩
 repeat (first | exact Below.refl _ _ | refine gr_alloc ?_ _ | refine Below.setCell ?_ (by simp) _ | refine Below.setCell ?_ (by simp;omega) _)

set_option maxRecDepth 100000 in
set_option maxHeartbeats 8000000 in
theorem ptimes_walk (gm M X Y r:Nat)
  (c1:∀ w,Calls Tryd.prog 45 #[num X,num Y,num M] w fun e w'=>e=.returned (.tuple #[num r,.int .i64 0])∧Below w.heap.size w w')
  (w:World) (Pm:At w gm 24 #[.int .u64 (wd M 0:Nat),.int .u64 (wd M 1:Nat),.int .u64 (wd M 2:Nat),.int .u64 (wd M 3:Nat)]):Calls Tryd.prog 81 #[num X,num Y,.pointer (some ⟨gm,0,none⟩)] w fun e w'=>e=.returned (num r)∧Below w.heap.size w w':=by
 have Hc1:=Lib.hid c1
 clear c1
 have Fm:=Lib.hid Pm
 clear Pm
 have Lm:=Fm.out.lt
 have cm0:=Fm.out.c0
 have cm1:=Fm.out.c1
 have cm2:=Fm.out.c2
 have cm3:=Fm.out.c3
 have Lm_1:gm<w.heap.size+1:=by omega
 have Lm_2:gm<w.heap.size+1+1:=by omega
 go_enter Tryd.func81,Tryd.ntmps81
 go_wp2_with fail
 clear Lm cm0 cm1 cm2 cm3 Lm_1 Lm_2
 have BW:=Lib.hid (Below.refl w.heap.size w)
 have Eo:w.heap.size≤w.heap.size+1+1:=by have:=BW.out.size;omega
 have Dmo:gm≠w.heap.size+1+1:=by have:=Fm.out.lt;omega
 have Dao:w.heap.size≠w.heap.size+1+1:=by omega
 have Dbo:w.heap.size+1≠w.heap.size+1+1:=by omega
 generalize hW1:(((w.alloc (.cells #[.int .u64 (wd X 0:Nat),.int .u64 (wd X 1:Nat),.int .u64 (wd X 2:Nat),.int .u64 (wd X 3:Nat)] 24)).alloc (.cells #[.int .u64 (wd Y 0:Nat),.int .u64 (wd Y 1:Nat),.int .u64 (wd Y 2:Nat),.int .u64 (wd Y 3:Nat)] 24)).alloc (.cells #[.int .u64 0,.int .u64 0,.int .u64 0,.int .u64 0] 24))=W1 at *
 have Na:At W1 (w.heap.size) _ _:=at_of hW1 (((At.at_ _ _ _ _ (by simp)).alloc _).alloc _)
 have Nb:At W1 (w.heap.size+1) _ _:=at_of hW1 ((At.at_ _ _ _ _ (by simp)).alloc _)
 have No:At W1 (w.heap.size+1+1) _ _:=at_of hW1 (At.at_ _ _ _ _ (by simp))
 have Nm:=at_of hW1 (((Fm.out.alloc _).alloc _).alloc _)
 have NB:=gr_of hW1 (gr_alloc (gr_alloc (gr_alloc BW.out _) _) _)
 clear hW1 BW Fm
 generalize w.heap.size+1+1=go at *
 generalize w.heap.size+1=gb at *
 obtain ⟨ga,hg0⟩:∃ g,g=w.heap.size:=⟨_,rfl⟩
 rw [← hg0] at Na ⊢
 rw [← hg0] at Dao
 clear hg0
 have Fm:=Lib.hid Nm
 have Fa:=Lib.hid Na
 have Fb:=Lib.hid Nb
 have Fo:=Lib.hid No
 have BW:=Lib.hid NB
 clear NB Nm Na Nb No
 refine (Hc1.out _).mono ?_
 rintro e v2 ⟨rfl,z2⟩
 have Nm:=Lib.hid (Fm.out.on z2)
 have Na:=Lib.hid (Fa.out.on z2)
 have Nb:=Lib.hid (Fb.out.on z2)
 have No:=Lib.hid (Fo.out.on z2)
 have NB:=Lib.hid (bel_tr BW.out z2)
 clear BW z2 Fm Fa Fb Fo
 have Fm:=Nm
 have Fa:=Na
 have Fb:=Nb
 have Fo:=No
 have BW:=NB
 clear NB Nm Na Nb No
 have Lo:=Fo.out.lt
 have co0:=Fo.out.c0
 have co1:=Fo.out.c1
 have co2:=Fo.out.c2
 have co3:=Fo.out.c3
 have fo0:v2.frozen? ⟨go,0,none⟩=false:=Fo.out.frozen 0
 have fo1:v2.frozen? ⟨go,1,none⟩=false:=Fo.out.frozen 1
 have fo2:v2.frozen? ⟨go,2,none⟩=false:=Fo.out.frozen 2
 have fo3:v2.frozen? ⟨go,3,none⟩=false:=Fo.out.frozen 3
 go_wp2_with fail
 clear Lo co0 co1 co2 co3 fo0 fo1 fo2 fo3
 generalize hW3:((((v2.setCell ⟨go,0,none⟩ (.int .u64 (wd r 0:Nat))).setCell ⟨go,1,none⟩ (.int .u64 (wd r 1:Nat))).setCell ⟨go,2,none⟩ (.int .u64 (wd r 2:Nat))).setCell ⟨go,3,none⟩ (.int .u64 (wd r 3:Nat)))=W3 at *
 have Nm:=at_of hW3 ((Fm.out).far4 Dmo _ _ _ _)
 have Na:=at_of hW3 ((Fa.out).far4 Dao _ _ _ _)
 have Nb:=at_of hW3 ((Fb.out).far4 Dbo _ _ _ _)
 have No:=at_of hW3 ((Fo.out).put4 _ _ _ _)
 have NB:=gr_of hW3 (((((BW.out).setCell Eo _).setCell Eo _).setCell Eo _).setCell Eo _)
 clear hW3 BW Fm Fa Fb Fo
 have Fm:=Lib.hid Nm
 have Fa:=Lib.hid Na
 have Fb:=Lib.hid Nb
 have Fo:=Lib.hid No
 have BW:=Lib.hid NB
 clear NB Nm Na Nb No
 have Dos:go≠W3.heap.size:=by have:=Fo.out.lt;omega
 generalize hW4:(W3.alloc (.cells #[.int .u64 (wd r 0:Nat),.int .u64 (wd r 1:Nat),.int .u64 (wd r 2:Nat),.int .u64 (wd r 3:Nat)] 24))=W4 at *
 have Ns:At W4 (W3.heap.size) _ _:=at_of hW4 (At.at_ _ _ _ _ (by simp))
 have Nm:=at_of hW4 (Fm.out.alloc _)
 have Na:=at_of hW4 (Fa.out.alloc _)
 have Nb:=at_of hW4 (Fb.out.alloc _)
 have No:=at_of hW4 (Fo.out.alloc _)
 have NB:=gr_of hW4 (gr_alloc BW.out _)
 clear hW4 BW Fm Fa Fb Fo
 generalize W3.heap.size=gs at *
 have Fm:=Lib.hid Nm
 have Fa:=Lib.hid Na
 have Fb:=Lib.hid Nb
 have Fo:=Lib.hid No
 have Fs:=Lib.hid Ns
 have BW:=Lib.hid NB
 clear NB Nm Na Nb No Ns
 have Lo:=Fo.out.lt
 have co0:=Fo.out.c0
 have co1:=Fo.out.c1
 have co2:=Fo.out.c2
 have co3:=Fo.out.c3
 refine bodyPost_ret (v:=num r) (by simp [results,Tryd.results81,go_sem, *]) rfl ⟨rfl,BW.out⟩

end Go.Proofs.YtlphnfajhpkleaaDoor
