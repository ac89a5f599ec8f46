import Derived.Test.YtmmgmljkmmgjdaaGreatDoorMCoreH
import Derived.Test.YtmmgmljkmmgjdaaGreatDoorMRWord
import Derived.Test.YtmmgmljkmmgjdaaGreatDoorMRbits
import Derived.Test.YtmmgmljkmmgjdaaGreatDoorMTree
namespace Go.Proofs.YtmmgmljkmmgjdaaGreatDoor
set_option maxRecDepth 100000
set_option maxHeartbeats 8000000
open Go.RowKit
set_option linter.unusedSimpArgs false
set_option linter.unusedVariables false
attribute [local go_sem ↓] Go.wp_at_zero Go.wp_at_succ

set_option maxHeartbeats 1000000 in
theorem wide_some (A R M Q y Q2 r:Nat)
  (C:∀ w,Calls Tryz.prog 215 #[num R,num M] w fun e w'=>e=.returned (.tuple #[num Q,num y,.int .i64 0])∧Below w.heap.size w w')
  (D:∀ w,Calls Tryz.prog 216 #[num y,num A,num M] w fun e w'=>e=.returned (.tuple #[num Q2,num r])∧Below w.heap.size w w') (w:World) :
  Calls Tryz.prog 202 #[num A,num R,num M] w fun e w'=>e=.returned (.tuple #[num r,.int .i64 0])∧Below w.heap.size w w':=by
 have HC:=Jja C
 have HD:=Jja D
 clear C D
 go_enter Tryz.func202,Tryz.ntmps202
 go_wp2_with fail
 have BW:=Jja (Below.refl w.heap.size w)
 generalize hW1:((((w.alloc (.cells (ncs A) 24)).alloc (.cells (ncs R) 24)).alloc (.cells (ncs M) 24)).alloc (.cells #[.int .u64 0,.int .u64 0,.int .u64 0,.int .u64 0] 24))=W1 at *
 have Na:At W1 (w.heap.size) _ _:=Jf hW1 ((((At.at_ _ _ _ _ (by simp)).alloc _).alloc _).alloc _)
 have Nh:At W1 (w.heap.size+1) _ _:=Jf hW1 (((At.at_ _ _ _ _ (by simp)).alloc _).alloc _)
 have Nm:At W1 (w.heap.size+1+1) _ _:=Jf hW1 ((At.at_ _ _ _ _ (by simp)).alloc _)
 have Nx:At W1 (w.heap.size+1+1+1) _ _:=Jf hW1 (At.at_ _ _ _ _ (by simp))
 have Ex:w.heap.size≤w.heap.size+1+1+1:=by have:=BW.out.size;omega
 have Dax:w.heap.size≠w.heap.size+1+1+1:=by omega
 have Dhx:w.heap.size+1≠w.heap.size+1+1+1:=by omega
 have Dmx:w.heap.size+1+1≠w.heap.size+1+1+1:=by omega
 have NB:=Ka hW1 (Jd (Jd (Jd (Jd BW.out _) _) _) _)
 clear BW
 clear hW1
 generalize w.heap.size+1+1+1=gx at *
 generalize w.heap.size+1+1=gm at *
 generalize w.heap.size+1=gh at *
 obtain ⟨ga,hg0⟩:∃ g,g=w.heap.size:=⟨_,rfl⟩
 rw [← hg0] at Na ⊢
 rw [← hg0] at Dax
 clear hg0
 have Fa:=Jja Na
 have Fh:=Jja Nh
 have Fm:=Jja Nm
 have Fx:=Jja Nx
 have BW:=Jja NB
 clear NB Na Nh Nm Nx
 refine (HC.out _).mono ?_
 rintro e v2 ⟨rfl,z2⟩
 have Na:=Jja (Fa.out.on z2)
 have Nh:=Jja (Fh.out.on z2)
 have Nm:=Jja (Fm.out.on z2)
 have Nx:=Jja (Fx.out.on z2)
 have NB:=Jja (Jr BW.out z2)
 clear BW z2 Fa Fh Fm Fx
 have Fa:=Na
 have Fh:=Nh
 have Fm:=Nm
 have Fx:=Nx
 have BW:=NB
 clear NB Na Nh Nm Nx
 have La:=Fa.out.lt
 have ca0:=Fa.out.c0;have ca1:=Fa.out.c1;have ca2:=Fa.out.c2;have ca3:=Fa.out.c3
 have Lm:=Fm.out.lt
 have cm0:=Fm.out.c0;have cm1:=Fm.out.c1;have cm2:=Fm.out.c2;have cm3:=Fm.out.c3
 go_wp2_with fail
 generalize hW3:((v2.alloc (.cells (ncs Q) 24)).alloc (.cells (ncs y) 24))=W3 at *
 clear La ca0 ca1 ca2 ca3 Lm cm0 cm1 cm2 cm3
 have Nq:At W3 (v2.heap.size) _ _:=Jf hW3 ((At.at_ _ _ _ _ (by simp)).alloc _)
 have Dxq:gx≠v2.heap.size:=by have:=Fx.out.lt;omega
 have Ny:At W3 (v2.heap.size+1) _ _:=Jf hW3 (At.at_ _ _ _ _ (by simp))
 have Ey:w.heap.size≤v2.heap.size+1:=by have:=BW.out.size;omega
 have Day:ga≠v2.heap.size+1:=by have:=Fa.out.lt;omega
 have Dhy:gh≠v2.heap.size+1:=by have:=Fh.out.lt;omega
 have Dmy:gm≠v2.heap.size+1:=by have:=Fm.out.lt;omega
 have Dxy:gx≠v2.heap.size+1:=by have:=Fx.out.lt;omega
 have Dqy:v2.heap.size≠v2.heap.size+1:=by omega
 have Na:=Jf hW3 ((Fa.out.alloc _).alloc _)
 have Nh:=Jf hW3 ((Fh.out.alloc _).alloc _)
 have Nm:=Jf hW3 ((Fm.out.alloc _).alloc _)
 have Nx:=Jf hW3 ((Fx.out.alloc _).alloc _)
 have NB:=Ka hW3 (Jd (Jd BW.out _) _)
 clear BW Fa Fh Fm Fx
 clear hW3
 generalize v2.heap.size+1=gy at *
 generalize v2.heap.size=gq at *
 have Fa:=Jja Na
 have Fh:=Jja Nh
 have Fm:=Jja Nm
 have Fx:=Jja Nx
 have Fq:=Jja Nq
 have Fy:=Jja Ny
 have BW:=Jja NB
 clear NB Na Nh Nm Nx Nq Ny
 clear Fh
 clear Fq
 refine (HD.out _).mono ?_
 rintro e v4 ⟨rfl,z4⟩
 have Na:=Jja (Fa.out.on z4)
 have Nm:=Jja (Fm.out.on z4)
 have Nx:=Jja (Fx.out.on z4)
 have Ny:=Jja (Fy.out.on z4)
 have NB:=Jja (Jr BW.out z4)
 clear BW z4 Fa Fm Fx Fy
 have Fa:=Na
 have Fm:=Nm
 have Fx:=Nx
 have Fy:=Ny
 have BW:=NB
 clear NB Na Nm Nx Ny
 clear Fa
 clear Fm
 have Ly:=Fy.out.lt
 have cy0:=Fy.out.c0;have cy1:=Fy.out.c1;have cy2:=Fy.out.c2;have cy3:=Fy.out.c3
 obtain ⟨fy0,fy1,fy2,fy3⟩:=Vo Fy.out
 have Lx:=Fx.out.lt
 have cx0:v4.cell? ⟨gx,0,none⟩=some (.int .u64 0):=Fx.out.cell 0
 have cx1:v4.cell? ⟨gx,1,none⟩=some (.int .u64 0):=Fx.out.cell 1
 have cx2:v4.cell? ⟨gx,2,none⟩=some (.int .u64 0):=Fx.out.cell 2
 have cx3:v4.cell? ⟨gx,3,none⟩=some (.int .u64 0):=Fx.out.cell 3
 obtain ⟨fx0,fx1,fx2,fx3⟩:=Vo Fx.out
 go_wp2_with fail
 generalize hW5:((((((((v4.setCell ⟨gy,0,none⟩ (.int .u64 (wd r 0))).setCell ⟨gy,1,none⟩ (.int .u64 (wd r 1))).setCell ⟨gy,2,none⟩ (.int .u64 (wd r 2))).setCell ⟨gy,3,none⟩ (.int .u64 (wd r 3))).setCell ⟨gx,0,none⟩ (.int .u64 (wd r 0))).setCell ⟨gx,1,none⟩ (.int .u64 (wd r 1))).setCell ⟨gx,2,none⟩ (.int .u64 (wd r 2))).setCell ⟨gx,3,none⟩ (.int .u64 (wd r 3)))=W5 at *
 clear Ly cy0 cy1 cy2 cy3 fy0 fy1 fy2 fy3 Lx cx0 cx1 cx2 cx3 fx0 fx1 fx2 fx3
 have Nx_1:=Jf hW5 ((((Fx.out).far4 Dxy _ _ _ _)).put4 _ _ _ _)
 have Ny_1:=Jf hW5 ((((Fy.out).put4 _ _ _ _)).far4 Dxy.symm _ _ _ _)
 have NB_1:=Ka hW5 ((((((((((BW.out).setCell Ey _).setCell Ey _).setCell Ey _).setCell Ey _)).setCell Ex _).setCell Ex _).setCell Ex _).setCell Ex _)
 have Nx:=Nx_1
 have Ny:=Ny_1
 have NB:=NB_1
 clear BW Fx Fy Nx_1 Ny_1 NB_1
 clear hW5
 have Fx:=Jja Nx
 have Fy:=Jja Ny
 have BW:=Jja NB
 clear NB Nx Ny
 have Lx:=Fx.out.lt
 have cx0:=Fx.out.c0;have cx1:=Fx.out.c1;have cx2:=Fx.out.c2;have cx3:=Fx.out.c3
 refine bodyPost_ret (v:=.tuple #[num r,.int .i64 0]) (by simp [results,Tryz.results202,go_sem, *]) rfl ⟨rfl,BW.out⟩

theorem wide_ex (A R M:Nat) (hA:A<2^256) (hR:R<2^256) (hM:M<2^256) (hM0:M≠0):∃ r:Nat,r<M∧r=wide R A%M ∧
  ∀ w,Calls Tryz.prog 202 #[num A,num R,num M] w fun e w'=>e=.returned (.tuple #[num r,.int .i64 0])∧Below w.heap.size w w':=by
 obtain ⟨Q,y,hQ,hy,he,C⟩:=div_ex R M hR hM hM0
 obtain ⟨Q2,r,hQ2,hr,he2,D⟩:=behind_ex y A M hy hA hM
 refine ⟨r,hr,?_,fun w=>wide_some A R M Q y Q2 r C D w⟩
 have:wide R A=(Q*2^256+Q2)*M+r:=by
  unfold wide at he2 ⊢
  rw [he]
  generalize 2^256=b at he2 ⊢
  rw [Nat.add_mul,Nat.add_mul,Nat.add_assoc,he2,← Nat.add_assoc,Nat.mul_assoc Q M,Nat.mul_comm M b,← Nat.mul_assoc]
 rw [this,Nat.mul_comm,Nat.mul_add_mod,Nat.mod_eq_of_lt hr]
def Xp (w:World) (g:Nat):Nat:=match w.heap[g]? with
 | some (.cells cs _ _)=>(intOf (cs.getD 0 undef)).toNat+18446744073709551616*(intOf (cs.getD 1 undef)).toNat+340282366920938463463374607431768211456*(intOf (cs.getD 2 undef)).toNat+6277101735386680763835789423207666416102355444464034512896*(intOf (cs.getD 3 undef)).toNat
 | _=>0
theorem At.val {w:World} {g X:Nat} {t:TypeId} (hX:X<2^256) (h:At w g t (ncs X)):Xp w g=X:=by
 unfold At at h
 unfold Xp
 rw [h]
 have:=Xr X hX
 simp [intOf]
 omega

theorem bit_down (X M i:Nat) (hM:0<M):(2*(X/2^(i+1)%M)+X/2^i%2)%M=X/2^i%M:=by
 rw [show X/2^i=2*(X/2^(i+1))+X/2^i%2 from Jem X i]
 have e:(2*(X/2^(i+1))+X/2^i%2)%2=X/2^i%2:=by omega
 rw [e]
 conv=>rhs;rw [Nat.add_mod,Nat.mul_mod]
 conv=>lhs;rw [Nat.add_mod,Nat.mul_mod,Nat.mod_mod]
theorem rwide_long (A R M:Nat) (hA:A<2^256) (hR:R<2^256) (hM:M<2^256) (hM0:0<M)
  (EQ:∀ w,(Op.equalIn 10000 24 (num M) (.agg #[.int .u64 0,.int .u64 0,.int .u64 0,.int .u64 0])).run Tryz.prog w=.ok false w)
  (CW:∀ w,Calls Tryz.prog 181 #[num M] w fun e w'=>e=.returned (.bool false)∧Below w.heap.size w w') (w:World) :
  Calls Tryz.prog 206 #[num A,num R,num M] w fun e w'=>e=.returned (.tuple #[num (wide R A%M),.int .i64 0])∧Below w.heap.size w w':=by
 obtain ⟨V,hV⟩:∃ V,V=wide R A%M:=⟨_,rfl⟩
 rw [← hV]
 have HV:=Jja hV;have HCW:=Jja CW
 have HA:=Jja hA;have HR:=Jja hR;have HM:=Jja hM;have HM0:=Jja hM0
 clear hV CW hA hR hM hM0
 go_enter Tryz.func206,Tryz.ntmps206
 go_wp2_with (simp only [EQ])
 clear EQ
 have BW:=Jja (Below.refl w.heap.size w)
 generalize hW1:((((w.alloc (.cells (ncs A) 24)).alloc (.cells (ncs R) 24)).alloc (.cells (ncs M) 24)).alloc (.cells #[.int .u64 0,.int .u64 0,.int .u64 0,.int .u64 0] 24))=W1 at *
 have Na:At W1 (w.heap.size) _ _:=Jf hW1 ((((At.at_ _ _ _ _ (by simp)).alloc _).alloc _).alloc _)
 have Nh:At W1 (w.heap.size+1) _ _:=Jf hW1 (((At.at_ _ _ _ _ (by simp)).alloc _).alloc _)
 have Nm:At W1 (w.heap.size+1+1) _ _:=Jf hW1 ((At.at_ _ _ _ _ (by simp)).alloc _)
 have No:At W1 (w.heap.size+1+1+1) _ _:=Jf hW1 (At.at_ _ _ _ _ (by simp))
 have Eo:w.heap.size≤w.heap.size+1+1+1:=by have:=BW.out.size;omega
 have Dao:w.heap.size≠w.heap.size+1+1+1:=by omega
 have Dho:w.heap.size+1≠w.heap.size+1+1+1:=by omega
 have Dmo:w.heap.size+1+1≠w.heap.size+1+1+1:=by omega
 have NB:=Ka hW1 (Jd (Jd (Jd (Jd BW.out _) _) _) _)
 clear BW
 clear hW1
 generalize w.heap.size+1+1+1=go at *
 generalize w.heap.size+1+1=gm at *
 generalize w.heap.size+1=gh at *
 obtain ⟨ga,hg0⟩:∃ g,g=w.heap.size:=⟨_,rfl⟩
 rw [← hg0] at Na ⊢
 rw [← hg0] at Dao
 clear hg0
 have Fa:=Jja Na
 have Fh:=Jja Nh
 have Fm:=Jja Nm
 have Fo:=Jja No
 have BW:=Jja NB
 clear NB Na Nh Nm No
 refine (HCW.out _).mono ?_
 rintro e v2 ⟨rfl,z2⟩
 have Na:=Jja (Fa.out.on z2)
 have Nh:=Jja (Fh.out.on z2)
 have Nm:=Jja (Fm.out.on z2)
 have No:=Jja (Fo.out.on z2)
 have NB:=Jja (Jr BW.out z2)
 clear BW z2 Fa Fh Fm Fo
 have Fa:=Na
 have Fh:=Nh
 have Fm:=Nm
 have Fo:=No
 have BW:=NB
 clear NB Na Nh Nm No
 go_wp2_with fail
 generalize hW3:(v2.alloc (.cells #[.int .u64 0,.int .u64 0,.int .u64 0,.int .u64 0] 24))=W3 at *
 have Nr:At W3 (v2.heap.size) _ _:=Jf hW3 (At.at_ _ _ _ _ (by simp))
 have Er:w.heap.size≤v2.heap.size:=by have:=BW.out.size;omega
 have Dar:ga≠v2.heap.size:=by have:=Fa.out.lt;omega
 have Dhr:gh≠v2.heap.size:=by have:=Fh.out.lt;omega
 have Dmr:gm≠v2.heap.size:=by have:=Fm.out.lt;omega
 have Dor:go≠v2.heap.size:=by have:=Fo.out.lt;omega
 have Na:=Jf hW3 (Fa.out.alloc _)
 have Nh:=Jf hW3 (Fh.out.alloc _)
 have Nm:=Jf hW3 (Fm.out.alloc _)
 have No:=Jf hW3 (Fo.out.alloc _)
 have NB:=Ka hW3 (Jd BW.out _)
 clear BW Fa Fh Fm Fo
 clear hW3
 generalize v2.heap.size=gr at *
 have Fa:=Jja Na
 have Fh:=Jja Nh
 have Fm:=Jja Nm
 have Fo:=Jja No
 have Fr:=Jja Nr
 have BW:=Jja NB
 clear NB Na Nh Nm No Nr
 go_loopw [12] (fun s wr=>∃ i:Nat,i≤256∧s=.int .i64 ((i:Int)-1)∧Hid (At wr ga 24 (ncs A)∧At wr gh 24 (ncs R)∧At wr gm 24 (ncs M)∧At wr go 24 #[.int .u64 0,.int .u64 0,.int .u64 0,.int .u64 0]∧At wr gr 24 (ncs (R/2^i%M))∧Below w.heap.size w wr)) (fun s _=>(intOf s+1).toNat)
 case atStart=>
  refine ⟨256,by omega,rfl,Fa.out,Fh.out,Fm.out,Fo.out,?_,BW.out⟩
  have e:R/2^256%M=0:=by rw [Nat.div_eq_of_lt HR.out,Nat.zero_mod]
  have e2:∀ k,wd (R/2^256%M) k=0:=fun k=>by rw [e];simp [wd]
  (try unfold ncs);rw [e2,e2,e2,e2];exact Fr.out
 case round=>
  obtain ⟨i,hi,rfl,hM⟩:=hrel
  clear BW Fa Fh Fm Fo Fr
  have Fa:=Jja hM.out.1
  have Fh:=Jja hM.out.2.1
  have Fm:=Jja hM.out.2.2.1
  have Fo:=Jja hM.out.2.2.2.1
  have Fr:=Jja hM.out.2.2.2.2.1
  have BW:=Jja hM.out.2.2.2.2.2
  clear hM
  by_cases h0:i=0
  ·subst h0
   have Nr:=Fr.out
   rw [Nat.pow_zero,Nat.div_one] at Nr
   clear Fr
   have Fr:=Jja Nr
   clear Nr
   go_wp2_with fail
   go_loopw [13] (fun s wr=>∃ i:Nat,i≤256∧s=.int .i64 ((i:Int)-1)∧Hid (At wr ga 24 (ncs A)∧At wr gh 24 (ncs R)∧At wr gm 24 (ncs M)∧At wr go 24 #[.int .u64 0,.int .u64 0,.int .u64 0,.int .u64 0]∧At wr gr 24 (ncs (wide R A/2^i%M))∧Below w.heap.size w wr)) (fun s _=>(intOf s+1).toNat)
   case atStart=>
    refine ⟨256,by omega,rfl,Fa.out,Fh.out,Fm.out,Fo.out,?_,BW.out⟩
    have e:wide R A/2^256%M=R%M:=by rw [Jdp R A 256 (Nat.le_refl _),Nat.div_eq_of_lt HA.out];simp
    rw [e];exact Fr.out
   case round=>
    obtain ⟨i,hi,rfl,hM⟩:=hrel
    clear BW Fa Fh Fm Fo Fr
    have Fa:=Jja hM.out.1
    have Fh:=Jja hM.out.2.1
    have Fm:=Jja hM.out.2.2.1
    have Fo:=Jja hM.out.2.2.2.1
    have Fr:=Jja hM.out.2.2.2.2.1
    have BW:=Jja hM.out.2.2.2.2.2
    clear hM
    by_cases h0:i=0
    ·subst h0
     have Nr:=Fr.out
     rw [Nat.pow_zero,Nat.div_one,← HV.out] at Nr
     clear Fr
     have Fr:=Jja Nr
     clear Nr
     have Lr:=Fr.out.lt
     have cr0:=Fr.out.c0;have cr1:=Fr.out.c1;have cr2:=Fr.out.c2;have cr3:=Fr.out.c3
     have Lo:=Fo.out.lt
     have co0:wr.cell? ⟨go,0,none⟩=some (.int .u64 0):=Fo.out.cell 0
     have co1:wr.cell? ⟨go,1,none⟩=some (.int .u64 0):=Fo.out.cell 1
     have co2:wr.cell? ⟨go,2,none⟩=some (.int .u64 0):=Fo.out.cell 2
     have co3:wr.cell? ⟨go,3,none⟩=some (.int .u64 0):=Fo.out.cell 3
     obtain ⟨fo0,fo1,fo2,fo3⟩:=Vo Fo.out
     go_wp2_with fail
     generalize hW4:((((wr.setCell ⟨go,0,none⟩ (.int .u64 (wd V 0))).setCell ⟨go,1,none⟩ (.int .u64 (wd V 1))).setCell ⟨go,2,none⟩ (.int .u64 (wd V 2))).setCell ⟨go,3,none⟩ (.int .u64 (wd V 3)))=W4 at *
     clear Lr cr0 cr1 cr2 cr3 Lo co0 co1 co2 co3 fo0 fo1 fo2 fo3
     have Na_0:=Jf hW4 ((Fa.out).far4 Dao _ _ _ _)
     have Nh_0:=Jf hW4 ((Fh.out).far4 Dho _ _ _ _)
     have Nm_0:=Jf hW4 ((Fm.out).far4 Dmo _ _ _ _)
     have No_0:=Jf hW4 ((Fo.out).put4 _ _ _ _)
     have Nr_0:=Jf hW4 ((Fr.out).far4 Dor.symm _ _ _ _)
     have NB_0:=Ka hW4 (((((BW.out).setCell Eo _).setCell Eo _).setCell Eo _).setCell Eo _)
     have Na:=Na_0
     have Nh:=Nh_0
     have Nm:=Nm_0
     have No:=No_0
     have Nr:=Nr_0
     have NB:=NB_0
     clear BW Fa Fh Fm Fo Fr Na_0 Nh_0 Nm_0 No_0 Nr_0 NB_0
     clear hW4
     have Fa:=Jja Na
     have Fh:=Jja Nh
     have Fm:=Jja Nm
     have Fo:=Jja No
     have Fr:=Jja Nr
     have BW:=Jja NB
     clear NB Na Nh Nm No Nr
     have Lo:=Fo.out.lt
     have co0:=Fo.out.c0;have co1:=Fo.out.c1;have co2:=Fo.out.c2;have co3:=Fo.out.c3
     exact bodyPost_ret (v:=.tuple #[num V,.int .i64 0]) (by simp [results,Tryz.results206,go_sem, *]) rfl ⟨rfl,BW.out⟩
    ·obtain ⟨j,rfl⟩:∃ j,i=j+1:=⟨i-1,by omega⟩
     have e1:(((j+1:Nat):Int)-1)=(j:Nat):=by omega
     rw [e1]
     clear e1 h0
     have hb:(wide R A)/2^j%2≤1:=by omega
     have hbt:bt A (j:Int)=(wide R A)/2^j%2:=(wide_bit R A j (by omega)).symm
     have CB:=Jgc A HA.out (j:Int)
     rw [hbt] at CB
     have hlt:=Nat.mod_lt ((wide R A)/2^(j+1)) HM0.out
     have hdn:=bit_down (wide R A) M j HM0.out
     have CT:=rtwice_any ((wide R A)/2^(j+1)%M) M ((wide R A)/2^j%2) ((2*((wide R A)/2^(j+1)%M)+(wide R A)/2^j%2)/M) ((wide R A)/2^j%M) hlt HM.out hb (by rw [Nat.div_le_iff_le_mul_add_pred HM0.out];omega) (Nat.mod_lt _ HM0.out) (by rw [← hdn,Nat.mul_comm _ M];exact (Nat.div_add_mod _ _).symm)
     obtain ⟨z,hz⟩:∃ z,(wide R A)/2^j%2=z:=⟨_,rfl⟩
     obtain ⟨y,hy⟩:∃ y,(wide R A)/2^j%M=y:=⟨_,rfl⟩
     obtain ⟨x,hx⟩:∃ x,(wide R A)/2^(j+1)%M=x:=⟨_,rfl⟩
     rw [hz] at CB CT;rw [hy,hx] at CT
     have HB:=Jja CB;have HT:=Jja CT;have HY:=Jja hy
     have Nr:=Fr.out
     rw [hx] at Nr
     clear Fr CB CT hlt hdn hb hbt hz hy hx
     have Fr:=Jja Nr
     clear Nr
     have j0:(0:Int)≤(j:Int):=by omega
     go_wp2_with fail
     try simp only [List.append_eq,List.cons_append,List.nil_append]
     refine wp_region_noPanic ?_
     refine wp_region_held_drew (S:=fun w'=>True) (by kernel_rfl) (trivial) (fun _=>?_)
     refine Jy (fuel:=1) (⟨0,58,[],Kind.val (num x),false⟩::⟨1,59,[],Kind.val (num A),false⟩::⟨2,60,[],Kind.val (.int .i64 (j:Nat)),true⟩::⟨3,61,[1,2],Kind.val (.int .u64 (z:Nat)),false⟩::⟨4,62,[],Kind.val (num M),false⟩::⟨5,63,[0,3,4],Kind.val (num y),false⟩::[]) _ _ wr _ ?_ ?_ ?_ ?_ ?_ ?_ ?_ ?_ ?_ ?_ ?_
     ·rfl
     ·kernel_rfl
     ·exact of_decide_eq_true rfl
     ·(repeat refine all_cons ⟨_,rfl,rfl⟩ ?_);exact all_nil
     ·exact fun _ hb=>trivial
     ·exact (Below.refl _ _).drew
     ·kernel_rfl
     ·exact fun _ _ _ _ _ h=>h
     ·(repeat (refine all_cons ?_ ?_;rotate_left));exact all_nil
      all_goals try exact Jm _ (by rfl)
      ·exact Wf _ _ _ _ _ _ (by rfl) (by rfl) (ko 13)
     ·(repeat (refine all_cons ?_ ?_;rotate_left));exact all_nil
      ·exact fun _=>Ud _ _ _ _ _ gr _ _ _ _ (by rfl) (by rfl) (ko 11) Fr.out
      ·exact fun _=>Ud _ _ _ _ _ ga _ _ _ _ (by rfl) (by rfl) (ko 3) Fa.out
      ·exact sA
      ·exact fun _=>Uj _ 183 _ _ [.tmp 59,.tmp 60] _ _ _ _ _ _ (by rfl) Tryz.func183 (by kernel_rfl) (by rfl) (by rfl) (.cons (kc 1 59) (.cons (kc 2 60) .nil)) (HB.out)
      ·exact fun _=>Ud _ _ _ _ _ gm _ _ _ _ (by rfl) (by rfl) (ko 5) Fm.out
      ·exact fun _=>Uj _ 218 _ _ [.tmp 58,.tmp 61,.tmp 62] _ _ _ _ _ _ (by rfl) Tryz.func218 (by kernel_rfl) (by rfl) (by rfl) (.cons (kc 0 58) (.cons (kc 3 61) (.cons (kc 4 62) .nil))) (HT.out)
     intro vs y4 hc
     obtain ⟨vv0,vv1,vv2,vv3,vv4,vv5,rfl⟩:=Jiw vs hc.lv
     have qq0:=okv hc 0
     have qq1:=okv hc 1
     have qq2:=okv hc 2
     have qq3:=okv hc 3
     have qq4:=okv hc 4
     have qq5:=okv hc 5
     have BZ:=hc.bel
     clear hc
     have Na:=Fa.out.on BZ
     have Nh:=Fh.out.on BZ
     have Nm:=Fm.out.on BZ
     have No:=Fo.out.on BZ
     have Nr:=Fr.out.on BZ
     have HSZ4:=BW.out.size
     have NB:=Jr BW.out BZ
     clear BW BZ Fa Fh Fm Fo Fr
     subst qq0 qq1 qq2 qq3 qq4 qq5
     simp only [List.map_cons,List.map_nil,over,Act.put,List.setIfInBounds_toArray,List.set_cons_zero,List.set_cons_succ]
     have OLD:=Nr
     replace Na:=p4f Na Dar y
     replace Nh:=p4f Nh Dhr y
     replace Nm:=p4f Nm Dmr y
     replace No:=p4f No Dor y
     replace Nr:=p4a Nr y
     replace NB:=p4b NB Er y
     refine Vg (i:=6) _ _ _ _ _ gr _ _ _ _ _ _ _ _ (by kernel_rfl) (by rfl) (by rfl) (by rfl) OLD (trivial) ?_
     clear OLD
     generalize (put4 y4 gr (.int .u64 (wd y 0)) (.int .u64 (wd y 1)) (.int .u64 (wd y 2)) (.int .u64 (wd y 3)))=y4_6 at *
     refine wpAnyH_done (by kernel_rfl) ?_ _
     refine NoPanic.normal ?_
     have Fa:=Jja Na
     have Fh:=Jja Nh
     have Fm:=Jja Nm
     have Fo:=Jja No
     have Fr:=Jja Nr
     have BW:=Jja NB
     clear NB Na Nh Nm No Nr
     clear HSZ4
     go_wp2_with fail
     go_roundw
     case rel=>
      have Nr:=Fr.out
      rw [← HY.out] at Nr
      first
       | exact ⟨j,by omega,by go_num,Fa.out,Fh.out,Fm.out,Fo.out,Nr,BW.out⟩
       | ((repeat apply Exists.intro);exact ⟨⟨j,by omega,by go_num,Fa.out,Fh.out,Fm.out,Fo.out,Nr,BW.out⟩,rfl⟩)
     case measure=>(simp [intOf] <;> omega)
  ·obtain ⟨j,rfl⟩:∃ j,i=j+1:=⟨i-1,by omega⟩
   have e1:(((j+1:Nat):Int)-1)=(j:Nat):=by omega
   rw [e1]
   clear e1 h0
   have hb:R/2^j%2≤1:=by omega
   have hbt:bt R (j:Int)=R/2^j%2:=by unfold bt;rw [if_neg (by omega),Int.toNat_natCast]
   have CB:=Jgc R HR.out (j:Int)
   rw [hbt] at CB
   have hlt:=Nat.mod_lt (R/2^(j+1)) HM0.out
   have hdn:=bit_down R M j HM0.out
   have CT:=rtwice_any (R/2^(j+1)%M) M (R/2^j%2) ((2*(R/2^(j+1)%M)+R/2^j%2)/M) (R/2^j%M) hlt HM.out hb (by rw [Nat.div_le_iff_le_mul_add_pred HM0.out];omega) (Nat.mod_lt _ HM0.out) (by rw [← hdn,Nat.mul_comm _ M];exact (Nat.div_add_mod _ _).symm)
   obtain ⟨z,hz⟩:∃ z,R/2^j%2=z:=⟨_,rfl⟩
   obtain ⟨y,hy⟩:∃ y,R/2^j%M=y:=⟨_,rfl⟩
   obtain ⟨x,hx⟩:∃ x,R/2^(j+1)%M=x:=⟨_,rfl⟩
   rw [hz] at CB CT;rw [hy,hx] at CT
   have HB:=Jja CB;have HT:=Jja CT;have HY:=Jja hy
   have Nr:=Fr.out
   rw [hx] at Nr
   clear Fr CB CT hlt hdn hb hbt hz hy hx
   have Fr:=Jja Nr
   clear Nr
   have j0:(0:Int)≤(j:Int):=by omega
   go_wp2_with fail
   try simp only [List.append_eq,List.cons_append,List.nil_append]
   refine wp_region_noPanic ?_
   refine wp_region_held_drew (S:=fun w'=>True) (by kernel_rfl) (trivial) (fun _=>?_)
   refine Jy (fuel:=1) (⟨0,48,[],Kind.val (num x),false⟩::⟨1,49,[],Kind.val (num R),false⟩::⟨2,50,[],Kind.val (.int .i64 (j:Nat)),true⟩::⟨3,51,[1,2],Kind.val (.int .u64 (z:Nat)),false⟩::⟨4,52,[],Kind.val (num M),false⟩::⟨5,53,[0,3,4],Kind.val (num y),false⟩::[]) _ _ wr _ ?_ ?_ ?_ ?_ ?_ ?_ ?_ ?_ ?_ ?_ ?_
   ·rfl
   ·kernel_rfl
   ·exact of_decide_eq_true rfl
   ·(repeat refine all_cons ⟨_,rfl,rfl⟩ ?_);exact all_nil
   ·exact fun _ hb=>trivial
   ·exact (Below.refl _ _).drew
   ·kernel_rfl
   ·exact fun _ _ _ _ _ h=>h
   ·(repeat (refine all_cons ?_ ?_;rotate_left));exact all_nil
    all_goals try exact Jm _ (by rfl)
    ·exact Wf _ _ _ _ _ _ (by rfl) (by rfl) (ko 12)
   ·(repeat (refine all_cons ?_ ?_;rotate_left));exact all_nil
    ·exact fun _=>Ud _ _ _ _ _ gr _ _ _ _ (by rfl) (by rfl) (ko 11) Fr.out
    ·exact fun _=>Ud _ _ _ _ _ gh _ _ _ _ (by rfl) (by rfl) (ko 4) Fh.out
    ·exact sA
    ·exact fun _=>Uj _ 183 _ _ [.tmp 49,.tmp 50] _ _ _ _ _ _ (by rfl) Tryz.func183 (by kernel_rfl) (by rfl) (by rfl) (.cons (kc 1 49) (.cons (kc 2 50) .nil)) (HB.out)
    ·exact fun _=>Ud _ _ _ _ _ gm _ _ _ _ (by rfl) (by rfl) (ko 5) Fm.out
    ·exact fun _=>Uj _ 218 _ _ [.tmp 48,.tmp 51,.tmp 52] _ _ _ _ _ _ (by rfl) Tryz.func218 (by kernel_rfl) (by rfl) (by rfl) (.cons (kc 0 48) (.cons (kc 3 51) (.cons (kc 4 52) .nil))) (HT.out)
   intro vs y4 hc
   obtain ⟨vv0,vv1,vv2,vv3,vv4,vv5,rfl⟩:=Jiw vs hc.lv
   have qq0:=okv hc 0
   have qq1:=okv hc 1
   have qq2:=okv hc 2
   have qq3:=okv hc 3
   have qq4:=okv hc 4
   have qq5:=okv hc 5
   have BZ:=hc.bel
   clear hc
   have Na:=Fa.out.on BZ
   have Nh:=Fh.out.on BZ
   have Nm:=Fm.out.on BZ
   have No:=Fo.out.on BZ
   have Nr:=Fr.out.on BZ
   have HSZ4:=BW.out.size
   have NB:=Jr BW.out BZ
   clear BW BZ Fa Fh Fm Fo Fr
   subst qq0 qq1 qq2 qq3 qq4 qq5
   simp only [List.map_cons,List.map_nil,over,Act.put,List.setIfInBounds_toArray,List.set_cons_zero,List.set_cons_succ]
   have OLD:=Nr
   replace Na:=p4f Na Dar y
   replace Nh:=p4f Nh Dhr y
   replace Nm:=p4f Nm Dmr y
   replace No:=p4f No Dor y
   replace Nr:=p4a Nr y
   replace NB:=p4b NB Er y
   refine Vg (i:=6) _ _ _ _ _ gr _ _ _ _ _ _ _ _ (by kernel_rfl) (by rfl) (by rfl) (by rfl) OLD (trivial) ?_
   clear OLD
   generalize (put4 y4 gr (.int .u64 (wd y 0)) (.int .u64 (wd y 1)) (.int .u64 (wd y 2)) (.int .u64 (wd y 3)))=y4_6 at *
   refine wpAnyH_done (by kernel_rfl) ?_ _
   refine NoPanic.normal ?_
   have Fa:=Jja Na
   have Fh:=Jja Nh
   have Fm:=Jja Nm
   have Fo:=Jja No
   have Fr:=Jja Nr
   have BW:=Jja NB
   clear NB Na Nh Nm No Nr
   clear HSZ4
   go_wp2_with fail
   go_roundw
   case rel=>
    have Nr:=Fr.out
    rw [← HY.out] at Nr
    first
     | exact ⟨j,by omega,by go_num,Fa.out,Fh.out,Fm.out,Fo.out,Nr,BW.out⟩
     | ((repeat apply Exists.intro);exact ⟨⟨j,by omega,by go_num,Fa.out,Fh.out,Fm.out,Fo.out,Nr,BW.out⟩,rfl⟩)
   case measure=>(simp [intOf] <;> omega)
theorem rcommon_any (DV:∀ X Y:Nat,X<2^256→Y<2^256→Y≠0→∃ Q r:Nat,r<Y∧X=Q*Y+r∧∀ w,Calls Tryz.prog 121 #[num X,num Y] w fun e w'=>e=.returned (.tuple #[num Q,num r,.int .i64 0])∧Below w.heap.size w w')
  (A B:Nat) (hA:A<2^256) (hB:B<2^256) (w:World):Calls Tryz.prog 211 #[num A,num B] w fun e w'=>e=.returned (num (Nat.gcd A B))∧Below w.heap.size w w':=by
 have HDV:=Jja DV
 clear DV
 go_enter Tryz.func211,Tryz.ntmps211
 go_wp2_with fail
 have BW:=Jja (Below.refl w.heap.size w)
 generalize hW1:(((w.alloc (.cells (ncs A) 24)).alloc (.cells (ncs B) 24)).alloc (.cells #[.int .u64 0,.int .u64 0,.int .u64 0,.int .u64 0] 24))=W1 at *
 have Na:At W1 (w.heap.size) _ _:=Jf hW1 (((At.at_ _ _ _ _ (by simp)).alloc _).alloc _)
 have Nb:At W1 (w.heap.size+1) _ _:=Jf hW1 ((At.at_ _ _ _ _ (by simp)).alloc _)
 have Eb:w.heap.size≤w.heap.size+1:=by have:=BW.out.size;omega
 have Dab:w.heap.size≠w.heap.size+1:=by omega
 have Nq:At W1 (w.heap.size+1+1) _ _:=Jf hW1 (At.at_ _ _ _ _ (by simp))
 have Eq:w.heap.size≤w.heap.size+1+1:=by have:=BW.out.size;omega
 have Daq:w.heap.size≠w.heap.size+1+1:=by omega
 have Dbq:w.heap.size+1≠w.heap.size+1+1:=by omega
 have NB:=Ka hW1 (Jd (Jd (Jd BW.out _) _) _)
 clear BW
 clear hW1
 generalize w.heap.size+1+1=gq at *
 generalize w.heap.size+1=gb at *
 obtain ⟨ga,hg0⟩:∃ g,g=w.heap.size:=⟨_,rfl⟩
 rw [← hg0] at Na ⊢
 rw [← hg0] at Dab Daq
 have Ea:w.heap.size≤ga:=by omega
 clear hg0
 have Fa:=Jja Na
 have Fb:=Jja Nb
 have Fq:=Jja Nq
 have BW:=Jja NB
 clear NB Na Nb Nq
 go_loopw [] (fun wr=>∃ X Y:Nat,X<2^256∧Y<2^256∧Hid (At wr ga 24 (ncs X)∧At wr gb 24 (ncs Y)∧At wr gq 24 #[.int .u64 0,.int .u64 0,.int .u64 0,.int .u64 0]∧Below w.heap.size w wr∧Nat.gcd X Y=Nat.gcd A B)) (fun wr=>Xp wr gb)
 case atStart=>exact ⟨A,B,hA,hB,Fa.out,Fb.out,Fq.out,BW.out,rfl⟩
 case round=>
  obtain ⟨X,Y,hX,hY,hM⟩:=hrel
  clear Fa Fb Fq BW
  have HMS:=Jja (hM.out.2.1.val hY)
  have eqz:=eqZ Y hY
  by_cases hy:Y=0
  ·have Fa:=Jja hM.out.1;have Fb:=Jja hM.out.2.1;have Fq:=Jja hM.out.2.2.1;have BW:=Jja hM.out.2.2.2.1;have HG:=Jja hM.out.2.2.2.2
   clear hM
   rw [decide_eq_true hy] at eqz
   have HY0:=Jja hy
   clear hy
   have Lb:=Fb.out.lt
   have cb0:=Fb.out.c0;have cb1:=Fb.out.c1;have cb2:=Fb.out.c2;have cb3:=Fb.out.c3
   have La:=Fa.out.lt
   have ca0:=Fa.out.c0;have ca1:=Fa.out.c1;have ca2:=Fa.out.c2;have ca3:=Fa.out.c3
   have Lq:=Fq.out.lt
   have cq0:wr.cell? ⟨gq,0,none⟩=some (.int .u64 0):=Fq.out.cell 0
   have cq1:wr.cell? ⟨gq,1,none⟩=some (.int .u64 0):=Fq.out.cell 1
   have cq2:wr.cell? ⟨gq,2,none⟩=some (.int .u64 0):=Fq.out.cell 2
   have cq3:wr.cell? ⟨gq,3,none⟩=some (.int .u64 0):=Fq.out.cell 3
   obtain ⟨fq0,fq1,fq2,fq3⟩:=Vo Fq.out
   go_wp2_with (simp only [eqz])
   generalize hW2:((((wr.setCell ⟨gq,0,none⟩ (.int .u64 (wd X 0))).setCell ⟨gq,1,none⟩ (.int .u64 (wd X 1))).setCell ⟨gq,2,none⟩ (.int .u64 (wd X 2))).setCell ⟨gq,3,none⟩ (.int .u64 (wd X 3)))=W2 at *
   clear Lb cb0 cb1 cb2 cb3 La ca0 ca1 ca2 ca3 Lq cq0 cq1 cq2 cq3 fq0 fq1 fq2 fq3
   have Na_0:=Jf hW2 ((Fa.out).far4 Daq _ _ _ _)
   have Nb_0:=Jf hW2 ((Fb.out).far4 Dbq _ _ _ _)
   have Nq_0:=Jf hW2 ((Fq.out).put4 _ _ _ _)
   have NB_0:=Ka hW2 (((((BW.out).setCell Eq _).setCell Eq _).setCell Eq _).setCell Eq _)
   have Na:=Na_0
   have Nb:=Nb_0
   have Nq:=Nq_0
   have NB:=NB_0
   clear BW Fa Fb Fq Na_0 Nb_0 Nq_0 NB_0
   clear hW2
   have Fa:=Jja Na
   have Fb:=Jja Nb
   have Fq:=Jja Nq
   have BW:=Jja NB
   clear NB Na Nb Nq
   have Lq:=Fq.out.lt
   have cq0:=Fq.out.c0;have cq1:=Fq.out.c1;have cq2:=Fq.out.c2;have cq3:=Fq.out.c3
   refine bodyPost_ret (v:=num X) (by simp [results,Tryz.results211,go_sem, *]) rfl ⟨by rw [← HG.out,HY0.out,Nat.gcd_zero_right],BW.out⟩
  ·obtain ⟨Q,r,hr,he,C⟩:=HDV.out X Y hX hY hy
   rw [decide_eq_false hy] at eqz
   have HC:=Jja C;have HE:=Jja he;have HR:=Jja hr;have HY:=Jja hY
   clear C he hr hY hy
   have Fa:=Jja hM.out.1;have Fb:=Jja hM.out.2.1;have Fq:=Jja hM.out.2.2.1;have BW:=Jja hM.out.2.2.2.1;have HG:=Jja hM.out.2.2.2.2
   clear hM
   have La:=Fa.out.lt
   have ca0:=Fa.out.c0;have ca1:=Fa.out.c1;have ca2:=Fa.out.c2;have ca3:=Fa.out.c3
   have Lb:=Fb.out.lt
   have cb0:=Fb.out.c0;have cb1:=Fb.out.c1;have cb2:=Fb.out.c2;have cb3:=Fb.out.c3
   go_wp2_with (simp only [eqz])
   clear La ca0 ca1 ca2 ca3 Lb cb0 cb1 cb2 cb3
   refine (HC.out _).mono ?_
   rintro e v3 ⟨rfl,z3⟩
   have Na:=Jja (Fa.out.on z3)
   have Nb:=Jja (Fb.out.on z3)
   have Nq:=Jja (Fq.out.on z3)
   have NB:=Jja (Jr BW.out z3)
   clear BW z3 Fa Fb Fq
   have Fa:=Na
   have Fb:=Nb
   have Fq:=Nq
   have BW:=NB
   clear NB Na Nb Nq
   have Lb:=Fb.out.lt
   have cb0:=Fb.out.c0;have cb1:=Fb.out.c1;have cb2:=Fb.out.c2;have cb3:=Fb.out.c3
   have La:=Fa.out.lt
   have ca0:=Fa.out.c0;have ca1:=Fa.out.c1;have ca2:=Fa.out.c2;have ca3:=Fa.out.c3
   obtain ⟨fa0,fa1,fa2,fa3⟩:=Vo Fa.out
   have Lb:=Fb.out.lt
   have cb0:=Fb.out.c0;have cb1:=Fb.out.c1;have cb2:=Fb.out.c2;have cb3:=Fb.out.c3
   have Lb:=Fb.out.lt
   have cb0:=Fb.out.c0;have cb1:=Fb.out.c1;have cb2:=Fb.out.c2;have cb3:=Fb.out.c3
   obtain ⟨fb0,fb1,fb2,fb3⟩:=Vo Fb.out
   go_wp2_with fail
   generalize hW4:((((((((v3.setCell ⟨ga,0,none⟩ (.int .u64 (wd Y 0))).setCell ⟨ga,1,none⟩ (.int .u64 (wd Y 1))).setCell ⟨ga,2,none⟩ (.int .u64 (wd Y 2))).setCell ⟨ga,3,none⟩ (.int .u64 (wd Y 3))).setCell ⟨gb,0,none⟩ (.int .u64 (wd r 0))).setCell ⟨gb,1,none⟩ (.int .u64 (wd r 1))).setCell ⟨gb,2,none⟩ (.int .u64 (wd r 2))).setCell ⟨gb,3,none⟩ (.int .u64 (wd r 3)))=W4 at *
   clear Lb cb0 cb1 cb2 cb3 La ca0 ca1 ca2 ca3 fa0 fa1 fa2 fa3 fb0 fb1 fb2 fb3
   have Na_1:=Jf hW4 ((((Fa.out).put4 _ _ _ _)).far4 Dab _ _ _ _)
   have Nb_1:=Jf hW4 ((((Fb.out).far4 Dab.symm _ _ _ _)).put4 _ _ _ _)
   have Nq_1:=Jf hW4 ((((Fq.out).far4 Daq.symm _ _ _ _)).far4 Dbq.symm _ _ _ _)
   have NB_1:=Ka hW4 ((((((((((BW.out).setCell Ea _).setCell Ea _).setCell Ea _).setCell Ea _)).setCell Eb _).setCell Eb _).setCell Eb _).setCell Eb _)
   have Na:=Na_1
   have Nb:=Nb_1
   have Nq:=Nq_1
   have NB:=NB_1
   clear BW Fa Fb Fq Na_1 Nb_1 Nq_1 NB_1
   clear hW4
   have Fa:=Jja Na
   have Fb:=Jja Nb
   have Fq:=Jja Nq
   have BW:=Jja NB
   generalize hW5:((W4.alloc (.cells (ncs Q) 24)).alloc (.cells (ncs r) 24))=W5 at *
   clear NB Na Nb Nq
   have Nh:At W5 (W4.heap.size) _ _:=Jf hW5 ((At.at_ _ _ _ _ (by simp)).alloc _)
   have Dah:ga≠W4.heap.size:=by have:=Fa.out.lt;omega
   have Dbh:gb≠W4.heap.size:=by have:=Fb.out.lt;omega
   have Dqh:gq≠W4.heap.size:=by have:=Fq.out.lt;omega
   have Nl:At W5 (W4.heap.size+1) _ _:=Jf hW5 (At.at_ _ _ _ _ (by simp))
   have Dal:ga≠W4.heap.size+1:=by have:=Fa.out.lt;omega
   have Dbl:gb≠W4.heap.size+1:=by have:=Fb.out.lt;omega
   have Dql:gq≠W4.heap.size+1:=by have:=Fq.out.lt;omega
   have Na:=Jf hW5 ((Fa.out.alloc _).alloc _)
   have Nb:=Jf hW5 ((Fb.out.alloc _).alloc _)
   have Nq:=Jf hW5 ((Fq.out.alloc _).alloc _)
   have NB:=Ka hW5 (Jd (Jd BW.out _) _)
   clear BW Fa Fb Fq
   clear hW5
   generalize W4.heap.size+1=gl at *
   generalize W4.heap.size=gh at *
   have Fa:=Jja Na
   have Fb:=Jja Nb
   have Fq:=Jja Nq
   have Fh:=Jja Nh
   have Fl:=Jja Nl
   have BW:=Jja NB
   clear NB Na Nb Nq Nh Nl
   go_roundw
   case rel=>
    have hr:=HR.out
    have hY:=HY.out
    refine ⟨Y,r,hY,by omega,Fa.out,Fb.out,Fq.out,BW.out,?_⟩
    rw [← HG.out,HE.out,Nat.gcd_comm (Q*Y+r),Nat.mul_comm Q Y]
    simp
   case measure=>
    have hr:=HR.out
    have hY:=HY.out
    rw [HMS.out,Fb.out.val (by omega)];exact hr
end Go.Proofs.YtmmgmljkmmgjdaaGreatDoor
