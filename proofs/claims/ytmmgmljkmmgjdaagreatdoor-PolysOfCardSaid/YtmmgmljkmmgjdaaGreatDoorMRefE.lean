import Derived.Test.YtmmgmljkmmgjdaaGreatDoorMRefD
import Derived.Test.YtmmgmljkmmgjdaaGreatDoorMTree
namespace Go.Proofs.YtmmgmljkmmgjdaaGreatDoor
set_option maxRecDepth 100000
set_option maxHeartbeats 8000000
open Go.RowKit
set_option linter.unusedSimpArgs false
set_option linter.unusedVariables false
attribute [local go_sem ↓] Go.wp_at_zero Go.wp_at_succ

theorem ri_none (A M g:Nat)
  (cm:∀ w,Calls Tryz.prog 185 #[num A,num A,num M] w fun e w'=>e=.returned (.bool true)∧Below w.heap.size w w')
  (cc:∀ w,Calls Tryz.prog 211 #[num A,num M] w fun e w'=>e=.returned (num g)∧Below w.heap.size w w')
  (co:∀ w,Calls Tryz.prog 122 #[.int .u64 1] w fun e w'=>e=.returned (num 1)∧Below w.heap.size w w')
  (EG:∀ w:World,(Op.equalIn 10000 24 (num g) (num 1)).run Tryz.prog w=.ok false w)
  (w:World):Calls Tryz.prog 194 #[num A,num M] w fun e w'=>e=.returned (.tuple #[.agg #[.int .u64 0,.int .u64 0,.int .u64 0,.int .u64 0],.int .i64 7])∧Below w.heap.size w w':=by
 have Hcm:=Jja cm
 have Hcc:=Jja cc
 have Hco:=Jja co
 have HEG:=Jja EG
 clear cm cc co EG
 go_enter Tryz.func194,Tryz.ntmps194
 go_wp2_with fail
 have BW:=Jja (Below.refl w.heap.size w)
 have Eo:w.heap.size≤w.heap.size+1+1:=by have:=BW.out.size;omega
 have Dao:w.heap.size≠w.heap.size+1+1:=by omega
 have Dmo:w.heap.size+1≠w.heap.size+1+1:=by omega
 generalize hW1:(((w.alloc (.cells (ncs A) 24)).alloc (.cells (ncs M) 24)).alloc (.cells #[.int .u64 0,.int .u64 0,.int .u64 0,.int .u64 0] 24))=W1 at *
 have Na:At W1 (w.heap.size) _ _:=Jf hW1 (((At.at_ _ _ _ _ (by simp)).alloc _).alloc _)
 have Nm:At W1 (w.heap.size+1) _ _:=Jf hW1 ((At.at_ _ _ _ _ (by simp)).alloc _)
 have No:At W1 (w.heap.size+1+1) _ _:=Jf hW1 (At.at_ _ _ _ _ (by simp))
 have NB:=Ka hW1 (Jd (Jd (Jd BW.out _) _) _)
 clear hW1 BW 
 generalize w.heap.size+1+1=go at *
 generalize w.heap.size+1=gm at *
 obtain ⟨ga,hg0⟩:∃ g,g=w.heap.size:=⟨_,rfl⟩
 rw [← hg0] at Na ⊢
 rw [← hg0] at Dao
 clear hg0
 have Fa:=Jja Na
 have Fm:=Jja Nm
 have Fo:=Jja No
 have BW:=Jja NB
 clear NB Na Nm No
 refine (Hcm.out _).mono ?_
 rintro e v2 ⟨rfl,z2⟩
 have Na:=Jja (Fa.out.on z2)
 have Nm:=Jja (Fm.out.on z2)
 have No:=Jja (Fo.out.on z2)
 have NB:=Jja (Jr BW.out z2)
 clear BW z2 Fa Fm Fo
 have Fa:=Na
 have Fm:=Nm
 have Fo:=No
 have BW:=NB
 clear NB Na Nm No
 have La:=Fa.out.lt
 have ca0:=Fa.out.c0;have ca1:=Fa.out.c1;have ca2:=Fa.out.c2;have ca3:=Fa.out.c3
 have Lm:=Fm.out.lt
 have cm0:=Fm.out.c0;have cm1:=Fm.out.c1;have cm2:=Fm.out.c2;have cm3:=Fm.out.c3
 go_wp2_with fail
 clear La ca0 ca1 ca2 ca3 Lm cm0 cm1 cm2 cm3
 refine (Hcc.out _).mono ?_
 rintro e v3 ⟨rfl,z3⟩
 have Na:=Jja (Fa.out.on z3)
 have Nm:=Jja (Fm.out.on z3)
 have No:=Jja (Fo.out.on z3)
 have NB:=Jja (Jr BW.out z3)
 clear BW z3 Fa Fm Fo
 have Fa:=Na
 have Fm:=Nm
 have Fo:=No
 have BW:=NB
 clear NB Na Nm No
 go_wp2_with fail
 refine (Hco.out _).mono ?_
 rintro e v4 ⟨rfl,z4⟩
 have Na:=Jja (Fa.out.on z4)
 have Nm:=Jja (Fm.out.on z4)
 have No:=Jja (Fo.out.on z4)
 have NB:=Jja (Jr BW.out z4)
 clear BW z4 Fa Fm Fo
 have Fa:=Na
 have Fm:=Nm
 have Fo:=No
 have BW:=NB
 clear NB Na Nm No
 have eg:=HEG.out
 have Lo:=Fo.out.lt
 have co0:=Fo.out.c0;have co1:=Fo.out.c1;have co2:=Fo.out.c2;have co3:=Fo.out.c3
 obtain ⟨fo0,fo1,fo2,fo3⟩:=Vo Fo.out
 go_wp2_with fail
 clear eg Lo co0 co1 co2 co3 fo0 fo1 fo2 fo3
 generalize hW5:((((v4.setCell ⟨go,0,none⟩ (.int .u64 0)).setCell ⟨go,1,none⟩ (.int .u64 0)).setCell ⟨go,2,none⟩ (.int .u64 0)).setCell ⟨go,3,none⟩ (.int .u64 0))=W5 at *
 have Na:=Jf hW5 ((Fa.out).far4 Dao _ _ _ _)
 have Nm:=Jf hW5 ((Fm.out).far4 Dmo _ _ _ _)
 have No:=Jf hW5 ((Fo.out).put4 _ _ _ _)
 have NB:=Ka hW5 (((((BW.out).setCell Eo _).setCell Eo _).setCell Eo _).setCell Eo _)
 clear hW5 BW Fa Fm Fo
 have Fa:=Jja Na
 have Fm:=Jja Nm
 have Fo:=Jja No
 have BW:=Jja NB
 clear NB Na Nm No
 have Lo:=Fo.out.lt
 have co0:=Fo.out.c0;have co1:=Fo.out.c1;have co2:=Fo.out.c2;have co3:=Fo.out.c3
 refine bodyPost_ret (v:=.tuple #[.agg #[.int .u64 0,.int .u64 0,.int .u64 0,.int .u64 0],.int .i64 7]) (by simp [results,Tryz.results194,go_sem, *]) rfl ⟨rfl,BW.out⟩

theorem ri_some (A M V:Nat) (hA:A<M) (h1:1<M) (hM:M<2^256) (hg:Nat.gcd A M=1) (hV:V<M) (hAV:A*V%M=1)
  (cm:∀ w,Calls Tryz.prog 185 #[num A,num A,num M] w fun e w'=>e=.returned (.bool true)∧Below w.heap.size w w') (cc:∀ w,Calls Tryz.prog 211 #[num A,num M] w fun e w'=>e=.returned (num 1)∧Below w.heap.size w w') (co:∀ w,Calls Tryz.prog 122 #[.int .u64 1] w fun e w'=>e=.returned (num 1)∧Below w.heap.size w w') (w:World):Calls Tryz.prog 194 #[num A,num M] w fun e w'=>e=.returned (.tuple #[num V,.int .i64 0])∧Below w.heap.size w w':=by
 have HA:=Jja hA;have H1:=Jja h1;have HM:=Jja hM;have HG0:=Jja hg;have HV:=Jja hV;have HAV:=Jja hAV
 have Hcm:=Jja cm;have Hcc:=Jja cc;have Hco:=Jja co
 have qq1:=eqY 1
 clear hA h1 hM hg hV hAV cm cc co
 go_enter Tryz.func194,Tryz.ntmps194
 go_wp2_with fail
 have BW:=Jja (Below.refl w.heap.size w)
 have Eo:w.heap.size≤w.heap.size+1+1:=by have:=BW.out.size;omega
 have Dao:w.heap.size≠w.heap.size+1+1:=by omega
 have Dmo:w.heap.size+1≠w.heap.size+1+1:=by omega
 generalize hW1:(((w.alloc (.cells (ncs A) 24)).alloc (.cells (ncs M) 24)).alloc (.cells #[.int .u64 0,.int .u64 0,.int .u64 0,.int .u64 0] 24))=W1 at *
 have Na:At W1 (w.heap.size) _ _:=Jf hW1 (((At.at_ _ _ _ _ (by simp)).alloc _).alloc _)
 have Nm:At W1 (w.heap.size+1) _ _:=Jf hW1 ((At.at_ _ _ _ _ (by simp)).alloc _)
 have No:At W1 (w.heap.size+1+1) _ _:=Jf hW1 (At.at_ _ _ _ _ (by simp))
 have NB:=Ka hW1 (Jd (Jd (Jd BW.out _) _) _)
 clear hW1 BW 
 generalize w.heap.size+1+1=go at *
 generalize w.heap.size+1=gm at *
 obtain ⟨ga,hg0⟩:∃ g,g=w.heap.size:=⟨_,rfl⟩
 rw [← hg0] at Na ⊢
 rw [← hg0] at Dao
 clear hg0
 have Fa:=Jja Na
 have Fm:=Jja Nm
 have Fo:=Jja No
 have BW:=Jja NB
 clear NB Na Nm No
 refine (Hcm.out _).mono ?_
 rintro e v2 ⟨rfl,z2⟩
 have Na:=Jja (Fa.out.on z2)
 have Nm:=Jja (Fm.out.on z2)
 have No:=Jja (Fo.out.on z2)
 have NB:=Jja (Jr BW.out z2)
 clear BW z2 Fa Fm Fo
 have Fa:=Na
 have Fm:=Nm
 have Fo:=No
 have BW:=NB
 clear NB Na Nm No
 have La:=Fa.out.lt
 have ca0:=Fa.out.c0;have ca1:=Fa.out.c1;have ca2:=Fa.out.c2;have ca3:=Fa.out.c3
 have Lm:=Fm.out.lt
 have cm0:=Fm.out.c0;have cm1:=Fm.out.c1;have cm2:=Fm.out.c2;have cm3:=Fm.out.c3
 go_wp2_with fail
 clear La ca0 ca1 ca2 ca3 Lm cm0 cm1 cm2 cm3
 refine (Hcc.out _).mono ?_
 rintro e v3 ⟨rfl,z3⟩
 have Na:=Jja (Fa.out.on z3)
 have Nm:=Jja (Fm.out.on z3)
 have No:=Jja (Fo.out.on z3)
 have NB:=Jja (Jr BW.out z3)
 clear BW z3 Fa Fm Fo
 have Fa:=Na
 have Fm:=Nm
 have Fo:=No
 have BW:=NB
 clear NB Na Nm No
 go_wp2_with fail
 refine (Hco.out _).mono ?_
 rintro e v4 ⟨rfl,z4⟩
 have Na:=Jja (Fa.out.on z4)
 have Nm:=Jja (Fm.out.on z4)
 have No:=Jja (Fo.out.on z4)
 have NB:=Jja (Jr BW.out z4)
 clear BW z4 Fa Fm Fo
 have Fa:=Na
 have Fm:=Nm
 have Fo:=No
 have BW:=NB
 clear NB Na Nm No
 have La:=Fa.out.lt
 have ca0:=Fa.out.c0;have ca1:=Fa.out.c1;have ca2:=Fa.out.c2;have ca3:=Fa.out.c3
 have Lm:=Fm.out.lt
 have cm0:=Fm.out.c0;have cm1:=Fm.out.c1;have cm2:=Fm.out.c2;have cm3:=Fm.out.c3
 go_wp2_with fail
 clear La ca0 ca1 ca2 ca3 Lm cm0 cm1 cm2 cm3
 have Er:w.heap.size≤v4.heap.size:=by have:=BW.out.size;omega
 have Dar:ga≠v4.heap.size:=by have:=Fa.out.lt;omega
 have Dmr:gm≠v4.heap.size:=by have:=Fm.out.lt;omega
 have Dor:go≠v4.heap.size:=by have:=Fo.out.lt;omega
 have Es:w.heap.size≤v4.heap.size+1:=by have:=BW.out.size;omega
 have Das:ga≠v4.heap.size+1:=by have:=Fa.out.lt;omega
 have Dms:gm≠v4.heap.size+1:=by have:=Fm.out.lt;omega
 have Dos:go≠v4.heap.size+1:=by have:=Fo.out.lt;omega
 have Drs:v4.heap.size≠v4.heap.size+1:=by omega
 have Ex:w.heap.size≤v4.heap.size+1+1:=by have:=BW.out.size;omega
 have Dax:ga≠v4.heap.size+1+1:=by have:=Fa.out.lt;omega
 have Dmx:gm≠v4.heap.size+1+1:=by have:=Fm.out.lt;omega
 have Dox:go≠v4.heap.size+1+1:=by have:=Fo.out.lt;omega
 have Drx:v4.heap.size≠v4.heap.size+1+1:=by omega
 have Dsx:v4.heap.size+1≠v4.heap.size+1+1:=by omega
 generalize hW5:(((v4.alloc (.cells (ncs M) 24)).alloc (.cells (ncs A) 24)).alloc (.cells #[.int .u64 0,.int .u64 0,.int .u64 0,.int .u64 0] 24))=W5 at *
 have Nr:At W5 (v4.heap.size) _ _:=Jf hW5 (((At.at_ _ _ _ _ (by simp)).alloc _).alloc _)
 have Ns:At W5 (v4.heap.size+1) _ _:=Jf hW5 ((At.at_ _ _ _ _ (by simp)).alloc _)
 have Nx:At W5 (v4.heap.size+1+1) _ _:=Jf hW5 (At.at_ _ _ _ _ (by simp))
 have Na:=Jf hW5 (((Fa.out.alloc _).alloc _).alloc _)
 have Nm:=Jf hW5 (((Fm.out.alloc _).alloc _).alloc _)
 have No:=Jf hW5 (((Fo.out.alloc _).alloc _).alloc _)
 have NB:=Ka hW5 (Jd (Jd (Jd BW.out _) _) _)
 clear hW5 BW Fa Fm Fo
 generalize v4.heap.size+1+1=gx at *
 generalize v4.heap.size+1=gs at *
 generalize v4.heap.size=gr at *
 have Fa:=Jja Na
 have Fm:=Jja Nm
 have Fo:=Jja No
 have Fr:=Jja Nr
 have Fs:=Jja Ns
 have Fx:=Jja Nx
 have BW:=Jja NB
 clear NB Na Nm No Nr Ns Nx
 refine (Hco.out _).mono ?_
 rintro e v6 ⟨rfl,z6⟩
 have Na:=Jja (Fa.out.on z6)
 have Nm:=Jja (Fm.out.on z6)
 have No:=Jja (Fo.out.on z6)
 have Nr:=Jja (Fr.out.on z6)
 have Ns:=Jja (Fs.out.on z6)
 have Nx:=Jja (Fx.out.on z6)
 have NB:=Jja (Jr BW.out z6)
 clear BW z6 Fa Fm Fo Fr Fs Fx
 have Fa:=Na
 have Fm:=Nm
 have Fo:=No
 have Fr:=Nr
 have Fs:=Ns
 have Fx:=Nx
 have BW:=NB
 clear NB Na Nm No Nr Ns Nx
 go_wp2_with fail
 have Ey:w.heap.size≤v6.heap.size:=by have:=BW.out.size;omega
 have Day:ga≠v6.heap.size:=by have:=Fa.out.lt;omega
 have Dmy:gm≠v6.heap.size:=by have:=Fm.out.lt;omega
 have Doy:go≠v6.heap.size:=by have:=Fo.out.lt;omega
 have Dry:gr≠v6.heap.size:=by have:=Fr.out.lt;omega
 have Dsy:gs≠v6.heap.size:=by have:=Fs.out.lt;omega
 have Dxy:gx≠v6.heap.size:=by have:=Fx.out.lt;omega
 generalize hW7:(v6.alloc (.cells #[.int .u64 (wd 1 0),.int .u64 (wd 1 1),.int .u64 (wd 1 2),.int .u64 (wd 1 3)] 24))=W7 at *
 have Ny:At W7 (v6.heap.size) _ _:=Jf hW7 (At.at_ _ _ _ _ (by simp))
 have Na:=Jf hW7 (Fa.out.alloc _)
 have Nm:=Jf hW7 (Fm.out.alloc _)
 have No:=Jf hW7 (Fo.out.alloc _)
 have Nr:=Jf hW7 (Fr.out.alloc _)
 have Ns:=Jf hW7 (Fs.out.alloc _)
 have Nx:=Jf hW7 (Fx.out.alloc _)
 have NB:=Ka hW7 (Jd BW.out _)
 clear hW7 BW Fa Fm Fo Fr Fs Fx
 generalize v6.heap.size=gy at *
 have Fa:=Jja Na
 have Fm:=Jja Nm
 have Fo:=Jja No
 have Fr:=Jja Nr
 have Fs:=Jja Ns
 have Fx:=Jja Nx
 have Fy:=Jja Ny
 have BW:=Jja NB
 clear NB Na Nm No Nr Ns Nx Ny
 clear qq1
 go_loopw [] (fun wr=>∃ R S X Y:Nat,Hid (At wr ga 24 (ncs A)∧At wr gm 24 (ncs M)∧At wr go 24 #[.int .u64 0,.int .u64 0,.int .u64 0,.int .u64 0]∧At wr gr 24 (ncs R)∧At wr gs 24 (ncs S)∧At wr gx 24 (ncs X)∧At wr gy 24 (ncs Y)∧Below w.heap.size w wr∧R≤M∧S<R∧0<S∧X<M∧Y<M∧Nat.gcd R S=1∧(M:Int)∣(A:Int)*X-R∧(M:Int)∣(A:Int)*Y-S)) (fun wr=>Xp wr gs)
 case atStart=>
  have e0:∀ k,wd 0 k=0:=fun k=>by simp [wd]
  refine ⟨M,A,0,1,Fa.out,Fm.out,Fo.out,Fr.out,Fs.out,?_,Fy.out,BW.out,Nat.le_refl _,HA.out,?_,by have:=H1.out;omega,H1.out,by rw [Nat.gcd_comm];exact HG0.out,⟨-1,by simp⟩,⟨0,by simp⟩⟩
  ·(try unfold ncs);rw [e0,e0,e0,e0];exact Fx.out
  ·rcases Nat.eq_zero_or_pos A with h | h
   ·exfalso;have e:=HG0.out;rw [h,Nat.gcd_zero_left] at e;have:=H1.out;omega
   ·exact h
 case round=>
  obtain ⟨R,S,X,Y,hM⟩:=hrel
  clear BW Fa Fm Fo Fr Fs Fx Fy
  have Fa:=Jja hM.out.1
  have Fm:=Jja hM.out.2.1
  have Fo:=Jja hM.out.2.2.1
  have Fr:=Jja hM.out.2.2.2.1
  have Fs:=Jja hM.out.2.2.2.2.1
  have Fx:=Jja hM.out.2.2.2.2.2.1
  have Fy:=Jja hM.out.2.2.2.2.2.2.1
  have BW:=Jja hM.out.2.2.2.2.2.2.2.1
  have HR:=Jja hM.out.2.2.2.2.2.2.2.2.1
  have HS:=Jja hM.out.2.2.2.2.2.2.2.2.2.1
  have HS0:=Jja hM.out.2.2.2.2.2.2.2.2.2.2.1
  have HX:=Jja hM.out.2.2.2.2.2.2.2.2.2.2.2.1
  have HY:=Jja hM.out.2.2.2.2.2.2.2.2.2.2.2.2.1
  have HG:=Jja hM.out.2.2.2.2.2.2.2.2.2.2.2.2.2.1
  have HRX:=Jja hM.out.2.2.2.2.2.2.2.2.2.2.2.2.2.2.1
  have HSY:=Jja hM.out.2.2.2.2.2.2.2.2.2.2.2.2.2.2.2
  clear hM
  have hM256:=HM.out
  have hS256:S<2^256:=by have:=HR.out;have:=HS.out;omega
  have hR256:R<2^256:=by have:=HR.out;omega
  have HMS:=Jja (Fs.out.val hS256)
  have eqb:=eqN S 1 hS256 (by decide)
  by_cases hs:S=1
  ·have EB:∀ w,(Op.equalIn 10000 24 (num S) (num 1)).run Tryz.prog w=.ok true w:=fun w=>by rw [eqb];simp [hs]
   have HEB:=Jja EB
   clear EB eqb
   go_wp2_with fail
   try simp only [List.append_eq,List.cons_append,List.nil_append]
   refine wp_region_noPanic ?_
   refine wp_region_held_drew (S:=fun w'=>At w' gs 24 (ncs S)) (by kernel_rfl) (Fs.out.drew) (fun _=>?_)
   refine Jy (fuel:=0) (⟨0,30,[],Kind.val (num S),true⟩::⟨1,31,[0],Kind.val (.agg #[.int .u64 (wd 1 0),.int .u64 (wd 1 1),.int .u64 (wd 1 2),.int .u64 (wd 1 3)]),false⟩::⟨2,32,[0,1],Kind.val (.bool false),true⟩::[]) _ _ wr _ ?_ ?_ ?_ ?_ ?_ ?_ ?_ ?_ ?_ ?_ ?_
   ·rfl
   ·kernel_rfl
   ·exact of_decide_eq_true (by kernel_rfl)
   ·(repeat refine all_cons ⟨_,by rfl,by rfl⟩ ?_);exact all_nil
   ·exact fun _ hb=>Fs.out.on hb
   ·exact (Below.refl _ _).drew
   ·kernel_rfl
   ·exact fun _ _ _ _ _ h=>h
   ·(repeat (refine all_cons ?_ ?_;rotate_left));exact all_nil
    ·exact Ju _ _ _ _ _ _ gs _ _ _ _ (by rfl) (by rfl) (Jg) (ko 7) (fun _ hs=>hs)
    ·exact Jm _ (by rfl)
    ·exact Ke _ _ _ _ _ _ _ _ _ _ _ _ _ (by rfl) (by rfl) (Jg) (kc 0 30) (kc 1 31) (Jdg true _ _ _ _ _ _ _ _ _ _ _ _ _ _ _ (HEB.out))
   ·(repeat (refine all_cons ?_ ?_;rotate_left));exact all_nil
    ·exact sA
    ·exact fun _=>Jl _ 122 _ _ [.const (.int .u64 1)] _ _ _ _ _ _ _ (by rfl) Tryz.func122 (by kernel_rfl) (by rfl) (by rfl) (Jg) (.cons (Ji _) .nil) (Hco.out)
    ·exact sA
   intro vs y8 hc
   obtain ⟨vv0,vv1,vv2,rfl⟩:=Jix vs hc.lv
   have qq0:=okv hc 0
   have qq1:=okv hc 1
   have qq2:=okv hc 2
   have BZ:=hc.bel
   clear hc
   have Na:=Fa.out.on BZ
   have Nm:=Fm.out.on BZ
   have No:=Fo.out.on BZ
   have Nr:=Fr.out.on BZ
   have Ns:=Fs.out.on BZ
   have Nx:=Fx.out.on BZ
   have Ny:=Fy.out.on BZ
   have NB:=Jr BW.out BZ
   clear BW BZ Fa Fm Fo Fr Fs Fx Fy
   subst qq0 qq1 qq2
   simp only [List.map_cons,List.map_nil,over,Act.put,List.setIfInBounds_toArray,List.set_cons_zero,List.set_cons_succ]
   refine wpAnyH_done (by kernel_rfl) ?_ _
   refine NoPanic.normal ?_
   have Fa:=Jja Na
   have Fm:=Jja Nm
   have Fo:=Jja No
   have Fr:=Jja Nr
   have Fs:=Jja Ns
   have Fx:=Jja Nx
   have Fy:=Jja Ny
   have BW:=Jja NB
   clear NB Na Nm No Nr Ns Nx Ny
   have hv:Y=V:=by
    have d:=HSY.out;rw [hs] at d
    exact inv_one A Y V M HY.out HV.out (Jhj H1.out (by rw [Int.natCast_mul];exact d)) HAV.out
   subst hv
   clear hs hM256 hS256 hR256
   have Ly:=Fy.out.lt
   have cy0:=Fy.out.c0;have cy1:=Fy.out.c1;have cy2:=Fy.out.c2;have cy3:=Fy.out.c3
   have Lo:=Fo.out.lt
   have co0:=Fo.out.c0;have co1:=Fo.out.c1;have co2:=Fo.out.c2;have co3:=Fo.out.c3
   obtain ⟨fo0,fo1,fo2,fo3⟩:=Vo Fo.out
   go_wp2_with fail
   clear Ly cy0 cy1 cy2 cy3 Lo co0 co1 co2 co3 fo0 fo1 fo2 fo3
   generalize hW9:((((y8.setCell ⟨go,0,none⟩ (.int .u64 (wd Y 0))).setCell ⟨go,1,none⟩ (.int .u64 (wd Y 1))).setCell ⟨go,2,none⟩ (.int .u64 (wd Y 2))).setCell ⟨go,3,none⟩ (.int .u64 (wd Y 3)))=W9 at *
   have Na:=Jf hW9 ((Fa.out).far4 Dao _ _ _ _)
   have Nm:=Jf hW9 ((Fm.out).far4 Dmo _ _ _ _)
   have No:=Jf hW9 ((Fo.out).put4 _ _ _ _)
   have Nr:=Jf hW9 ((Fr.out).far4 Dor.symm _ _ _ _)
   have Ns:=Jf hW9 ((Fs.out).far4 Dos.symm _ _ _ _)
   have Nx:=Jf hW9 ((Fx.out).far4 Dox.symm _ _ _ _)
   have Ny:=Jf hW9 ((Fy.out).far4 Doy.symm _ _ _ _)
   have NB:=Ka hW9 (((((BW.out).setCell Eo _).setCell Eo _).setCell Eo _).setCell Eo _)
   clear hW9 BW Fa Fm Fo Fr Fs Fx Fy
   have Fa:=Jja Na
   have Fm:=Jja Nm
   have Fo:=Jja No
   have Fr:=Jja Nr
   have Fs:=Jja Ns
   have Fx:=Jja Nx
   have Fy:=Jja Ny
   have BW:=Jja NB
   clear NB Na Nm No Nr Ns Nx Ny
   have Lo:=Fo.out.lt
   have co0:=Fo.out.c0;have co1:=Fo.out.c1;have co2:=Fo.out.c2;have co3:=Fo.out.c3
   exact bodyPost_ret (v:=.tuple #[num Y,.int .i64 0]) (by simp [results,Tryz.results194,go_sem, *]) rfl ⟨rfl,BW.out⟩
  ·have hMz:0<M:=by have:=H1.out;omega
   have hSz:=HS0.out
   have D1:=Jdt R S hR256 hS256 (by omega)
   obtain ⟨Q,hQ⟩:∃ Q,Q=R/S:=⟨_,rfl⟩
   obtain ⟨l,hl⟩:∃ l,l=R%S:=⟨_,rfl⟩
   rw [← hQ,← hl] at D1
   have hQ256:Q<2^256:=by rw [hQ];exact Nat.lt_of_le_of_lt (Nat.div_le_self _ _) hR256
   have D2:=Jdt Q M hQ256 hM256 (by omega)
   obtain ⟨qq,hqq⟩:∃ q,q=Q/M:=⟨_,rfl⟩
   obtain ⟨q2,hq2⟩:∃ q,q=Q%M:=⟨_,rfl⟩
   rw [← hqq,← hq2] at D2
   have hq2M:q2<M:=by rw [hq2];exact Nat.mod_lt _ hMz
   have T:=rt_any q2 Y M hq2M HY.out hM256 H1.out
   obtain ⟨P,hP⟩:∃ P,P=q2*Y%M:=⟨_,rfl⟩
   rw [← hP] at T
   have hPM:P<M:=by rw [hP];exact Nat.mod_lt _ hMz
   have SU:=rs_yes X P M hM256 H1.out HX.out hPM
   obtain ⟨D,c,hD,hc,hd,_⟩:=Jhk X P M HX.out hPM hM256
   rw [show (X+M-P)%M=D by
    have hx:=HX.out
    have h01:c=0∨c=1:=by omega
    rcases h01 with rfl | rfl
    ·rw [show X+M-P=D+M by omega,Nat.add_mod_right,Nat.mod_eq_of_lt hD]
    ·rw [show X+M-P=D by omega,Nat.mod_eq_of_lt hD]] at SU
   have hRl:R=Q*S+l:=by rw [hQ,hl,Nat.mul_comm];exact (Nat.div_add_mod _ _).symm
   have hlS:l<S:=by rw [hl];exact Nat.mod_lt _ hSz
   have hgl:Nat.gcd S l=1:=by rw [← HG.out,hRl,Nat.gcd_comm (Q*S+l),Nat.mul_comm Q S];simp
   have hl0:0<l:=by
    rcases Nat.eq_zero_or_pos l with h | h
    ·exfalso;rw [h,Nat.gcd_zero_right] at hgl;exact hs hgl
    ·exact h
   have hdv:(M:Int)∣(A:Int)*D-l:=by
    obtain ⟨k1,hk1⟩:=Jic Q M
    obtain ⟨k2,hk2⟩:=Jic (q2*Y) M
    rw [← hq2] at hk1
    rw [← hP] at hk2
    have e1:=cst hRl;have e2:=cst hk1;have e3:=cst hk2;have e4:=cst hd
    simp only [Int.natCast_add,Int.natCast_mul] at e1 e2 e3 e4
    refine eu_round A M R X S Y Q l P D c HRX.out HSY.out e1 ⟨k1*Y+k2,?_⟩ e4
    rw [e2,Int.add_mul,e3,Int.mul_add,Int.mul_assoc];omega
   have HD1:=Jja D1;have HD2:=Jja D2;have HT:=Jja T;have HSU:=Jja SU;have HlS:=Jja hlS;have Hgl:=Jja hgl;have Hl0:=Jja hl0;have Hdv:=Jja hdv;have HDM:=Jja hD;have HS256:=Jja hS256
   have EB:∀ w,(Op.equalIn 10000 24 (num S) (num 1)).run Tryz.prog w=.ok false w:=fun w=>by rw [eqb];simp [hs]
   have HEB:=Jja EB
   clear EB eqb
   go_wp2_with fail
   try simp only [List.append_eq,List.cons_append,List.nil_append]
   refine wp_region_noPanic ?_
   refine wp_region_held_drew (S:=fun w'=>At w' gs 24 (ncs S)) (by kernel_rfl) (Fs.out.drew) (fun _=>?_)
   refine Jy (fuel:=0) (⟨0,30,[],Kind.val (num S),true⟩::⟨1,31,[0],Kind.val (.agg #[.int .u64 (wd 1 0),.int .u64 (wd 1 1),.int .u64 (wd 1 2),.int .u64 (wd 1 3)]),false⟩::⟨2,32,[0,1],Kind.val (.bool true),true⟩::[]) _ _ wr _ ?_ ?_ ?_ ?_ ?_ ?_ ?_ ?_ ?_ ?_ ?_
   ·rfl
   ·kernel_rfl
   ·exact of_decide_eq_true (by kernel_rfl)
   ·(repeat refine all_cons ⟨_,by rfl,by rfl⟩ ?_);exact all_nil
   ·exact fun _ hb=>Fs.out.on hb
   ·exact (Below.refl _ _).drew
   ·kernel_rfl
   ·exact fun _ _ _ _ _ h=>h
   ·(repeat (refine all_cons ?_ ?_;rotate_left));exact all_nil
    ·exact Ju _ _ _ _ _ _ gs _ _ _ _ (by rfl) (by rfl) (Jg) (ko 7) (fun _ hs=>hs)
    ·exact Jm _ (by rfl)
    ·exact Ke _ _ _ _ _ _ _ _ _ _ _ _ _ (by rfl) (by rfl) (Jg) (kc 0 30) (kc 1 31) (Jdg false _ _ _ _ _ _ _ _ _ _ _ _ _ _ _ (HEB.out))
   ·(repeat (refine all_cons ?_ ?_;rotate_left));exact all_nil
    ·exact sA
    ·exact fun _=>Jl _ 122 _ _ [.const (.int .u64 1)] _ _ _ _ _ _ _ (by rfl) Tryz.func122 (by kernel_rfl) (by rfl) (by rfl) (Jg) (.cons (Ji _) .nil) (Hco.out)
    ·exact sA
   intro vs y8 hc
   obtain ⟨vv0,vv1,vv2,rfl⟩:=Jix vs hc.lv
   have qq0:=okv hc 0
   have qq1:=okv hc 1
   have qq2:=okv hc 2
   have BZ:=hc.bel
   clear hc
   have Na:=Fa.out.on BZ
   have Nm:=Fm.out.on BZ
   have No:=Fo.out.on BZ
   have Nr:=Fr.out.on BZ
   have Ns:=Fs.out.on BZ
   have Nx:=Fx.out.on BZ
   have Ny:=Fy.out.on BZ
   have NB:=Jr BW.out BZ
   clear BW BZ Fa Fm Fo Fr Fs Fx Fy
   subst qq0 qq1 qq2
   simp only [List.map_cons,List.map_nil,over,Act.put,List.setIfInBounds_toArray,List.set_cons_zero,List.set_cons_succ]
   refine wpAnyH_done (by kernel_rfl) ?_ _
   refine NoPanic.normal ?_
   have Fa:=Jja Na
   have Fm:=Jja Nm
   have Fo:=Jja No
   have Fr:=Jja Nr
   have Fs:=Jja Ns
   have Fx:=Jja Nx
   have Fy:=Jja Ny
   have BW:=Jja NB
   clear NB Na Nm No Nr Ns Nx Ny
   clear D1 D2 T SU hlS hgl hl0 hdv hD hS256 hs hMz hSz hQ hl hQ256 hqq hq2 hq2M hP hPM hc hd hRl hM256 hR256
   have Lr:=Fr.out.lt
   have cr0:=Fr.out.c0;have cr1:=Fr.out.c1;have cr2:=Fr.out.c2;have cr3:=Fr.out.c3
   have Ls:=Fs.out.lt
   have cs0:=Fs.out.c0;have cs1:=Fs.out.c1;have cs2:=Fs.out.c2;have cs3:=Fs.out.c3
   go_wp2_with fail
   clear Lr cr0 cr1 cr2 cr3 Ls cs0 cs1 cs2 cs3
   refine (HD1.out _).mono ?_
   rintro e v9 ⟨rfl,z9⟩
   have Na:=Jja (Fa.out.on z9)
   have Nm:=Jja (Fm.out.on z9)
   have No:=Jja (Fo.out.on z9)
   have Nr:=Jja (Fr.out.on z9)
   have Ns:=Jja (Fs.out.on z9)
   have Nx:=Jja (Fx.out.on z9)
   have Ny:=Jja (Fy.out.on z9)
   have NB:=Jja (Jr BW.out z9)
   clear BW z9 Fa Fm Fo Fr Fs Fx Fy
   have Fa:=Na
   have Fm:=Nm
   have Fo:=No
   have Fr:=Nr
   have Fs:=Ns
   have Fx:=Nx
   have Fy:=Ny
   have BW:=NB
   clear NB Na Nm No Nr Ns Nx Ny
   have Lm:=Fm.out.lt
   have cm0:=Fm.out.c0;have cm1:=Fm.out.c1;have cm2:=Fm.out.c2;have cm3:=Fm.out.c3
   go_wp2_with fail
   clear Lm cm0 cm1 cm2 cm3
   have Eq:w.heap.size≤v9.heap.size:=by have:=BW.out.size;omega
   have Daq:ga≠v9.heap.size:=by have:=Fa.out.lt;omega
   have Dmq:gm≠v9.heap.size:=by have:=Fm.out.lt;omega
   have Doq:go≠v9.heap.size:=by have:=Fo.out.lt;omega
   have Drq:gr≠v9.heap.size:=by have:=Fr.out.lt;omega
   have Dsq:gs≠v9.heap.size:=by have:=Fs.out.lt;omega
   have Dxq:gx≠v9.heap.size:=by have:=Fx.out.lt;omega
   have Dyq:gy≠v9.heap.size:=by have:=Fy.out.lt;omega
   have Dol:go≠v9.heap.size+1:=by have:=Fo.out.lt;omega
   have Drl:gr≠v9.heap.size+1:=by have:=Fr.out.lt;omega
   have Dsl:gs≠v9.heap.size+1:=by have:=Fs.out.lt;omega
   have Dxl:gx≠v9.heap.size+1:=by have:=Fx.out.lt;omega
   have Dyl:gy≠v9.heap.size+1:=by have:=Fy.out.lt;omega
   have Dql:v9.heap.size≠v9.heap.size+1:=by omega
   generalize hW10:((v9.alloc (.cells (ncs Q) 24)).alloc (.cells (ncs l) 24))=W10 at *
   have Nq:At W10 (v9.heap.size) _ _:=Jf hW10 ((At.at_ _ _ _ _ (by simp)).alloc _)
   have Nl:At W10 (v9.heap.size+1) _ _:=Jf hW10 (At.at_ _ _ _ _ (by simp))
   have Na:=Jf hW10 ((Fa.out.alloc _).alloc _)
   have Nm:=Jf hW10 ((Fm.out.alloc _).alloc _)
   have No:=Jf hW10 ((Fo.out.alloc _).alloc _)
   have Nr:=Jf hW10 ((Fr.out.alloc _).alloc _)
   have Ns:=Jf hW10 ((Fs.out.alloc _).alloc _)
   have Nx:=Jf hW10 ((Fx.out.alloc _).alloc _)
   have Ny:=Jf hW10 ((Fy.out.alloc _).alloc _)
   have NB:=Ka hW10 (Jd (Jd BW.out _) _)
   clear hW10 BW Fa Fm Fo Fr Fs Fx Fy
   generalize v9.heap.size+1=gl at *
   generalize v9.heap.size=gq at *
   have Fa:=Jja Na
   have Fm:=Jja Nm
   have Fo:=Jja No
   have Fr:=Jja Nr
   have Fs:=Jja Ns
   have Fx:=Jja Nx
   have Fy:=Jja Ny
   have Fq:=Jja Nq
   have Fl:=Jja Nl
   have BW:=Jja NB
   clear NB Na Nm No Nr Ns Nx Ny Nq Nl
   refine (HD2.out _).mono ?_
   rintro e v11 ⟨rfl,z11⟩
   have Na:=Jja (Fa.out.on z11)
   have Nm:=Jja (Fm.out.on z11)
   have No:=Jja (Fo.out.on z11)
   have Nr:=Jja (Fr.out.on z11)
   have Ns:=Jja (Fs.out.on z11)
   have Nx:=Jja (Fx.out.on z11)
   have Ny:=Jja (Fy.out.on z11)
   have Nq:=Jja (Fq.out.on z11)
   have Nl:=Jja (Fl.out.on z11)
   have NB:=Jja (Jr BW.out z11)
   clear BW z11 Fa Fm Fo Fr Fs Fx Fy Fq Fl
   have Fa:=Na
   have Fm:=Nm
   have Fo:=No
   have Fr:=Nr
   have Fs:=Ns
   have Fx:=Nx
   have Fy:=Ny
   have Fq:=Nq
   have Fl:=Nl
   have BW:=NB
   clear NB Na Nm No Nr Ns Nx Ny Nq Nl
   have Lq:=Fq.out.lt
   have cq0:=Fq.out.c0;have cq1:=Fq.out.c1;have cq2:=Fq.out.c2;have cq3:=Fq.out.c3
   obtain ⟨fq0,fq1,fq2,fq3⟩:=Vo Fq.out
   go_wp2_with fail
   clear Lq cq0 cq1 cq2 cq3 fq0 fq1 fq2 fq3
   generalize hW12:((((v11.setCell ⟨gq,0,none⟩ (.int .u64 (wd q2 0))).setCell ⟨gq,1,none⟩ (.int .u64 (wd q2 1))).setCell ⟨gq,2,none⟩ (.int .u64 (wd q2 2))).setCell ⟨gq,3,none⟩ (.int .u64 (wd q2 3)))=W12 at *
   have Na:=Jf hW12 ((Fa.out).far4 Daq _ _ _ _)
   have Nm:=Jf hW12 ((Fm.out).far4 Dmq _ _ _ _)
   have No:=Jf hW12 ((Fo.out).far4 Doq _ _ _ _)
   have Nr:=Jf hW12 ((Fr.out).far4 Drq _ _ _ _)
   have Ns:=Jf hW12 ((Fs.out).far4 Dsq _ _ _ _)
   have Nx:=Jf hW12 ((Fx.out).far4 Dxq _ _ _ _)
   have Ny:=Jf hW12 ((Fy.out).far4 Dyq _ _ _ _)
   have Nq:=Jf hW12 ((Fq.out).put4 _ _ _ _)
   have Nl:=Jf hW12 ((Fl.out).far4 Dql.symm _ _ _ _)
   have NB:=Ka hW12 (((((BW.out).setCell Eq _).setCell Eq _).setCell Eq _).setCell Eq _)
   clear hW12 BW Fa Fm Fo Fr Fs Fx Fy Fq Fl
   have Fa:=Jja Na
   have Fm:=Jja Nm
   have Fo:=Jja No
   have Fr:=Jja Nr
   have Fs:=Jja Ns
   have Fx:=Jja Nx
   have Fy:=Jja Ny
   have Fq:=Jja Nq
   have Fl:=Jja Nl
   have BW:=Jja NB
   clear NB Na Nm No Nr Ns Nx Ny Nq Nl
   try simp only [List.append_eq,List.cons_append,List.nil_append]
   refine wp_region_noPanic ?_
   refine wp_region_held_drew (S:=fun w'=>True) (by kernel_rfl) (trivial) (fun _=>?_)
   refine Jy (fuel:=2) (⟨0,48,[],Kind.val (num X),false⟩::⟨1,49,[],Kind.val (num q2),false⟩::⟨2,50,[],Kind.val (num Y),false⟩::⟨3,51,[],Kind.val (num M),false⟩::⟨4,52,[1,2,3],Kind.val (num P),false⟩::⟨5,53,[],Kind.val (num M),false⟩::⟨6,54,[0,4,5],Kind.val (.tuple #[num D,.int .i64 0]),false⟩::⟨7,47,[6],Kind.val (.tuple #[num D,.int .i64 0]),true⟩::⟨8,55,[7],Kind.val (num D),true⟩::⟨9,56,[7],Kind.val (.int .i64 0),true⟩::⟨10,13,[],Kind.cell W12.heap.size 24 #[.int .u64 0,.int .u64 0,.int .u64 0,.int .u64 0],false⟩::[]) _ _ W12 _ ?_ ?_ ?_ ?_ ?_ ?_ ?_ ?_ ?_ ?_ ?_
   ·rfl
   ·kernel_rfl
   ·exact of_decide_eq_true rfl
   ·(repeat refine all_cons ⟨_,rfl,rfl⟩ ?_);exact all_nil
   ·exact fun _ hb=>trivial
   ·exact (Below.refl _ _).drew
   ·kernel_rfl
   ·exact fun _ _ _ _ _ h=>h
   ·(repeat (refine all_cons ?_ ?_;rotate_left));exact all_nil
    all_goals try exact Jm _ (by rfl)
    ·exact Wf _ _ _ _ _ _ (by rfl) (by rfl) (kc 6 54)
    ·exact Vp _ _ 0 _ _ _ _ _ (by rfl) (by rfl) (kc 7 47) (by rfl)
    ·exact Vp _ _ 1 _ _ _ _ _ (by rfl) (by rfl) (kc 7 47) (by rfl)
   ·(repeat (refine all_cons ?_ ?_;rotate_left));exact all_nil
    all_goals try exact sA
    ·exact fun _=>Ud _ _ _ _ _ gx _ _ _ _ (by rfl) (by rfl) (ko 8) Fx.out
    ·exact fun _=>Ud _ _ _ _ _ gq _ _ _ _ (by rfl) (by rfl) (ko 10) Fq.out
    ·exact fun _=>Ud _ _ _ _ _ gy _ _ _ _ (by rfl) (by rfl) (ko 9) Fy.out
    ·exact fun _=>Ud _ _ _ _ _ gm _ _ _ _ (by rfl) (by rfl) (ko 3) Fm.out
    ·exact fun _=>Uj _ 188 _ _ [.tmp 49,.tmp 50,.tmp 51] _ _ _ _ _ _ (by rfl) Tryz.func188 (by kernel_rfl) (by rfl) (by rfl) (.cons (kc 1 49) (.cons (kc 2 50) (.cons (kc 3 51) .nil))) (HT.out)
    ·exact fun _=>Ud _ _ _ _ _ gm _ _ _ _ (by rfl) (by rfl) (ko 3) Fm.out
    ·exact fun _=>Uj _ 195 _ _ [.tmp 48,.tmp 52,.tmp 53] _ _ _ _ _ _ (by rfl) Tryz.func195 (by kernel_rfl) (by rfl) (by rfl) (.cons (kc 0 48) (.cons (kc 4 52) (.cons (kc 5 53) .nil))) (HSU.out)
    ·exact fun _=>core_alloc _ _ _ _ _ (by rfl) (by rfl) (Nat.le_refl _)
   intro vs y13 hc
   obtain ⟨vv0,vv1,vv2,vv3,vv4,vv5,vv6,vv7,vv8,vv9,vv10,rfl⟩:=len11 vs hc.lv
   have qq0:=okv hc 0
   have qq1:=okv hc 1
   have qq2:=okv hc 2
   have qq3:=okv hc 3
   have qq4:=okv hc 4
   have qq5:=okv hc 5
   have qq6:=okv hc 6
   have qq7:=okv hc 7
   have qq8:=okv hc 8
   have qq9:=okv hc 9
   obtain ⟨xx,hx,gz,hv,Ez,Az⟩:=hc.ok 10 _ rfl rfl
   have qq10:vv10=.pointer (some ⟨gz,0,none⟩):=(Option.some.inj (show some vv10=some xx from hx)).trans hv
   clear hx hv
   have BZ:=hc.bel
   clear hc
   have Na:=Fa.out.on BZ
   have Nm:=Fm.out.on BZ
   have No:=Fo.out.on BZ
   have Nr:=Fr.out.on BZ
   have Ns:=Fs.out.on BZ
   have Nx:=Fx.out.on BZ
   have Ny:=Fy.out.on BZ
   have Nq:=Fq.out.on BZ
   have Nl:=Fl.out.on BZ
   have Daz:ga≠gz:=by have:=Fa.out.lt;omega
   have Dmz:gm≠gz:=by have:=Fm.out.lt;omega
   have Doz:go≠gz:=by have:=Fo.out.lt;omega
   have Drz:gr≠gz:=by have:=Fr.out.lt;omega
   have Dsz:gs≠gz:=by have:=Fs.out.lt;omega
   have Dxz:gx≠gz:=by have:=Fx.out.lt;omega
   have Dyz:gy≠gz:=by have:=Fy.out.lt;omega
   have Dqz:gq≠gz:=by have:=Fq.out.lt;omega
   have Dlz:gl≠gz:=by have:=Fl.out.lt;omega
   have HSZ13:=BW.out.size
   have NB:=Jr BW.out BZ
   clear BW BZ Fa Fm Fo Fr Fs Fx Fy Fq Fl
   subst qq0 qq1 qq2 qq3 qq4 qq5 qq6 qq7 qq8 qq9 qq10
   simp only [List.map_cons,List.map_nil,over,Act.put,List.setIfInBounds_toArray,List.set_cons_zero,List.set_cons_succ]
   have OLD:=Az
   replace Na:=p4f Na Daz D
   replace Nm:=p4f Nm Dmz D
   replace No:=p4f No Doz D
   replace Nr:=p4f Nr Drz D
   replace Ns:=p4f Ns Dsz D
   replace Nx:=p4f Nx Dxz D
   replace Ny:=p4f Ny Dyz D
   replace Nq:=p4f Nq Dqz D
   replace Nl:=p4f Nl Dlz D
   replace Az:=p4a Az D
   replace NB:=Wz NB (Nat.le_trans HSZ13 Ez) (.int .u64 (wd D 0)) (.int .u64 (wd D 1)) (.int .u64 (wd D 2)) (.int .u64 (wd D 3))
   refine Vg (i:=11) _ _ _ _ _ gz _ _ _ _ _ _ _ _ (by kernel_rfl) (by rfl) (by rfl) (by rfl) OLD (trivial) ?_
   clear OLD
   generalize (put4 y13 gz (.int .u64 (wd D 0)) (.int .u64 (wd D 1)) (.int .u64 (wd D 2)) (.int .u64 (wd D 3)))=y13_11 at *
   refine Vd (i:=12) _ 14 _ _ _ (.int .i64 0) (by kernel_rfl) (by rfl) (by rfl) (trivial) ?_
   try simp only [Act.put,List.setIfInBounds_toArray,List.set_cons_zero,List.set_cons_succ]
   refine wpAnyH_done (by kernel_rfl) ?_ _
   refine NoPanic.normal ?_
   have Fa:=Jja Na
   have Fm:=Jja Nm
   have Fo:=Jja No
   have Fr:=Jja Nr
   have Fs:=Jja Ns
   have Fx:=Jja Nx
   have Fy:=Jja Ny
   have Fq:=Jja Nq
   have Fl:=Jja Nl
   have Fz:=Jja Az
   have BW:=Jja NB
   clear NB Na Nm No Nr Ns Nx Ny Nq Nl Az
   clear Ez
   clear HSZ13
   have Esrq:=Drs.symm
   have Exrq:=Drx.symm
   have Eyrq:=Dry.symm
   have Elrq:=Drl.symm
   have Ezrq:=Drz.symm
   have Exsq:=Dsx.symm
   have Eysq:=Dsy.symm
   have Elsq:=Dsl.symm
   have Ezsq:=Dsz.symm
   have Eyxq:=Dxy.symm
   have Elxq:=Dxl.symm
   have Ezxq:=Dxz.symm
   have Elyq:=Dyl.symm
   have Ezyq:=Dyz.symm
   have Ezlq:=Dlz.symm
   have Ll:=Fl.out.lt
   have cl0:=Fl.out.c0;have cl1:=Fl.out.c1;have cl2:=Fl.out.c2;have cl3:=Fl.out.c3
   have Lz:=Fz.out.lt
   have cz0:=Fz.out.c0;have cz1:=Fz.out.c1;have cz2:=Fz.out.c2;have cz3:=Fz.out.c3
   have Lr:=Fr.out.lt
   have cr0:=Fr.out.c0;have cr1:=Fr.out.c1;have cr2:=Fr.out.c2;have cr3:=Fr.out.c3
   obtain ⟨fr0,fr1,fr2,fr3⟩:=Vo Fr.out
   have Ls:=Fs.out.lt
   have cs0:=Fs.out.c0;have cs1:=Fs.out.c1;have cs2:=Fs.out.c2;have cs3:=Fs.out.c3
   obtain ⟨fs0,fs1,fs2,fs3⟩:=Vo Fs.out
   have Lx:=Fx.out.lt
   have cx0:=Fx.out.c0;have cx1:=Fx.out.c1;have cx2:=Fx.out.c2;have cx3:=Fx.out.c3
   obtain ⟨fx0,fx1,fx2,fx3⟩:=Vo Fx.out
   have Ly:=Fy.out.lt
   have cy0:=Fy.out.c0;have cy1:=Fy.out.c1;have cy2:=Fy.out.c2;have cy3:=Fy.out.c3
   obtain ⟨fy0,fy1,fy2,fy3⟩:=Vo Fy.out
   go_wp2_with fail
   clear Ll cl0 cl1 cl2 cl3 Lz cz0 cz1 cz2 cz3 Lr cr0 cr1 cr2 cr3 fr0 fr1 fr2 fr3 Ls cs0 cs1 cs2 cs3 fs0 fs1 fs2 fs3 Lx cx0 cx1 cx2 cx3 fx0 fx1 fx2 fx3 Ly cy0 cy1 cy2 cy3 fy0 fy1 fy2 fy3
   clear Esrq Exrq Eyrq Elrq Ezrq Exsq Eysq Elsq Ezsq Eyxq Elxq Ezxq Elyq Ezyq Ezlq
   generalize hW14:((((((((((((((((y13_11.setCell ⟨gr,0,none⟩ (.int .u64 (wd S 0))).setCell ⟨gr,1,none⟩ (.int .u64 (wd S 1))).setCell ⟨gr,2,none⟩ (.int .u64 (wd S 2))).setCell ⟨gr,3,none⟩ (.int .u64 (wd S 3))).setCell ⟨gs,0,none⟩ (.int .u64 (wd l 0))).setCell ⟨gs,1,none⟩ (.int .u64 (wd l 1))).setCell ⟨gs,2,none⟩ (.int .u64 (wd l 2))).setCell ⟨gs,3,none⟩ (.int .u64 (wd l 3))).setCell ⟨gx,0,none⟩ (.int .u64 (wd Y 0))).setCell ⟨gx,1,none⟩ (.int .u64 (wd Y 1))).setCell ⟨gx,2,none⟩ (.int .u64 (wd Y 2))).setCell ⟨gx,3,none⟩ (.int .u64 (wd Y 3))).setCell ⟨gy,0,none⟩ (.int .u64 (wd D 0))).setCell ⟨gy,1,none⟩ (.int .u64 (wd D 1))).setCell ⟨gy,2,none⟩ (.int .u64 (wd D 2))).setCell ⟨gy,3,none⟩ (.int .u64 (wd D 3)))=W14 at *
   have Na:=Jf hW14 (((((Fa.out).far4 Dar _ _ _ _).far4 Das _ _ _ _).far4 Dax _ _ _ _).far4 Day _ _ _ _)
   have Nm:=Jf hW14 (((((Fm.out).far4 Dmr _ _ _ _).far4 Dms _ _ _ _).far4 Dmx _ _ _ _).far4 Dmy _ _ _ _)
   have No:=Jf hW14 (((((Fo.out).far4 Dor _ _ _ _).far4 Dos _ _ _ _).far4 Dox _ _ _ _).far4 Doy _ _ _ _)
   have Nr:=Jf hW14 (((((Fr.out).put4 _ _ _ _).far4 Drs _ _ _ _).far4 Drx _ _ _ _).far4 Dry _ _ _ _)
   have Ns:=Jf hW14 (((((Fs.out).far4 Drs.symm _ _ _ _).put4 _ _ _ _).far4 Dsx _ _ _ _).far4 Dsy _ _ _ _)
   have Nx:=Jf hW14 (((((Fx.out).far4 Drx.symm _ _ _ _).far4 Dsx.symm _ _ _ _).put4 _ _ _ _).far4 Dxy _ _ _ _)
   have Ny:=Jf hW14 (((((Fy.out).far4 Dry.symm _ _ _ _).far4 Dsy.symm _ _ _ _).far4 Dxy.symm _ _ _ _).put4 _ _ _ _)
   have Nq:=Jf hW14 (((((Fq.out).far4 Drq.symm _ _ _ _).far4 Dsq.symm _ _ _ _).far4 Dxq.symm _ _ _ _).far4 Dyq.symm _ _ _ _)
   have Nl:=Jf hW14 (((((Fl.out).far4 Drl.symm _ _ _ _).far4 Dsl.symm _ _ _ _).far4 Dxl.symm _ _ _ _).far4 Dyl.symm _ _ _ _)
   have Nz:=Jf hW14 (((((Fz.out).far4 Drz.symm _ _ _ _).far4 Dsz.symm _ _ _ _).far4 Dxz.symm _ _ _ _).far4 Dyz.symm _ _ _ _)
   have NB:=Ka hW14 (((((((((((((((((BW.out).setCell Er _).setCell Er _).setCell Er _).setCell Er _).setCell Es _).setCell Es _).setCell Es _).setCell Es _).setCell Ex _).setCell Ex _).setCell Ex _).setCell Ex _).setCell Ey _).setCell Ey _).setCell Ey _).setCell Ey _)
   clear hW14 BW Fa Fm Fo Fr Fs Fx Fy Fq Fl Fz
   have Fa:=Jja Na
   have Fm:=Jja Nm
   have Fo:=Jja No
   have Fr:=Jja Nr
   have Fs:=Jja Ns
   have Fx:=Jja Nx
   have Fy:=Jja Ny
   have Fq:=Jja Nq
   have Fl:=Jja Nl
   have Fz:=Jja Nz
   have BW:=Jja NB
   clear NB Na Nm No Nr Ns Nx Ny Nq Nl Nz
   go_roundw
   case rel=>
    have h1:=HR.out;have h2:=HS.out
    exact ⟨S,l,Y,D,Fa.out,Fm.out,Fo.out,Fr.out,Fs.out,Fx.out,Fy.out,BW.out,by omega,HlS.out,Hl0.out,HY.out,HDM.out,Hgl.out,HSY.out,Hdv.out⟩
   case measure=>
    have h3:=HlS.out
    rw [HMS.out,Fs.out.val (by have:=HS256.out;omega)];exact h3

end Go.Proofs.YtmmgmljkmmgjdaaGreatDoor
