import Derived.Test.YtmmgmljkmmgjdaaGreatDoorMRAdd
import Derived.Test.YtmmgmljkmmgjdaaGreatDoorMRbits
import Derived.Test.YtmmgmljkmmgjdaaGreatDoorMTree
namespace Go.Proofs.YtmmgmljkmmgjdaaGreatDoor
set_option maxRecDepth 100000
open Go.RowKit
set_option linter.unusedSimpArgs false
set_option linter.unusedVariables false
attribute [local go_sem ↓] Go.wp_at_zero Go.wp_at_succ

theorem rsub_num (X Y i c P:Nat) (hc:c≤1) (h:P+Y%65536^i=X%65536^i+65536^i*c):∃ n d c':Nat,n=dg X i+65536-dg Y i-c∧d=n%65536∧c'=1-n/65536∧d<65536∧c'≤1∧n<131072∧n/65536≤1 ∧
  P+65536^i*d+Y%65536^(i+1)=X%65536^(i+1)+65536^(i+1)*c':=by
 have hx:=Jbp X i
 have hy:=Jbp Y i
 refine ⟨_,_,_,rfl,rfl,rfl,Nat.mod_lt _ (by decide),by omega,by omega,by omega,?_⟩
 rw [Jgm,Jgm,Nat.pow_succ,Nat.mul_assoc]
 obtain ⟨d,hd⟩:∃ d,d=(dg X i+65536-dg Y i-c)%65536:=⟨_,rfl⟩
 obtain ⟨e,he⟩:∃ e,e=1-(dg X i+65536-dg Y i-c)/65536:=⟨_,rfl⟩
 rw [← hd,← he]
 have key:d+dg Y i+c=dg X i+65536*e:=by omega
 have k2:=congrArg (65536^i*·) key
 simp only [Nat.mul_add] at k2
 omega

def rsubRes (X Y:Nat) (e:Ending):Prop:=∃ S c:Nat,e=.returned (.tuple #[num S,.int .u64 (c:Nat)])∧S+Y=X+65536^16*c∧S<65536^16∧c≤1
set_option maxRecDepth 100000 in
set_option maxHeartbeats 4000000 in
theorem rsub_walk (X Y:Nat) (hX:X<2^256) (hY:Y<2^256) (w:World):Calls Tryz.prog 123 #[num X,num Y] w fun e w'=>rsubRes X Y e∧Below w.heap.size w w':=by
 have CX:=Xo X;have CY:=Xo Y
 have HCX:=Jja CX;have HCY:=Jja CY
 clear CX CY
 have HX:=Jja hX;have HY:=Jja hY;clear hX hY
 go_enter Tryz.func123,Tryz.ntmps123
 go_wp2_with fail
 have BW:=Jja (Below.refl w.heap.size w)
 have Na:At (((w.alloc (.cells (ncs X) 24)).alloc (.cells (ncs Y) 24)).alloc (.cells #[.int .u64 0,.int .u64 0,.int .u64 0,.int .u64 0] 24)) (w.heap.size) 24 (ncs X):=((At.at_ _ _ _ _ (by simp)).alloc _).alloc _
 have Nb:At (((w.alloc (.cells (ncs X) 24)).alloc (.cells (ncs Y) 24)).alloc (.cells #[.int .u64 0,.int .u64 0,.int .u64 0,.int .u64 0] 24)) (w.heap.size+1) 24 (ncs Y):=(At.at_ _ _ _ _ (by simp)).alloc _
 have Nr:At (((w.alloc (.cells (ncs X) 24)).alloc (.cells (ncs Y) 24)).alloc (.cells #[.int .u64 0,.int .u64 0,.int .u64 0,.int .u64 0] 24)) (w.heap.size+1+1) 24 #[.int .u64 0,.int .u64 0,.int .u64 0,.int .u64 0]:=At.at_ _ _ _ _ (by simp)
 have Er:w.heap.size≤w.heap.size+1+1:=by have:=BW.out.size;omega
 have Dar:w.heap.size≠w.heap.size+1+1:=by omega
 have Dbr:w.heap.size+1≠w.heap.size+1+1:=by omega
 have NB:Below w.heap.size w (((w.alloc (.cells (ncs X) 24)).alloc (.cells (ncs Y) 24)).alloc (.cells #[.int .u64 0,.int .u64 0,.int .u64 0,.int .u64 0] 24)):=Jd (Jd (Jd BW.out _) _) _
 clear BW 
 generalize (((w.alloc (.cells (ncs X) 24)).alloc (.cells (ncs Y) 24)).alloc (.cells #[.int .u64 0,.int .u64 0,.int .u64 0,.int .u64 0] 24))=W1 at *
 generalize w.heap.size+1+1=gr at *
 generalize w.heap.size+1=gb at *
 obtain ⟨ga,hg0⟩:∃ g,g=w.heap.size:=⟨_,rfl⟩
 rw [← hg0] at Na ⊢
 rw [← hg0] at Dar
 clear hg0
 have Fa:=Jja Na
 have Fb:=Jja Nb
 have Fr:=Jja Nr
 have BW:=Jja NB
 clear NB Na Nb Nr
 refine (HCX.out _).mono ?_
 rintro e v2 ⟨rfl,z2⟩
 have Na:=Jja (Fa.out.on z2)
 have Nb:=Jja (Fb.out.on z2)
 have Nr:=Jja (Fr.out.on z2)
 have NB:=Jja (Jr BW.out z2)
 clear BW z2 Fa Fb Fr
 have Fa:=Na
 have Fb:=Nb
 have Fr:=Nr
 have BW:=NB
 clear NB Na Nb Nr
 have Lb:=Fb.out.lt
 obtain ⟨cb0,cb1,cb2,cb3⟩:=Kj Fb.out
 go_wp2_with fail
 clear Lb cb0 cb1 cb2 cb3
 have Nx:At (v2.alloc (.cells #[.int .u64 (dg X 0),.int .u64 (dg X 1),.int .u64 (dg X 2),.int .u64 (dg X 3),.int .u64 (dg X 4),.int .u64 (dg X 5),.int .u64 (dg X 6),.int .u64 (dg X 7),.int .u64 (dg X 8),.int .u64 (dg X 9),.int .u64 (dg X 10),.int .u64 (dg X 11),.int .u64 (dg X 12),.int .u64 (dg X 13),.int .u64 (dg X 14),.int .u64 (dg X 15)] 239)) (v2.heap.size) 239 #[.int .u64 (dg X 0),.int .u64 (dg X 1),.int .u64 (dg X 2),.int .u64 (dg X 3),.int .u64 (dg X 4),.int .u64 (dg X 5),.int .u64 (dg X 6),.int .u64 (dg X 7),.int .u64 (dg X 8),.int .u64 (dg X 9),.int .u64 (dg X 10),.int .u64 (dg X 11),.int .u64 (dg X 12),.int .u64 (dg X 13),.int .u64 (dg X 14),.int .u64 (dg X 15)]:=At.at_ _ _ _ _ (by simp)
 have Ex:w.heap.size≤v2.heap.size:=by have:=BW.out.size;omega
 have Dax:ga≠v2.heap.size:=by have:=Fa.out.lt;omega
 have Dbx:gb≠v2.heap.size:=by have:=Fb.out.lt;omega
 have Drx:gr≠v2.heap.size:=by have:=Fr.out.lt;omega
 have Na:At (v2.alloc (.cells #[.int .u64 (dg X 0),.int .u64 (dg X 1),.int .u64 (dg X 2),.int .u64 (dg X 3),.int .u64 (dg X 4),.int .u64 (dg X 5),.int .u64 (dg X 6),.int .u64 (dg X 7),.int .u64 (dg X 8),.int .u64 (dg X 9),.int .u64 (dg X 10),.int .u64 (dg X 11),.int .u64 (dg X 12),.int .u64 (dg X 13),.int .u64 (dg X 14),.int .u64 (dg X 15)] 239)) ga 24 (ncs X):=Fa.out.alloc _
 have Nb:At (v2.alloc (.cells #[.int .u64 (dg X 0),.int .u64 (dg X 1),.int .u64 (dg X 2),.int .u64 (dg X 3),.int .u64 (dg X 4),.int .u64 (dg X 5),.int .u64 (dg X 6),.int .u64 (dg X 7),.int .u64 (dg X 8),.int .u64 (dg X 9),.int .u64 (dg X 10),.int .u64 (dg X 11),.int .u64 (dg X 12),.int .u64 (dg X 13),.int .u64 (dg X 14),.int .u64 (dg X 15)] 239)) gb 24 (ncs Y):=Fb.out.alloc _
 have Nr:At (v2.alloc (.cells #[.int .u64 (dg X 0),.int .u64 (dg X 1),.int .u64 (dg X 2),.int .u64 (dg X 3),.int .u64 (dg X 4),.int .u64 (dg X 5),.int .u64 (dg X 6),.int .u64 (dg X 7),.int .u64 (dg X 8),.int .u64 (dg X 9),.int .u64 (dg X 10),.int .u64 (dg X 11),.int .u64 (dg X 12),.int .u64 (dg X 13),.int .u64 (dg X 14),.int .u64 (dg X 15)] 239)) gr 24 #[.int .u64 0,.int .u64 0,.int .u64 0,.int .u64 0]:=Fr.out.alloc _
 have NB:Below w.heap.size w (v2.alloc (.cells #[.int .u64 (dg X 0),.int .u64 (dg X 1),.int .u64 (dg X 2),.int .u64 (dg X 3),.int .u64 (dg X 4),.int .u64 (dg X 5),.int .u64 (dg X 6),.int .u64 (dg X 7),.int .u64 (dg X 8),.int .u64 (dg X 9),.int .u64 (dg X 10),.int .u64 (dg X 11),.int .u64 (dg X 12),.int .u64 (dg X 13),.int .u64 (dg X 14),.int .u64 (dg X 15)] 239)):=Jd BW.out _
 clear BW Fa Fb Fr
 generalize (v2.alloc (.cells #[.int .u64 (dg X 0),.int .u64 (dg X 1),.int .u64 (dg X 2),.int .u64 (dg X 3),.int .u64 (dg X 4),.int .u64 (dg X 5),.int .u64 (dg X 6),.int .u64 (dg X 7),.int .u64 (dg X 8),.int .u64 (dg X 9),.int .u64 (dg X 10),.int .u64 (dg X 11),.int .u64 (dg X 12),.int .u64 (dg X 13),.int .u64 (dg X 14),.int .u64 (dg X 15)] 239))=W3 at *
 generalize v2.heap.size=gx at *
 have Fa:=Jja Na
 have Fb:=Jja Nb
 have Fr:=Jja Nr
 have Fx:=Jja Nx
 have BW:=Jja NB
 clear NB Na Nb Nr Nx
 refine (HCY.out _).mono ?_
 rintro e v4 ⟨rfl,z4⟩
 have Na:=Jja (Fa.out.on z4)
 have Nb:=Jja (Fb.out.on z4)
 have Nr:=Jja (Fr.out.on z4)
 have Nx:=Jja (Fx.out.on z4)
 have NB:=Jja (Jr BW.out z4)
 clear BW z4 Fa Fb Fr Fx
 have Fa:=Na
 have Fb:=Nb
 have Fr:=Nr
 have Fx:=Nx
 have BW:=NB
 clear NB Na Nb Nr Nx
 go_wp2_with fail
 have Ny:At (v4.alloc (.cells #[.int .u64 (dg Y 0),.int .u64 (dg Y 1),.int .u64 (dg Y 2),.int .u64 (dg Y 3),.int .u64 (dg Y 4),.int .u64 (dg Y 5),.int .u64 (dg Y 6),.int .u64 (dg Y 7),.int .u64 (dg Y 8),.int .u64 (dg Y 9),.int .u64 (dg Y 10),.int .u64 (dg Y 11),.int .u64 (dg Y 12),.int .u64 (dg Y 13),.int .u64 (dg Y 14),.int .u64 (dg Y 15)] 239)) (v4.heap.size) 239 #[.int .u64 (dg Y 0),.int .u64 (dg Y 1),.int .u64 (dg Y 2),.int .u64 (dg Y 3),.int .u64 (dg Y 4),.int .u64 (dg Y 5),.int .u64 (dg Y 6),.int .u64 (dg Y 7),.int .u64 (dg Y 8),.int .u64 (dg Y 9),.int .u64 (dg Y 10),.int .u64 (dg Y 11),.int .u64 (dg Y 12),.int .u64 (dg Y 13),.int .u64 (dg Y 14),.int .u64 (dg Y 15)]:=At.at_ _ _ _ _ (by simp)
 have Dry:gr≠v4.heap.size:=by have:=Fr.out.lt;omega
 have Dxy:gx≠v4.heap.size:=by have:=Fx.out.lt;omega
 have Na:At (v4.alloc (.cells #[.int .u64 (dg Y 0),.int .u64 (dg Y 1),.int .u64 (dg Y 2),.int .u64 (dg Y 3),.int .u64 (dg Y 4),.int .u64 (dg Y 5),.int .u64 (dg Y 6),.int .u64 (dg Y 7),.int .u64 (dg Y 8),.int .u64 (dg Y 9),.int .u64 (dg Y 10),.int .u64 (dg Y 11),.int .u64 (dg Y 12),.int .u64 (dg Y 13),.int .u64 (dg Y 14),.int .u64 (dg Y 15)] 239)) ga 24 (ncs X):=Fa.out.alloc _
 have Nb:At (v4.alloc (.cells #[.int .u64 (dg Y 0),.int .u64 (dg Y 1),.int .u64 (dg Y 2),.int .u64 (dg Y 3),.int .u64 (dg Y 4),.int .u64 (dg Y 5),.int .u64 (dg Y 6),.int .u64 (dg Y 7),.int .u64 (dg Y 8),.int .u64 (dg Y 9),.int .u64 (dg Y 10),.int .u64 (dg Y 11),.int .u64 (dg Y 12),.int .u64 (dg Y 13),.int .u64 (dg Y 14),.int .u64 (dg Y 15)] 239)) gb 24 (ncs Y):=Fb.out.alloc _
 have Nr:At (v4.alloc (.cells #[.int .u64 (dg Y 0),.int .u64 (dg Y 1),.int .u64 (dg Y 2),.int .u64 (dg Y 3),.int .u64 (dg Y 4),.int .u64 (dg Y 5),.int .u64 (dg Y 6),.int .u64 (dg Y 7),.int .u64 (dg Y 8),.int .u64 (dg Y 9),.int .u64 (dg Y 10),.int .u64 (dg Y 11),.int .u64 (dg Y 12),.int .u64 (dg Y 13),.int .u64 (dg Y 14),.int .u64 (dg Y 15)] 239)) gr 24 #[.int .u64 0,.int .u64 0,.int .u64 0,.int .u64 0]:=Fr.out.alloc _
 have Nx:At (v4.alloc (.cells #[.int .u64 (dg Y 0),.int .u64 (dg Y 1),.int .u64 (dg Y 2),.int .u64 (dg Y 3),.int .u64 (dg Y 4),.int .u64 (dg Y 5),.int .u64 (dg Y 6),.int .u64 (dg Y 7),.int .u64 (dg Y 8),.int .u64 (dg Y 9),.int .u64 (dg Y 10),.int .u64 (dg Y 11),.int .u64 (dg Y 12),.int .u64 (dg Y 13),.int .u64 (dg Y 14),.int .u64 (dg Y 15)] 239)) gx 239 #[.int .u64 (dg X 0),.int .u64 (dg X 1),.int .u64 (dg X 2),.int .u64 (dg X 3),.int .u64 (dg X 4),.int .u64 (dg X 5),.int .u64 (dg X 6),.int .u64 (dg X 7),.int .u64 (dg X 8),.int .u64 (dg X 9),.int .u64 (dg X 10),.int .u64 (dg X 11),.int .u64 (dg X 12),.int .u64 (dg X 13),.int .u64 (dg X 14),.int .u64 (dg X 15)]:=Fx.out.alloc _
 have NB:Below w.heap.size w (v4.alloc (.cells #[.int .u64 (dg Y 0),.int .u64 (dg Y 1),.int .u64 (dg Y 2),.int .u64 (dg Y 3),.int .u64 (dg Y 4),.int .u64 (dg Y 5),.int .u64 (dg Y 6),.int .u64 (dg Y 7),.int .u64 (dg Y 8),.int .u64 (dg Y 9),.int .u64 (dg Y 10),.int .u64 (dg Y 11),.int .u64 (dg Y 12),.int .u64 (dg Y 13),.int .u64 (dg Y 14),.int .u64 (dg Y 15)] 239)):=Jd BW.out _
 clear BW Fa Fb Fr Fx
 generalize (v4.alloc (.cells #[.int .u64 (dg Y 0),.int .u64 (dg Y 1),.int .u64 (dg Y 2),.int .u64 (dg Y 3),.int .u64 (dg Y 4),.int .u64 (dg Y 5),.int .u64 (dg Y 6),.int .u64 (dg Y 7),.int .u64 (dg Y 8),.int .u64 (dg Y 9),.int .u64 (dg Y 10),.int .u64 (dg Y 11),.int .u64 (dg Y 12),.int .u64 (dg Y 13),.int .u64 (dg Y 14),.int .u64 (dg Y 15)] 239))=W5 at *
 generalize v4.heap.size=gy at *
 have Fa:=Jja Na
 have Fb:=Jja Nb
 have Fr:=Jja Nr
 have Fx:=Jja Nx
 have Fy:=Jja Ny
 have BW:=Jja NB
 clear NB Na Nb Nr Nx Ny
 clear Fa
 clear Fb
 go_loopw [8,9] (fun c s wr=>∃ (i cc:Nat) (M:List Nat),i≤16∧c=.int .u64 (cc:Nat)∧s=.int .i64 (i:Nat)∧Hid (At wr gx 239 (ws M)∧At wr gy 239 (ws (ds Y))∧At wr gr 24 #[.int .u64 0,.int .u64 0,.int .u64 0,.int .u64 0]∧Below w.heap.size w wr∧M.length=16∧(∀ x∈M,x<65536)∧cc≤1∧(∀ k,i≤k→k<16→M.getD k 0=dg X k)∧lv 65536 (M.take i)+Y%65536^i=X%65536^i+65536^i*cc)) (fun _ s _=>16-(intOf s).toNat)
 case atStart=>exact ⟨0,0,ds X,by omega,rfl,rfl,Fx.out,Fy.out,Fr.out,BW.out,rfl,ds_lt X,by omega,fun k _ h=>Jfl X k h,by simp [lv,Nat.mod_one]⟩
 case round=>
  obtain ⟨i,cc,M,hi,rfl,rfl,hM⟩:=hrel
  clear Fx Fy Fr BW
  by_cases hlt:i<16
  ·have hcc:=hM.out.2.2.2.2.2.2.1
   obtain ⟨n,d,c',hn,hd,hc',hdl,hcl,hnl,hnq,hs⟩:=rsub_num X Y i cc (lv 65536 (M.take i)) hcc hM.out.2.2.2.2.2.2.2.2
   have hx16:=Jbp X i
   have hy16:=Jbp Y i
   have fx:wr.drew.cell? ⟨gx,i,none⟩=some (.int .u64 (dg X i)):=by rw [hM.out.1.drew.cell,Wx _ _ (by rw [hM.out.2.2.2.2.1];omega),hM.out.2.2.2.2.2.2.2.1 i (Nat.le_refl _) hlt]
   have fy:wr.drew.cell? ⟨gy,i,none⟩=some (.int .u64 (dg Y i)):=by rw [hM.out.2.1.drew.cell,Wx _ _ (by rw [Jfk];omega),Jfl Y i hlt]
   have ff:wr.drew.frozen? ⟨gx,i,none⟩=false:=hM.out.1.drew.frozen i
   have i0:(0:Int)≤(i:Int):=by omega
   have i16:(i:Int)<16:=by omega
   have v1:IntKind.u64.wrap (((dg X i:Nat):Int)+65536)=((dg X i+65536:Nat):Int):=by rw [IntKind.wrap_u64];omega
   have v2:IntKind.u64.wrap (((dg X i+65536:Nat):Int)-((dg Y i:Nat):Int))=((dg X i+65536-dg Y i:Nat):Int):=by rw [IntKind.wrap_u64];omega
   have v3:IntKind.u64.wrap (((dg X i+65536-dg Y i:Nat):Int)-(cc:Int))=((n:Nat):Int):=by rw [hn,IntKind.wrap_u64];omega
   have v4:Int.tmod (n:Int) 65536=(d:Nat):=by rw [hd,Int.tmod_eq_emod_of_nonneg (by omega)];omega
   have v5:Int.tdiv (n:Int) 65536=((n/65536:Nat):Int):=by rw [Int.tdiv_eq_ediv_of_nonneg (by omega)];omega
   have v4b:(n:Int)%65536=(d:Nat):=by omega
   have v5b:(n:Int)/65536=((n/65536:Nat):Int):=by omega
   have v6:IntKind.u64.wrap (1-((n/65536:Nat):Int))=(c':Nat):=by rw [hc',IntKind.wrap_u64];omega
   have v7:(1:Int)-((n/65536:Nat):Int)=(c':Nat):=by omega
   generalize dg X i+65536-dg Y i=s2 at *
   generalize dg X i+65536=s1 at *
   generalize n/65536=nq at *
   have HS:=Jja hs;have HDL:=Jja hdl;have HCL:=Jja hcl
   clear hs hn hd hc' hdl hnq
   generalize dg X i=xi at *
   generalize dg Y i=yi at *
   go_wp2_with fail
   refine wp_region_still_tail 10 (by kernel_rfl) (by kernel_rfl) ?_
   simp only [List.take_succ_cons,List.take_zero,List.drop_succ_cons,List.drop_zero]
   change wpStill _ _ wr.drew (fun a'=>wpList _ _ _ _ a' wr.drew) _ _
   obtain ⟨wj,hwj⟩:∃ wj,wr.drew=wj:=⟨_,rfl⟩
   have hwj':=Jja hwj
   rw [hwj] at fx fy ff ⊢
   clear hwj
   repeat still_step
   refine wpStill_nil ?_
   go_wp2
   go_roundw
   case rel=>
    first
     | refine ⟨i+1,c',M.set i d,by omega,rfl,by go_num,?_⟩
     | ((repeat apply Exists.intro);refine ⟨⟨i+1,c',M.set i d,by omega,rfl,by go_num,?_⟩,rfl⟩)
    rw [← hwj'.out]
    have hyx:gy≠gx:=by first | exact Dyx | exact Dxy.symm
    have hrx:gr≠gx:=by first | exact Drx | exact Dxr.symm
    refine ⟨by rw [← Ve];exact hM.out.1.drew.set _ _,hM.out.2.1.drew.far (by exact fun e=>hyx e.symm) _,hM.out.2.2.1.drew.far (by exact fun e=>hrx e.symm) _,hM.out.2.2.2.1.drew.setCell Ex _,by rw [List.length_set];exact hM.out.2.2.2.2.1,fun x hx=>?_,HCL.out,fun k h1 h2=>?_,?_⟩
    ·rcases List.mem_or_eq_of_mem_set hx with h | h
     ·exact hM.out.2.2.2.2.2.1 x h
     ·rw [h];exact HDL.out
    ·rw [Uy _ _ _ _ (by omega)];exact hM.out.2.2.2.2.2.2.2.1 k (by omega) h2
    ·rw [take_set _ _ _ (by rw [hM.out.2.2.2.2.1];omega)];exact HS.out
   case measure=>simp [intOf];omega
  ·obtain rfl:i=16:=by omega
   have hx:=HX.out
   have hy:=HY.out
   have hs:=hM.out.2.2.2.2.2.2.2.2
   rw [List.take_of_length_le (by rw [hM.out.2.2.2.2.1];omega),Nat.mod_eq_of_lt (show X<65536^16 by omega),Nat.mod_eq_of_lt (show Y<65536^16 by omega)] at hs
   have hlt:=Jhs 65536 M hM.out.2.2.2.2.2.1
   rw [hM.out.2.2.2.2.1] at hlt
   have C:=fun w' (hb:Below wr.heap.size wr w')=>Jgb M hM.out.2.2.2.2.1 hM.out.2.2.2.2.2.1 gx 0 16 w' (fun k hk=>by rw [Nat.zero_add,(hM.out.1.on hb).cell,Wx _ _ (by rw [hM.out.2.2.2.2.1];omega)])
   obtain ⟨S,hS⟩:∃ S,lv 65536 M=S:=⟨_,rfl⟩
   rw [hS] at C hs hlt
   have HC:=Jja C;have HSS:=Jja hs;have HLT:=Jja hlt
   have Fx:=hM.out.1.lt
   have Fr:=Jja hM.out.2.2.1;have BW:=Jja hM.out.2.2.2.1;have HCC:=Jja hM.out.2.2.2.2.2.2.1
   clear C hs hlt hS hM hx hy
   go_wp2_with fail
   refine (HC.out _ (Below.refl _ _)).mono ?_
   rintro e v9 ⟨rfl,z9⟩
   have Nr:=Fr.out.on z9
   have NB:=Jr BW.out z9
   clear Fr BW z9
   have FR:=Jja Nr
   have BW:=Jja NB
   clear Nr NB
   have d0:v9.cell? ⟨gr,0,none⟩=some (.int .u64 0):=FR.out.cell 0
   have d1:v9.cell? ⟨gr,1,none⟩=some (.int .u64 0):=FR.out.cell 1
   have d2:v9.cell? ⟨gr,2,none⟩=some (.int .u64 0):=FR.out.cell 2
   have d3:v9.cell? ⟨gr,3,none⟩=some (.int .u64 0):=FR.out.cell 3
   obtain ⟨f0,f1,f2,f3⟩:=Vo FR.out
   go_wp2_with fail
   have NR:=FR.out.put4 (.int .u64 (wd S 0)) (.int .u64 (wd S 1)) (.int .u64 (wd S 2)) (.int .u64 (wd S 3))
   have NB:Below w.heap.size w ((((v9.setCell ⟨gr,0,none⟩ (.int .u64 (wd S 0))).setCell ⟨gr,1,none⟩ (.int .u64 (wd S 1))).setCell ⟨gr,2,none⟩ (.int .u64 (wd S 2))).setCell ⟨gr,3,none⟩ (.int .u64 (wd S 3))):=(((BW.out.setCell Er _).setCell Er _).setCell Er _).setCell Er _
   clear d0 d1 d2 d3 f0 f1 f2 f3 FR BW
   generalize ((((v9.setCell ⟨gr,0,none⟩ (.int .u64 (wd S 0))).setCell ⟨gr,1,none⟩ (.int .u64 (wd S 1))).setCell ⟨gr,2,none⟩ (.int .u64 (wd S 2))).setCell ⟨gr,3,none⟩ (.int .u64 (wd S 3)))=WF at *
   have c0:WF.cell? ⟨gr,0,none⟩=some (.int .u64 (wd S 0)):=NR.cell 0
   have c1:WF.cell? ⟨gr,1,none⟩=some (.int .u64 (wd S 1)):=NR.cell 1
   have c2:WF.cell? ⟨gr,2,none⟩=some (.int .u64 (wd S 2)):=NR.cell 2
   have c3:WF.cell? ⟨gr,3,none⟩=some (.int .u64 (wd S 3)):=NR.cell 3
   have NBB:=Jja NB
   clear NB NR
   exact bodyPost_ret (v:=.tuple #[num S,.int .u64 (cc:Nat)]) (by simp [results,Tryz.results123,go_sem, *]) rfl ⟨⟨S,cc,rfl,HSS.out,HLT.out,HCC.out⟩,NBB.out⟩

theorem Jan (X Y S c:Nat) (hX:X<2^256) (hY:Y<2^256) (hS:S<2^256) (hc:c≤1) (he:X+2^256*c=S+Y) (w:World):Calls Tryz.prog 123 #[num X,num Y] w fun e w'=>e=.returned (.tuple #[num S,.int .u64 (c:Nat)])∧Below w.heap.size w w':=by
 refine (rsub_walk X Y hX hY w).mono ?_
 rintro e w' ⟨⟨S',c'',rfl,h1,h2,h3⟩,hb⟩
 have e1:S'=S∧c''=c:=by omega
 obtain ⟨rfl,rfl⟩:=e1
 exact ⟨rfl,hb⟩
theorem high_dig (X i:Nat) (hi:i<16) (hX:X<2^256):X/65536^i=dg X i+65536*(X/65536^(i+1)):=by
 unfold dg
 rw [Nat.pow_succ,← Nat.div_div_eq_div_mul];omega
theorem high_lt (X Y i:Nat) (h:X/65536^i<Y/65536^i):X<Y:=by
 have h0:0<65536^i:=Nat.pow_pos (by decide)
 by_cases hc:X<Y
 ·exact hc
 ·exfalso
  have:Y/65536^i≤X/65536^i:=Nat.div_le_div_right (by omega)
  omega
set_option maxRecDepth 100000 in
set_option maxHeartbeats 4000000 in
theorem Xh (X Y:Nat) (hX:X<2^256) (hY:Y<2^256) (w:World):Calls Tryz.prog 119 #[num X,num Y] w fun e w'=>e=.returned (.int .i64 (Jfn X Y))∧Below w.heap.size w w':=by
 have CX:=Xo X;have CY:=Xo Y
 have HCX:=Jja CX;have HCY:=Jja CY
 clear CX CY
 have HX:=Jja hX;have HY:=Jja hY;clear hX hY
 obtain ⟨r,hr⟩:∃ r,r=Jfn X Y:=⟨_,rfl⟩
 rw [← hr]
 have HR:=Jja hr
 clear hr
 go_enter Tryz.func119,Tryz.ntmps119
 go_wp2_with fail
 have BW:=Jja (Below.refl w.heap.size w)
 generalize hW1:((w.alloc (.cells (ncs X) 24)).alloc (.cells (ncs Y) 24))=W1 at *
 have Na:At W1 (w.heap.size) _ _:=Jf hW1 ((At.at_ _ _ _ _ (by simp)).alloc _)
 have Nb:At W1 (w.heap.size+1) _ _:=Jf hW1 (At.at_ _ _ _ _ (by simp))
 have NB:=Ka hW1 (Jd (Jd BW.out _) _)
 clear BW
 clear hW1
 generalize w.heap.size+1=gb at *
 obtain ⟨ga,hg0⟩:∃ g,g=w.heap.size:=⟨_,rfl⟩
 rw [← hg0] at Na ⊢
 clear hg0
 have Fa:=Jja Na
 have Fb:=Jja Nb
 have BW:=Jja NB
 clear NB Na Nb
 refine (HCX.out _).mono ?_
 rintro e v2 ⟨rfl,z2⟩
 have Na:=Jja (Fa.out.on z2)
 have Nb:=Jja (Fb.out.on z2)
 have NB:=Jja (Jr BW.out z2)
 clear BW z2 Fa Fb
 have Fa:=Na
 have Fb:=Nb
 have BW:=NB
 clear NB Na Nb
 have Lb:=Fb.out.lt
 obtain ⟨cb0,cb1,cb2,cb3⟩:=Kj Fb.out
 go_wp2_with fail
 generalize hW3:(v2.alloc (.cells #[.int .u64 (dg X 0),.int .u64 (dg X 1),.int .u64 (dg X 2),.int .u64 (dg X 3),.int .u64 (dg X 4),.int .u64 (dg X 5),.int .u64 (dg X 6),.int .u64 (dg X 7),.int .u64 (dg X 8),.int .u64 (dg X 9),.int .u64 (dg X 10),.int .u64 (dg X 11),.int .u64 (dg X 12),.int .u64 (dg X 13),.int .u64 (dg X 14),.int .u64 (dg X 15)] 239))=W3 at *
 clear Lb cb0 cb1 cb2 cb3
 have Nx:At W3 (v2.heap.size) _ _:=Jf hW3 (At.at_ _ _ _ _ (by simp))
 have Na:=Jf hW3 (Fa.out.alloc _)
 have Nb:=Jf hW3 (Fb.out.alloc _)
 have NB:=Ka hW3 (Jd BW.out _)
 clear BW Fa Fb
 clear hW3
 generalize v2.heap.size=gx at *
 have Fa:=Jja Na
 have Fb:=Jja Nb
 have Fx:=Jja Nx
 have BW:=Jja NB
 clear NB Na Nb Nx
 refine (HCY.out _).mono ?_
 rintro e v4 ⟨rfl,z4⟩
 have Na:=Jja (Fa.out.on z4)
 have Nb:=Jja (Fb.out.on z4)
 have Nx:=Jja (Fx.out.on z4)
 have NB:=Jja (Jr BW.out z4)
 clear BW z4 Fa Fb Fx
 have Fa:=Na
 have Fb:=Nb
 have Fx:=Nx
 have BW:=NB
 clear NB Na Nb Nx
 go_wp2_with fail
 generalize hW5:(v4.alloc (.cells #[.int .u64 (dg Y 0),.int .u64 (dg Y 1),.int .u64 (dg Y 2),.int .u64 (dg Y 3),.int .u64 (dg Y 4),.int .u64 (dg Y 5),.int .u64 (dg Y 6),.int .u64 (dg Y 7),.int .u64 (dg Y 8),.int .u64 (dg Y 9),.int .u64 (dg Y 10),.int .u64 (dg Y 11),.int .u64 (dg Y 12),.int .u64 (dg Y 13),.int .u64 (dg Y 14),.int .u64 (dg Y 15)] 239))=W5 at *
 have Ny:At W5 (v4.heap.size) _ _:=Jf hW5 (At.at_ _ _ _ _ (by simp))
 have Na:=Jf hW5 (Fa.out.alloc _)
 have Nb:=Jf hW5 (Fb.out.alloc _)
 have Nx:=Jf hW5 (Fx.out.alloc _)
 have NB:=Ka hW5 (Jd BW.out _)
 clear BW Fa Fb Fx
 clear hW5
 generalize v4.heap.size=gy at *
 have Fa:=Jja Na
 have Fb:=Jja Nb
 have Fx:=Jja Nx
 have Fy:=Jja Ny
 have BW:=Jja NB
 clear NB Na Nb Nx Ny
 clear Fa
 clear Fb
 go_loopw [7] (fun s wr=>∃ i:Nat,i≤16∧s=.int .i64 ((i:Int)-1)∧Hid (At wr gx 239 (ws (ds X))∧At wr gy 239 (ws (ds Y))∧Below w.heap.size w wr∧X/65536^i=Y/65536^i)) (fun s _=>(intOf s+1).toNat)
 case atStart=>exact ⟨16,by omega,rfl,Fx.out,Fy.out,BW.out,by have hx:=HX.out;have hy:=HY.out;rw [Nat.div_eq_of_lt (show X<65536^16 by omega),Nat.div_eq_of_lt (show Y<65536^16 by omega)]⟩
 case round=>
  obtain ⟨i,hi,rfl,hM⟩:=hrel
  clear Fx Fy BW
  by_cases h0:i=0
  ·subst h0
   have e:=hM.out.2.2.2
   rw [Nat.pow_zero,Nat.div_one,Nat.div_one] at e
   have HE:=Jja (show r=0 from by rw [HR.out,e,Jhl])
   have BW:=Jja hM.out.2.2.1
   clear hM e
   go_wp2_with fail
   go_ret
   exact ⟨by rw [HE.out];rfl,BW.out⟩
  ·obtain ⟨k,rfl⟩:∃ k,i=k+1:=⟨i-1,by omega⟩
   have e1:(((k+1:Nat):Int)-1)=(k:Nat):=by omega
   rw [e1]
   clear e1
   have fx:∀ w2:World,w2.heap=wr.heap→w2.cell? ⟨gx,k,none⟩=some (.int .u64 (dg X k)):=fun w2 hw=>by
    have h:=hM.out.1
    have h2:At w2 gx 239 (ws (ds X)):=by unfold At at h ⊢;rw [hw];exact h
    rw [h2.cell,Wx _ _ (by rw [Jfk];omega),Jfl X k (by omega)]
   have fy:∀ w2:World,w2.heap=wr.heap→w2.cell? ⟨gy,k,none⟩=some (.int .u64 (dg Y k)):=fun w2 hw=>by
    have h:=hM.out.2.1
    have h2:At w2 gy 239 (ws (ds Y)):=by unfold At at h ⊢;rw [hw];exact h
    rw [h2.cell,Wx _ _ (by rw [Jfk];omega),Jfl Y k (by omega)]
   have hxl:=Jbp X k
   have hyl:=Jbp Y k
   have ex:=high_dig X k (by omega) HX.out
   have ey:=high_dig Y k (by omega) HY.out
   have ez:=hM.out.2.2.2
   rw [← ez] at ey
   have k0:(0:Int)≤(k:Int):=by omega
   have k16:(k:Int)<16:=by omega
   have HXk:=Jja (fun h:dg X k<dg Y k=>high_lt X Y k (by omega))
   have HYk:=Jja (fun h:dg Y k<dg X k=>high_lt Y X k (by omega))
   have HEk:=Jja (fun h:dg X k=dg Y k=>show X/65536^k=Y/65536^k by omega)
   clear ex ey ez
   have c1:=fx wr.drew rfl
   have c2:=fy wr.drew rfl
   have c3:=fx wr.drew.drew rfl
   have c4:=fy wr.drew.drew rfl
   clear fx fy
   generalize hxk:dg X k=xk at *
   generalize hyk:dg Y k=yk at *
   rcases Nat.lt_trichotomy xk yk with h | h | h
   ·have HE:=Jja (show r=-1 from by rw [HR.out,Jdl (HXk.out h)])
    have h':(xk:Int)<(yk:Int):=by omega
    have BW:=Jja hM.out.2.2.1.drew
    have BW2:=Jja hM.out.2.2.1.drew.drew
    clear hM HXk HYk HEk hxk hyk
    go_wp2_with fail
    refine wp_region_still_tail 6 (by kernel_rfl) (by kernel_rfl) ?_
    simp only [List.take_succ_cons,List.take_zero,List.drop_succ_cons,List.drop_zero]
    change wpStill _ _ wr.drew (fun a'=>wpList _ _ _ _ a' wr.drew) _ _
    repeat still_step
    refine wpStill_nil ?_
    go_wp2_with fail
    go_ret
    exact ⟨by rw [HE.out];rfl,by first | exact BW.out | exact BW2.out⟩
   ·have h':¬ (xk:Int)<(yk:Int):=by omega
    have h'':¬ (yk:Int)<(xk:Int):=by omega
    have HEQ:=Jja (HEk.out h)
    clear HXk HYk HEk hxk hyk h
    go_wp2_with fail
    refine wp_region_still_tail 6 (by kernel_rfl) (by kernel_rfl) ?_
    simp only [List.take_succ_cons,List.take_zero,List.drop_succ_cons,List.drop_zero]
    change wpStill _ _ wr.drew (fun a'=>wpList _ _ _ _ a' wr.drew) _ _
    repeat still_step
    refine wpStill_nil ?_
    go_wp2_with fail
    refine wp_region_still_tail 6 (by kernel_rfl) (by kernel_rfl) ?_
    simp only [List.take_succ_cons,List.take_zero,List.drop_succ_cons,List.drop_zero]
    change wpStill _ _ wr.drew.drew (fun a'=>wpList _ _ _ _ a' wr.drew.drew) _ _
    repeat still_step
    refine wpStill_nil ?_
    go_wp2_with fail
    go_roundw
    case rel=>
     first
      | exact ⟨k,by omega,by go_num,hM.out.1.drew.drew,hM.out.2.1.drew.drew,hM.out.2.2.1.drew.drew,HEQ.out⟩
      | ((repeat apply Exists.intro);exact ⟨⟨k,by omega,by go_num,hM.out.1.drew.drew,hM.out.2.1.drew.drew,hM.out.2.2.1.drew.drew,HEQ.out⟩,rfl⟩)
    case measure=>(simp [intOf] <;> omega)
   ·have HE:=Jja (show r=1 from by rw [HR.out,Jgq (HYk.out h)])
    have h':¬ (xk:Int)<(yk:Int):=by omega
    have h'':(yk:Int)<(xk:Int):=by omega
    have BW2:=Jja hM.out.2.2.1.drew.drew
    clear hM HXk HYk HEk hxk hyk
    go_wp2_with fail
    refine wp_region_still_tail 6 (by kernel_rfl) (by kernel_rfl) ?_
    simp only [List.take_succ_cons,List.take_zero,List.drop_succ_cons,List.drop_zero]
    change wpStill _ _ wr.drew (fun a'=>wpList _ _ _ _ a' wr.drew) _ _
    repeat still_step
    refine wpStill_nil ?_
    go_wp2_with fail
    refine wp_region_still_tail 6 (by kernel_rfl) (by kernel_rfl) ?_
    simp only [List.take_succ_cons,List.take_zero,List.drop_succ_cons,List.drop_zero]
    change wpStill _ _ wr.drew.drew (fun a'=>wpList _ _ _ _ a' wr.drew.drew) _ _
    repeat still_step
    refine wpStill_nil ?_
    go_wp2_with fail
    go_ret
    exact ⟨by rw [HE.out];rfl,BW2.out⟩

set_option maxHeartbeats 400000 in
theorem Xg (x:Nat) (hx:x<18446744073709551616) (w:World):Calls Tryz.prog 122 #[.int .u64 (x:Nat)] w fun e w'=>e=.returned (num x)∧Below w.heap.size w w':=by
 have e:num x=.agg #[.int .u64 (x:Nat),.int .u64 0,.int .u64 0,.int .u64 0]:=(Jdn x 0 0 0 hx (by decide) (by decide) (by decide) x (by omega)).symm
 rw [e]
 clear e hx
 go_enter Tryz.func122,Tryz.ntmps122
 go_wp2
 exact bodyPost_ret (v:=.agg #[.int .u64 (x:Nat),.int .u64 0,.int .u64 0,.int .u64 0]) (by simp [results,Tryz.results122,go_sem]) rfl
  ⟨rfl,by repeat (first | exact Below.refl _ _ | refine Jd ?_ _ | refine Below.setCell ?_ (by simp) _ | refine Below.setCell ?_ (by simp;omega) _)⟩
end Go.Proofs.YtmmgmljkmmgjdaaGreatDoor
