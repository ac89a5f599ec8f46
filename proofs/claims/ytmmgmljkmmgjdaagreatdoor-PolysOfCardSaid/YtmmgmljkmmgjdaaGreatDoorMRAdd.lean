import Derived.Test.YtmmgmljkmmgjdaaGreatDoorMBehind
import Derived.Test.YtmmgmljkmmgjdaaGreatDoorMRbits
namespace Go.Proofs.YtmmgmljkmmgjdaaGreatDoor
set_option maxRecDepth 100000
open Go.RowKit
set_option linter.unusedSimpArgs false
set_option linter.unusedVariables false
attribute [local go_sem ↓] Go.wp_at_zero Go.wp_at_succ

theorem dig_in (P d i q r:Nat) (hi:i<16) (hq:q=i/4) (hr:r=i%4) (hP:P<65536^i) (hd:d<65536) :
  wd (P+65536^i*d) q=wd P q+d*2^(16*r)∧d*2^(16*r)<18446744073709551616∧wd P q+d*2^(16*r)<18446744073709551616∧∀ k,k≠q→wd (P+65536^i*d) k=wd P k:=by
 have hi4:i=4*q+r:=by omega
 have hr4:r<4:=by omega
 have ep:(65536:Nat)^i=18446744073709551616^q*2^(16*r):=by
  rw [hi4,Nat.pow_add,Nat.pow_mul,Nat.pow_mul]
 obtain ⟨u,hu⟩:∃ u,u=2^(16*r):=⟨_,rfl⟩
 have hu4:u*65536≤18446744073709551616:=by
  have:2^(16*r)≤2^48:=Nat.pow_le_pow_right (by decide) (by omega)
  omega
 have hu0:0<u:=by rw [hu];exact Nat.two_pow_pos _
 rw [← hu] at ep ⊢
 obtain ⟨B,hB⟩:∃ B,B=(18446744073709551616:Nat)^q:=⟨_,rfl⟩
 have hB0:0<B:=by rw [hB];exact Nat.pow_pos (by decide)
 rw [← hB] at ep
 rw [ep] at hP ⊢
 have hPq:P/B<u:=Nat.div_lt_of_lt_mul hP
 have hdu:d*u<u*65536:=by rw [Nat.mul_comm];exact Nat.mul_lt_mul_of_pos_left hd (by omega)
 have hdu2:d*u+u≤u*65536:=by
  have:(d+1)*u≤65536*u:=Nat.mul_le_mul_right u hd
  rw [Nat.add_mul] at this;omega
 have e1:wd P q=P/B:=by unfold wd;rw [← hB];exact Nat.mod_eq_of_lt (by omega)
 have e2:wd (P+B*u*d) q=P/B+d*u:=by
  unfold wd
  rw [← hB,Nat.mul_assoc,Nat.add_mul_div_left _ _ hB0,Nat.mul_comm u d]
  exact Nat.mod_eq_of_lt (by omega)
 refine ⟨by rw [e1,e2],by omega,by rw [e1];omega,fun k hk=>?_⟩
 unfold wd
 by_cases h:k<q
 ·have e3:B=18446744073709551616^k*(18446744073709551616*18446744073709551616^(q-k-1)):=by
   rw [hB,← Nat.pow_succ',← Nat.pow_add];congr 1;omega
  rw [e3]
  rw [show 18446744073709551616^k*(18446744073709551616*18446744073709551616^(q-k-1))*u*d=18446744073709551616^k*(18446744073709551616*(18446744073709551616^(q-k-1)*u*d)) by ac_rfl]
  rw [Nat.add_mul_div_left _ _ (Nat.pow_pos (by decide)),Nat.add_mul_mod_self_left]
 ·have hkq:q+1≤k:=by omega
  have lt:∀ Z,Z<B*18446744073709551616→Z/18446744073709551616^k=0:=fun Z hZ=>Nat.div_eq_of_lt (Nat.lt_of_lt_of_le hZ (by rw [hB,← Nat.pow_succ];exact Nat.pow_le_pow_right (by decide) hkq))
  have h1:P<B*18446744073709551616:=Nat.lt_of_lt_of_le hP (Nat.mul_le_mul_left B (by omega))
  have h2:P+B*u*d<B*18446744073709551616:=by
   have:B*u*d+B*u≤B*18446744073709551616:=by
    rw [Nat.mul_assoc,← Nat.mul_add]
    exact Nat.mul_le_mul_left B (by rw [Nat.mul_comm u d];omega)
   omega
  rw [lt _ h1,lt _ h2]

theorem take_lt (M:List Nat) (hb:∀ x∈M,x<65536) (i:Nat) (hi:i≤M.length):lv 65536 (M.take i)<65536^i:=by
 have:=Jhs 65536 (M.take i) (fun x hx=>hb x (List.mem_of_mem_take hx))
 rwa [List.length_take,Nat.min_eq_left hi] at this
theorem take_more (M:List Nat) (i:Nat) (hi:i<M.length):lv 65536 (M.take (i+1))=lv 65536 (M.take i)+65536^i*M.getD i 0:=by
 rw [List.take_succ_eq_append_getElem hi,Jff,List.length_take,Nat.min_eq_left (by omega)]
 simp [lv,List.getD,hi]

structure OW (wr w:World) (P:Nat):Prop where
 res:At wr w.heap.size 24 #[.int .u64 0,.int .u64 0,.int .u64 0,.int .u64 0]
 a:At wr (w.heap.size+1) 24 (ncs P)
 bel:Below w.heap.size w wr

set_option maxRecDepth 100000 in
set_option maxHeartbeats 4000000 in
theorem Jgb (M:List Nat) (hl:M.length=16) (hb:∀ x∈M,x<65536) (g o cap:Nat) (w:World)
  (hc:∀ k,k<16→w.cell? ⟨g,o+k,none⟩=some (.int .u64 (M.getD k 0:Nat))) :
  Calls Tryz.prog 184 #[.slice (some ⟨g,o,none⟩) 16 cap] w fun e w'=>e=.returned (num (lv 65536 M))∧Below w.heap.size w w':=by
 obtain ⟨X,hX⟩:∃ X,X=lv 65536 M:=⟨_,rfl⟩
 rw [← hX]
 have HXM:=Jja hX
 have HC:=Jja hc;have HBB:=Jja hb;have HL:=Jja hl
 clear hc hb hl hX
 go_enter Tryz.func184,Tryz.ntmps184
 go_wp2
 go_loopw [4] (fun s wr=>∃ (i:Nat),i≤16∧s=.int .i64 i∧Hid (OW wr w (lv 65536 (M.take i)))) (fun s _=>16-(intOf s).toNat)
 case atStart=>
  refine ⟨0,by omega,rfl,⟨?_,?_,?_⟩⟩
  ·exact (At.at_ w _ _ _ rfl).alloc _
  ·have e:∀ k,wd (lv 65536 (M.take 0)) k=0:=fun k=>by simp [wd,lv]
   (try unfold ncs);rw [e,e,e,e]
   exact At.at_ (w.alloc _) _ _ _ (by simp)
  ·repeat (first | exact Below.refl _ _ | refine Jd ?_ _)
 case round=>
  obtain ⟨i,hi,rfl,hH⟩:=hrel
  by_cases hlt:i<16
  ·obtain ⟨q,hq⟩:∃ q,q=i/4:=⟨_,rfl⟩
   obtain ⟨r,hr⟩:∃ r,r=i%4:=⟨_,rfl⟩
   have hP:=take_lt M HBB.out i (by rw [HL.out];omega)
   have hm:=take_more M i (by rw [HL.out];omega)
   have hd:=Jhg HBB.out i (by rw [HL.out];omega)
   obtain ⟨b1,b2,b3,b4⟩:=dig_in _ _ i q r hlt hq hr hP hd
   rw [← hm] at b1 b4
   have fd:wr.drew.cell? ⟨g,o+i,none⟩=some (.int .u64 (M.getD i 0:Nat)):=cell_on hH.out.bel.drew (HC.out i hlt)
   have q4:q<4:=by omega
   have fa:wr.drew.cell? ⟨w.heap.size+1,q,none⟩=some (.int .u64 (wd (lv 65536 (M.take i)) q)):=by
    rw [hH.out.a.drew.cell]
    match q,q4 with
    | 0,_ | 1,_ | 2,_ | 3,_=>rfl
   have ff:wr.drew.frozen? ⟨w.heap.size+1,q,none⟩=false:=hH.out.a.drew.frozen q
   obtain ⟨s,hs⟩:∃ s,s=16*r:=⟨_,rfl⟩
   rw [← hs] at b1 b2 b3
   have gd:Int.tdiv (i:Int) 4=(q:Nat):=by rw [Int.tdiv_eq_ediv_of_nonneg (by omega)];omega
   have gd2:(i:Int)/4=(q:Nat):=by omega
   have gm:Int.tmod (i:Int) 4=(r:Nat):=by rw [Int.tmod_eq_emod_of_nonneg (by omega)];omega
   have gm2:(i:Int)%4=(r:Nat):=by omega
   have gw:IntKind.i64.wrap ((q:Nat):Int)=(q:Nat):=by rw [IntKind.wrap_i64];omega
   have gwr:IntKind.i64.wrap ((r:Nat):Int)=(r:Nat):=by rw [IntKind.wrap_i64];omega
   have gs:IntKind.i64.wrap (16*(r:Int))=(s:Nat):=by rw [IntKind.wrap_i64];omega
   have s64:(s:Int)<64:=by omega
   have s0:(0:Int)≤(s:Int):=by omega
   have q0:(0:Int)≤(q:Int):=by omega
   have q4':(q:Int)<4:=by omega
   have i0:(0:Int)≤(i:Int):=by omega
   have i16:(i:Int)<16:=by omega
   have hso:s≤48:=by omega
   have HB1:=Jja b1;have HB4:=Jja b4;have HB3:=Jja b3
   clear b1 b4 hm hP hq hr hs hd
   obtain ⟨x,hx⟩:∃ x,M.getD i 0=x:=⟨_,rfl⟩
   obtain ⟨y,hy⟩:∃ y,wd (lv 65536 (M.take i)) q=y:=⟨_,rfl⟩
   rw [hx] at fd b2 HB1
   rw [hx] at HB3
   rw [hy] at fa HB1 HB3
   have gsh:IntKind.u64.wrap ((x:Int)*2^s)=((x*2^s:Nat):Int):=by rw [show (x:Int)*2^s=((x*2^s:Nat):Int) by simp,IntKind.wrap_u64];omega
   obtain ⟨z,hz⟩:∃ z,x*2^s=z:=⟨_,rfl⟩
   rw [hz] at gsh b2 HB1 HB3
   have gad:IntKind.u64.wrap ((y:Int)+(z:Int))=((y+z:Nat):Int):=by have:=HB3.out;rw [IntKind.wrap_u64];omega
   have HX:=Jja hx;have HY:=Jja hy;have HZ:=Jja hz
   clear hx hy hz b2 b3
   go_wp2_with fail
   refine wp_region_still_tail 16 (by kernel_rfl) (by kernel_rfl) ?_
   simp only [List.take_succ_cons,List.take_zero,List.drop_succ_cons,List.drop_zero]
   change wpStill _ _ wr.drew (fun a'=>wpList _ _ _ _ a' wr.drew) _ _
   obtain ⟨wj,hwj⟩:∃ wj,wr.drew=wj:=⟨_,rfl⟩
   have hwj':=Jja hwj
   rw [hwj] at fa fd ff ⊢
   clear hwj
   repeat still_step
   refine wpStill_nil ?_
   go_wp2
   go_roundw
   case rel=>
    first
     | refine ⟨i+1,by omega,by go_num,?_⟩
     | ((repeat apply Exists.intro);refine ⟨⟨i+1,by omega,by go_num,?_⟩,rfl⟩)
    ·rw [← hwj'.out]
     refine ⟨hH.out.res.drew.far (by show _≠_;dsimp;omega) _,?_,hH.out.bel.drew.setCell (by dsimp;omega) _⟩
     have:=hH.out.a.drew.set q (.int .u64 ((y+z:Nat):Int))
     rw [Jbu _ (lv 65536 (M.take (i+1))) q (y+z) q4 HB1.out.symm HB4.out] at this
     exact this
   case measure=>simp [intOf];omega
  ·obtain rfl:i=16:=by omega
   have e:M.take 16=M:=List.take_of_length_le (by rw [HL.out];omega)
   have hH2:OW wr w (lv 65536 (M.take 16)):=hH.out
   rw [e] at hH2
   have HF:=Jja hH2
   clear hH hH2 e
   have Fa:=HF.out.a
   have Fr:=HF.out.res
   have BW:=Jja HF.out.bel
   rw [← HXM.out] at Fa
   have c0:wr.cell? ⟨w.heap.size+1,0,none⟩=some (.int .u64 (wd X 0)):=Fa.cell 0
   have c1:wr.cell? ⟨w.heap.size+1,1,none⟩=some (.int .u64 (wd X 1)):=Fa.cell 1
   have c2:wr.cell? ⟨w.heap.size+1,2,none⟩=some (.int .u64 (wd X 2)):=Fa.cell 2
   have c3:wr.cell? ⟨w.heap.size+1,3,none⟩=some (.int .u64 (wd X 3)):=Fa.cell 3
   have d0:wr.cell? ⟨w.heap.size,0,none⟩=some (.int .u64 0):=Fr.cell 0
   have d1:wr.cell? ⟨w.heap.size,1,none⟩=some (.int .u64 0):=Fr.cell 1
   have d2:wr.cell? ⟨w.heap.size,2,none⟩=some (.int .u64 0):=Fr.cell 2
   have d3:wr.cell? ⟨w.heap.size,3,none⟩=some (.int .u64 0):=Fr.cell 3
   have f0:wr.frozen? ⟨w.heap.size,0,none⟩=false:=Fr.frozen 0
   have f1:wr.frozen? ⟨w.heap.size,1,none⟩=false:=Fr.frozen 1
   have f2:wr.frozen? ⟨w.heap.size,2,none⟩=false:=Fr.frozen 2
   have f3:wr.frozen? ⟨w.heap.size,3,none⟩=false:=Fr.frozen 3
   have FR:=Jja Fr
   clear Fa Fr HF
   go_wp2_with fail
   have NR:=FR.out.put4 (.int .u64 (wd X 0)) (.int .u64 (wd X 1)) (.int .u64 (wd X 2)) (.int .u64 (wd X 3))
   have NB:Below w.heap.size w ((((wr.setCell ⟨w.heap.size,0,none⟩ (.int .u64 (wd X 0))).setCell ⟨w.heap.size,1,none⟩ (.int .u64 (wd X 1))).setCell ⟨w.heap.size,2,none⟩ (.int .u64 (wd X 2))).setCell ⟨w.heap.size,3,none⟩ (.int .u64 (wd X 3))):=
    (((BW.out.setCell (Nat.le_refl _) _).setCell (Nat.le_refl _) _).setCell (Nat.le_refl _) _).setCell (Nat.le_refl _) _
   clear c0 c1 c2 c3 d0 d1 d2 d3 f0 f1 f2 f3 FR BW
   generalize ((((wr.setCell ⟨w.heap.size,0,none⟩ (.int .u64 (wd X 0))).setCell ⟨w.heap.size,1,none⟩ (.int .u64 (wd X 1))).setCell ⟨w.heap.size,2,none⟩ (.int .u64 (wd X 2))).setCell ⟨w.heap.size,3,none⟩ (.int .u64 (wd X 3)))=WF at *
   have c0:WF.cell? ⟨w.heap.size,0,none⟩=some (.int .u64 (wd X 0)):=NR.cell 0
   have c1:WF.cell? ⟨w.heap.size,1,none⟩=some (.int .u64 (wd X 1)):=NR.cell 1
   have c2:WF.cell? ⟨w.heap.size,2,none⟩=some (.int .u64 (wd X 2)):=NR.cell 2
   have c3:WF.cell? ⟨w.heap.size,3,none⟩=some (.int .u64 (wd X 3)):=NR.cell 3
   have NBB:=Jja NB
   clear NB NR
   exact bodyPost_ret (v:=num X) (by simp [results,Tryz.results184,go_sem, *]) rfl ⟨rfl,NBB.out⟩
theorem Jgm (X i:Nat):X%65536^(i+1)=X%65536^i+65536^i*dg X i:=by unfold dg;rw [Nat.mod_pow_succ]
theorem take_set (M:List Nat) (i v:Nat) (hi:i<M.length):lv 65536 ((M.set i v).take (i+1))=lv 65536 (M.take i)+65536^i*v:=by
 rw [take_more _ i (by simpa using hi),List.take_set,List.set_eq_of_length_le (by simp;omega)]
 simp [List.getD,hi]
theorem radd_num (X Y i c P:Nat) (hc:c≤1) (h:P+65536^i*c=X%65536^i+Y%65536^i):∃ n d c':Nat,n=dg X i+dg Y i+c∧d=n%65536∧c'=n/65536∧d<65536∧c'≤1∧n<131072 ∧
  P+65536^i*d+65536^(i+1)*c'=X%65536^(i+1)+Y%65536^(i+1):=by
 have hx:=Jbp X i
 have hy:=Jbp Y i
 refine ⟨_,_,_,rfl,rfl,rfl,Nat.mod_lt _ (by decide),by omega,by omega,?_⟩
 rw [Jgm,Jgm,Nat.pow_succ,Nat.mul_assoc]
 obtain ⟨d,hd⟩:∃ d,d=(dg X i+dg Y i+c)%65536:=⟨_,rfl⟩
 obtain ⟨e,he⟩:∃ e,e=(dg X i+dg Y i+c)/65536:=⟨_,rfl⟩
 rw [← hd,← he]
 have key:d+65536*e=dg X i+dg Y i+c:=by omega
 have k2:=congrArg (65536^i*·) key
 simp only [Nat.mul_add] at k2
 omega

def raddRes (X Y:Nat) (e:Ending):Prop:=∃ S c:Nat,e=.returned (.tuple #[num S,.int .u64 (c:Nat)])∧S+65536^16*c=X+Y∧S<65536^16∧c≤1
set_option maxRecDepth 100000 in
set_option maxHeartbeats 4000000 in
theorem radd_walk (X Y:Nat) (hX:X<2^256) (hY:Y<2^256) (w:World):Calls Tryz.prog 182 #[num X,num Y] w fun e w'=>raddRes X Y e∧Below w.heap.size w w':=by
 have CX:=Xo X;have CY:=Xo Y
 have HCX:=Jja CX;have HCY:=Jja CY
 clear CX CY
 have HX:=Jja hX;have HY:=Jja hY;clear hX hY
 go_enter Tryz.func182,Tryz.ntmps182
 go_wp2_with fail
 have BW:=Jja (Below.refl w.heap.size w)
 have Na:At (((w.alloc (.cells (ncs X) 24)).alloc (.cells (ncs Y) 24)).alloc (.cells #[.int .u64 0,.int .u64 0,.int .u64 0,.int .u64 0] 24)) (w.heap.size) 24 (ncs X):=((At.at_ _ _ _ _ (by simp)).alloc _).alloc _
 have Nb:At (((w.alloc (.cells (ncs X) 24)).alloc (.cells (ncs Y) 24)).alloc (.cells #[.int .u64 0,.int .u64 0,.int .u64 0,.int .u64 0] 24)) (w.heap.size+1) 24 (ncs Y):=(At.at_ _ _ _ _ (by simp)).alloc _
 have Nr:At (((w.alloc (.cells (ncs X) 24)).alloc (.cells (ncs Y) 24)).alloc (.cells #[.int .u64 0,.int .u64 0,.int .u64 0,.int .u64 0] 24)) (w.heap.size+1+1) 24 #[.int .u64 0,.int .u64 0,.int .u64 0,.int .u64 0]:=At.at_ _ _ _ _ (by simp)
 have Er:w.heap.size≤w.heap.size+1+1:=by have:=BW.out.size;omega
 have Dar:w.heap.size≠w.heap.size+1+1:=by omega
 have Dbr:w.heap.size+1≠w.heap.size+1+1:=by omega
 have NB:Below w.heap.size w (((w.alloc (.cells (ncs X) 24)).alloc (.cells (ncs Y) 24)).alloc (.cells #[.int .u64 0,.int .u64 0,.int .u64 0,.int .u64 0] 24)):=Jd (Jd (Jd BW.out _) _) _
 clear BW 
 generalize (((w.alloc (.cells (ncs X) 24)).alloc (.cells (ncs Y) 24)).alloc (.cells #[.int .u64 0,.int .u64 0,.int .u64 0,.int .u64 0] 24))=W1 at *
 generalize w.heap.size+1+1=gr at *
 generalize w.heap.size+1=gb at *
 obtain ⟨ga,hg0⟩:∃ g,g=w.heap.size:=⟨_,rfl⟩
 rw [← hg0] at Na ⊢
 rw [← hg0] at Dar
 clear hg0
 have Fa:=Jja Na
 have Fb:=Jja Nb
 have Fr:=Jja Nr
 have BW:=Jja NB
 clear NB Na Nb Nr
 refine (HCX.out _).mono ?_
 rintro e v2 ⟨rfl,z2⟩
 have Na:=Jja (Fa.out.on z2)
 have Nb:=Jja (Fb.out.on z2)
 have Nr:=Jja (Fr.out.on z2)
 have NB:=Jja (Jr BW.out z2)
 clear BW z2 Fa Fb Fr
 have Fa:=Na
 have Fb:=Nb
 have Fr:=Nr
 have BW:=NB
 clear NB Na Nb Nr
 have Lb:=Fb.out.lt
 obtain ⟨cb0,cb1,cb2,cb3⟩:=Kj Fb.out
 go_wp2_with fail
 clear Lb cb0 cb1 cb2 cb3
 have Nx:At (v2.alloc (.cells #[.int .u64 (dg X 0),.int .u64 (dg X 1),.int .u64 (dg X 2),.int .u64 (dg X 3),.int .u64 (dg X 4),.int .u64 (dg X 5),.int .u64 (dg X 6),.int .u64 (dg X 7),.int .u64 (dg X 8),.int .u64 (dg X 9),.int .u64 (dg X 10),.int .u64 (dg X 11),.int .u64 (dg X 12),.int .u64 (dg X 13),.int .u64 (dg X 14),.int .u64 (dg X 15)] 239)) (v2.heap.size) 239 #[.int .u64 (dg X 0),.int .u64 (dg X 1),.int .u64 (dg X 2),.int .u64 (dg X 3),.int .u64 (dg X 4),.int .u64 (dg X 5),.int .u64 (dg X 6),.int .u64 (dg X 7),.int .u64 (dg X 8),.int .u64 (dg X 9),.int .u64 (dg X 10),.int .u64 (dg X 11),.int .u64 (dg X 12),.int .u64 (dg X 13),.int .u64 (dg X 14),.int .u64 (dg X 15)]:=At.at_ _ _ _ _ (by simp)
 have Ex:w.heap.size≤v2.heap.size:=by have:=BW.out.size;omega
 have Dax:ga≠v2.heap.size:=by have:=Fa.out.lt;omega
 have Dbx:gb≠v2.heap.size:=by have:=Fb.out.lt;omega
 have Drx:gr≠v2.heap.size:=by have:=Fr.out.lt;omega
 have Na:At (v2.alloc (.cells #[.int .u64 (dg X 0),.int .u64 (dg X 1),.int .u64 (dg X 2),.int .u64 (dg X 3),.int .u64 (dg X 4),.int .u64 (dg X 5),.int .u64 (dg X 6),.int .u64 (dg X 7),.int .u64 (dg X 8),.int .u64 (dg X 9),.int .u64 (dg X 10),.int .u64 (dg X 11),.int .u64 (dg X 12),.int .u64 (dg X 13),.int .u64 (dg X 14),.int .u64 (dg X 15)] 239)) ga 24 (ncs X):=Fa.out.alloc _
 have Nb:At (v2.alloc (.cells #[.int .u64 (dg X 0),.int .u64 (dg X 1),.int .u64 (dg X 2),.int .u64 (dg X 3),.int .u64 (dg X 4),.int .u64 (dg X 5),.int .u64 (dg X 6),.int .u64 (dg X 7),.int .u64 (dg X 8),.int .u64 (dg X 9),.int .u64 (dg X 10),.int .u64 (dg X 11),.int .u64 (dg X 12),.int .u64 (dg X 13),.int .u64 (dg X 14),.int .u64 (dg X 15)] 239)) gb 24 (ncs Y):=Fb.out.alloc _
 have Nr:At (v2.alloc (.cells #[.int .u64 (dg X 0),.int .u64 (dg X 1),.int .u64 (dg X 2),.int .u64 (dg X 3),.int .u64 (dg X 4),.int .u64 (dg X 5),.int .u64 (dg X 6),.int .u64 (dg X 7),.int .u64 (dg X 8),.int .u64 (dg X 9),.int .u64 (dg X 10),.int .u64 (dg X 11),.int .u64 (dg X 12),.int .u64 (dg X 13),.int .u64 (dg X 14),.int .u64 (dg X 15)] 239)) gr 24 #[.int .u64 0,.int .u64 0,.int .u64 0,.int .u64 0]:=Fr.out.alloc _
 have NB:Below w.heap.size w (v2.alloc (.cells #[.int .u64 (dg X 0),.int .u64 (dg X 1),.int .u64 (dg X 2),.int .u64 (dg X 3),.int .u64 (dg X 4),.int .u64 (dg X 5),.int .u64 (dg X 6),.int .u64 (dg X 7),.int .u64 (dg X 8),.int .u64 (dg X 9),.int .u64 (dg X 10),.int .u64 (dg X 11),.int .u64 (dg X 12),.int .u64 (dg X 13),.int .u64 (dg X 14),.int .u64 (dg X 15)] 239)):=Jd BW.out _
 clear BW Fa Fb Fr
 generalize (v2.alloc (.cells #[.int .u64 (dg X 0),.int .u64 (dg X 1),.int .u64 (dg X 2),.int .u64 (dg X 3),.int .u64 (dg X 4),.int .u64 (dg X 5),.int .u64 (dg X 6),.int .u64 (dg X 7),.int .u64 (dg X 8),.int .u64 (dg X 9),.int .u64 (dg X 10),.int .u64 (dg X 11),.int .u64 (dg X 12),.int .u64 (dg X 13),.int .u64 (dg X 14),.int .u64 (dg X 15)] 239))=W3 at *
 generalize v2.heap.size=gx at *
 have Fa:=Jja Na
 have Fb:=Jja Nb
 have Fr:=Jja Nr
 have Fx:=Jja Nx
 have BW:=Jja NB
 clear NB Na Nb Nr Nx
 refine (HCY.out _).mono ?_
 rintro e v4 ⟨rfl,z4⟩
 have Na:=Jja (Fa.out.on z4)
 have Nb:=Jja (Fb.out.on z4)
 have Nr:=Jja (Fr.out.on z4)
 have Nx:=Jja (Fx.out.on z4)
 have NB:=Jja (Jr BW.out z4)
 clear BW z4 Fa Fb Fr Fx
 have Fa:=Na
 have Fb:=Nb
 have Fr:=Nr
 have Fx:=Nx
 have BW:=NB
 clear NB Na Nb Nr Nx
 go_wp2_with fail
 have Ny:At (v4.alloc (.cells #[.int .u64 (dg Y 0),.int .u64 (dg Y 1),.int .u64 (dg Y 2),.int .u64 (dg Y 3),.int .u64 (dg Y 4),.int .u64 (dg Y 5),.int .u64 (dg Y 6),.int .u64 (dg Y 7),.int .u64 (dg Y 8),.int .u64 (dg Y 9),.int .u64 (dg Y 10),.int .u64 (dg Y 11),.int .u64 (dg Y 12),.int .u64 (dg Y 13),.int .u64 (dg Y 14),.int .u64 (dg Y 15)] 239)) (v4.heap.size) 239 #[.int .u64 (dg Y 0),.int .u64 (dg Y 1),.int .u64 (dg Y 2),.int .u64 (dg Y 3),.int .u64 (dg Y 4),.int .u64 (dg Y 5),.int .u64 (dg Y 6),.int .u64 (dg Y 7),.int .u64 (dg Y 8),.int .u64 (dg Y 9),.int .u64 (dg Y 10),.int .u64 (dg Y 11),.int .u64 (dg Y 12),.int .u64 (dg Y 13),.int .u64 (dg Y 14),.int .u64 (dg Y 15)]:=At.at_ _ _ _ _ (by simp)
 have Dry:gr≠v4.heap.size:=by have:=Fr.out.lt;omega
 have Dxy:gx≠v4.heap.size:=by have:=Fx.out.lt;omega
 have Na:At (v4.alloc (.cells #[.int .u64 (dg Y 0),.int .u64 (dg Y 1),.int .u64 (dg Y 2),.int .u64 (dg Y 3),.int .u64 (dg Y 4),.int .u64 (dg Y 5),.int .u64 (dg Y 6),.int .u64 (dg Y 7),.int .u64 (dg Y 8),.int .u64 (dg Y 9),.int .u64 (dg Y 10),.int .u64 (dg Y 11),.int .u64 (dg Y 12),.int .u64 (dg Y 13),.int .u64 (dg Y 14),.int .u64 (dg Y 15)] 239)) ga 24 (ncs X):=Fa.out.alloc _
 have Nb:At (v4.alloc (.cells #[.int .u64 (dg Y 0),.int .u64 (dg Y 1),.int .u64 (dg Y 2),.int .u64 (dg Y 3),.int .u64 (dg Y 4),.int .u64 (dg Y 5),.int .u64 (dg Y 6),.int .u64 (dg Y 7),.int .u64 (dg Y 8),.int .u64 (dg Y 9),.int .u64 (dg Y 10),.int .u64 (dg Y 11),.int .u64 (dg Y 12),.int .u64 (dg Y 13),.int .u64 (dg Y 14),.int .u64 (dg Y 15)] 239)) gb 24 (ncs Y):=Fb.out.alloc _
 have Nr:At (v4.alloc (.cells #[.int .u64 (dg Y 0),.int .u64 (dg Y 1),.int .u64 (dg Y 2),.int .u64 (dg Y 3),.int .u64 (dg Y 4),.int .u64 (dg Y 5),.int .u64 (dg Y 6),.int .u64 (dg Y 7),.int .u64 (dg Y 8),.int .u64 (dg Y 9),.int .u64 (dg Y 10),.int .u64 (dg Y 11),.int .u64 (dg Y 12),.int .u64 (dg Y 13),.int .u64 (dg Y 14),.int .u64 (dg Y 15)] 239)) gr 24 #[.int .u64 0,.int .u64 0,.int .u64 0,.int .u64 0]:=Fr.out.alloc _
 have Nx:At (v4.alloc (.cells #[.int .u64 (dg Y 0),.int .u64 (dg Y 1),.int .u64 (dg Y 2),.int .u64 (dg Y 3),.int .u64 (dg Y 4),.int .u64 (dg Y 5),.int .u64 (dg Y 6),.int .u64 (dg Y 7),.int .u64 (dg Y 8),.int .u64 (dg Y 9),.int .u64 (dg Y 10),.int .u64 (dg Y 11),.int .u64 (dg Y 12),.int .u64 (dg Y 13),.int .u64 (dg Y 14),.int .u64 (dg Y 15)] 239)) gx 239 #[.int .u64 (dg X 0),.int .u64 (dg X 1),.int .u64 (dg X 2),.int .u64 (dg X 3),.int .u64 (dg X 4),.int .u64 (dg X 5),.int .u64 (dg X 6),.int .u64 (dg X 7),.int .u64 (dg X 8),.int .u64 (dg X 9),.int .u64 (dg X 10),.int .u64 (dg X 11),.int .u64 (dg X 12),.int .u64 (dg X 13),.int .u64 (dg X 14),.int .u64 (dg X 15)]:=Fx.out.alloc _
 have NB:Below w.heap.size w (v4.alloc (.cells #[.int .u64 (dg Y 0),.int .u64 (dg Y 1),.int .u64 (dg Y 2),.int .u64 (dg Y 3),.int .u64 (dg Y 4),.int .u64 (dg Y 5),.int .u64 (dg Y 6),.int .u64 (dg Y 7),.int .u64 (dg Y 8),.int .u64 (dg Y 9),.int .u64 (dg Y 10),.int .u64 (dg Y 11),.int .u64 (dg Y 12),.int .u64 (dg Y 13),.int .u64 (dg Y 14),.int .u64 (dg Y 15)] 239)):=Jd BW.out _
 clear BW Fa Fb Fr Fx
 generalize (v4.alloc (.cells #[.int .u64 (dg Y 0),.int .u64 (dg Y 1),.int .u64 (dg Y 2),.int .u64 (dg Y 3),.int .u64 (dg Y 4),.int .u64 (dg Y 5),.int .u64 (dg Y 6),.int .u64 (dg Y 7),.int .u64 (dg Y 8),.int .u64 (dg Y 9),.int .u64 (dg Y 10),.int .u64 (dg Y 11),.int .u64 (dg Y 12),.int .u64 (dg Y 13),.int .u64 (dg Y 14),.int .u64 (dg Y 15)] 239))=W5 at *
 generalize v4.heap.size=gy at *
 have Fa:=Jja Na
 have Fb:=Jja Nb
 have Fr:=Jja Nr
 have Fx:=Jja Nx
 have Fy:=Jja Ny
 have BW:=Jja NB
 clear NB Na Nb Nr Nx Ny
 clear Fa
 clear Fb
 go_loopw [8,9] (fun c s wr=>∃ (i cc:Nat) (M:List Nat),i≤16∧c=.int .u64 (cc:Nat)∧s=.int .i64 (i:Nat)∧Hid (At wr gx 239 (ws M)∧At wr gy 239 (ws (ds Y))∧At wr gr 24 #[.int .u64 0,.int .u64 0,.int .u64 0,.int .u64 0]∧Below w.heap.size w wr∧M.length=16∧(∀ x∈M,x<65536)∧cc≤1∧(∀ k,i≤k→k<16→M.getD k 0=dg X k)∧lv 65536 (M.take i)+65536^i*cc=X%65536^i+Y%65536^i)) (fun _ s _=>16-(intOf s).toNat)
 case atStart=>exact ⟨0,0,ds X,by omega,rfl,rfl,Fx.out,Fy.out,Fr.out,BW.out,rfl,ds_lt X,by omega,fun k _ h=>Jfl X k h,by simp [lv,Nat.mod_one]⟩
 case round=>
  obtain ⟨i,cc,M,hi,rfl,rfl,hM⟩:=hrel
  clear Fx Fy Fr BW
  by_cases hlt:i<16
  ·have hcc:=hM.out.2.2.2.2.2.2.1
   obtain ⟨n,d,c',hn,hd,hc',hdl,hcl,hnl,hs⟩:=radd_num X Y i cc (lv 65536 (M.take i)) hcc hM.out.2.2.2.2.2.2.2.2
   have hx16:=Jbp X i
   have hy16:=Jbp Y i
   have fx:wr.drew.cell? ⟨gx,i,none⟩=some (.int .u64 (dg X i)):=by rw [hM.out.1.drew.cell,Wx _ _ (by rw [hM.out.2.2.2.2.1];omega),hM.out.2.2.2.2.2.2.2.1 i (Nat.le_refl _) hlt]
   have fy:wr.drew.cell? ⟨gy,i,none⟩=some (.int .u64 (dg Y i)):=by rw [hM.out.2.1.drew.cell,Wx _ _ (by rw [Jfk];omega),Jfl Y i hlt]
   have ff:wr.drew.frozen? ⟨gx,i,none⟩=false:=hM.out.1.drew.frozen i
   have i0:(0:Int)≤(i:Int):=by omega
   have i16:(i:Int)<16:=by omega
   have v1:IntKind.u64.wrap (((dg X i:Nat):Int)+((dg Y i:Nat):Int))=((dg X i+dg Y i:Nat):Int):=by rw [IntKind.wrap_u64];omega
   have v3:IntKind.u64.wrap (((dg X i+dg Y i:Nat):Int)+(cc:Int))=((n:Nat):Int):=by rw [hn,IntKind.wrap_u64];omega
   have v4:Int.tmod (n:Int) 65536=(d:Nat):=by rw [hd,Int.tmod_eq_emod_of_nonneg (by omega)];omega
   have v5:Int.tdiv (n:Int) 65536=(c':Nat):=by rw [hc',Int.tdiv_eq_ediv_of_nonneg (by omega)];omega
   have v4b:(n:Int)%65536=(d:Nat):=by omega
   have v5b:(n:Int)/65536=(c':Nat):=by omega
   generalize dg X i+dg Y i=s1 at *
   have HS:=Jja hs;have HDL:=Jja hdl;have HCL:=Jja hcl
   clear hs hn hd hc' hdl
   generalize dg X i=xi at *
   generalize dg Y i=yi at *
   go_wp2_with fail
   refine wp_region_still_tail 9 (by kernel_rfl) (by kernel_rfl) ?_
   simp only [List.take_succ_cons,List.take_zero,List.drop_succ_cons,List.drop_zero]
   change wpStill _ _ wr.drew (fun a'=>wpList _ _ _ _ a' wr.drew) _ _
   obtain ⟨wj,hwj⟩:∃ wj,wr.drew=wj:=⟨_,rfl⟩
   have hwj':=Jja hwj
   rw [hwj] at fx fy ff ⊢
   clear hwj
   repeat still_step
   refine wpStill_nil ?_
   go_wp2
   go_roundw
   case rel=>
    first
     | refine ⟨i+1,c',M.set i d,by omega,rfl,by go_num,?_⟩
     | ((repeat apply Exists.intro);refine ⟨⟨i+1,c',M.set i d,by omega,rfl,by go_num,?_⟩,rfl⟩)
    rw [← hwj'.out]
    have hyx:gy≠gx:=by first | exact Dyx | exact Dxy.symm
    have hrx:gr≠gx:=by first | exact Drx | exact Dxr.symm
    refine ⟨by rw [← Ve];exact hM.out.1.drew.set _ _,hM.out.2.1.drew.far (by exact fun e=>hyx e.symm) _,hM.out.2.2.1.drew.far (by exact fun e=>hrx e.symm) _,hM.out.2.2.2.1.drew.setCell Ex _,by rw [List.length_set];exact hM.out.2.2.2.2.1,fun x hx=>?_,HCL.out,fun k h1 h2=>?_,?_⟩
    ·rcases List.mem_or_eq_of_mem_set hx with h | h
     ·exact hM.out.2.2.2.2.2.1 x h
     ·rw [h];exact HDL.out
    ·rw [Uy _ _ _ _ (by omega)];exact hM.out.2.2.2.2.2.2.2.1 k (by omega) h2
    ·rw [take_set _ _ _ (by rw [hM.out.2.2.2.2.1];omega)];exact HS.out
   case measure=>simp [intOf];omega
  ·obtain rfl:i=16:=by omega
   have hx:=HX.out
   have hy:=HY.out
   have hs:=hM.out.2.2.2.2.2.2.2.2
   rw [List.take_of_length_le (by rw [hM.out.2.2.2.2.1];omega),Nat.mod_eq_of_lt (show X<65536^16 by omega),Nat.mod_eq_of_lt (show Y<65536^16 by omega)] at hs
   have hlt:=Jhs 65536 M hM.out.2.2.2.2.2.1
   rw [hM.out.2.2.2.2.1] at hlt
   have C:=fun w' (hb:Below wr.heap.size wr w')=>Jgb M hM.out.2.2.2.2.1 hM.out.2.2.2.2.2.1 gx 0 16 w' (fun k hk=>by rw [Nat.zero_add,(hM.out.1.on hb).cell,Wx _ _ (by rw [hM.out.2.2.2.2.1];omega)])
   obtain ⟨S,hS⟩:∃ S,lv 65536 M=S:=⟨_,rfl⟩
   rw [hS] at C hs hlt
   have HC:=Jja C;have HSS:=Jja hs;have HLT:=Jja hlt
   have Fx:=hM.out.1.lt
   have Fr:=Jja hM.out.2.2.1;have BW:=Jja hM.out.2.2.2.1;have HCC:=Jja hM.out.2.2.2.2.2.2.1
   clear C hs hlt hS hM hx hy
   go_wp2_with fail
   refine (HC.out _ (Below.refl _ _)).mono ?_
   rintro e v9 ⟨rfl,z9⟩
   have Nr:=Fr.out.on z9
   have NB:=Jr BW.out z9
   clear Fr BW z9
   have FR:=Jja Nr
   have BW:=Jja NB
   clear Nr NB
   have d0:v9.cell? ⟨gr,0,none⟩=some (.int .u64 0):=FR.out.cell 0
   have d1:v9.cell? ⟨gr,1,none⟩=some (.int .u64 0):=FR.out.cell 1
   have d2:v9.cell? ⟨gr,2,none⟩=some (.int .u64 0):=FR.out.cell 2
   have d3:v9.cell? ⟨gr,3,none⟩=some (.int .u64 0):=FR.out.cell 3
   obtain ⟨f0,f1,f2,f3⟩:=Vo FR.out
   go_wp2_with fail
   have NR:=FR.out.put4 (.int .u64 (wd S 0)) (.int .u64 (wd S 1)) (.int .u64 (wd S 2)) (.int .u64 (wd S 3))
   have NB:Below w.heap.size w ((((v9.setCell ⟨gr,0,none⟩ (.int .u64 (wd S 0))).setCell ⟨gr,1,none⟩ (.int .u64 (wd S 1))).setCell ⟨gr,2,none⟩ (.int .u64 (wd S 2))).setCell ⟨gr,3,none⟩ (.int .u64 (wd S 3))):=(((BW.out.setCell Er _).setCell Er _).setCell Er _).setCell Er _
   clear d0 d1 d2 d3 f0 f1 f2 f3 FR BW
   generalize ((((v9.setCell ⟨gr,0,none⟩ (.int .u64 (wd S 0))).setCell ⟨gr,1,none⟩ (.int .u64 (wd S 1))).setCell ⟨gr,2,none⟩ (.int .u64 (wd S 2))).setCell ⟨gr,3,none⟩ (.int .u64 (wd S 3)))=WF at *
   have c0:WF.cell? ⟨gr,0,none⟩=some (.int .u64 (wd S 0)):=NR.cell 0
   have c1:WF.cell? ⟨gr,1,none⟩=some (.int .u64 (wd S 1)):=NR.cell 1
   have c2:WF.cell? ⟨gr,2,none⟩=some (.int .u64 (wd S 2)):=NR.cell 2
   have c3:WF.cell? ⟨gr,3,none⟩=some (.int .u64 (wd S 3)):=NR.cell 3
   have NBB:=Jja NB
   clear NB NR
   exact bodyPost_ret (v:=.tuple #[num S,.int .u64 (cc:Nat)]) (by simp [results,Tryz.results182,go_sem, *]) rfl ⟨⟨S,cc,rfl,HSS.out,HLT.out,HCC.out⟩,NBB.out⟩

theorem Jdw (X Y S c:Nat) (hX:X<2^256) (hY:Y<2^256) (hS:S<2^256) (hc:c≤1) (he:X+Y=S+2^256*c) (w:World):Calls Tryz.prog 182 #[num X,num Y] w fun e w'=>e=.returned (.tuple #[num S,.int .u64 (c:Nat)])∧Below w.heap.size w w':=by
 refine (radd_walk X Y hX hY w).mono ?_
 rintro e w' ⟨⟨S',c'',rfl,h1,h2,h3⟩,hb⟩
 have e1:S'=S∧c''=c:=by omega
 obtain ⟨rfl,rfl⟩:=e1
 exact ⟨rfl,hb⟩
end Go.Proofs.YtmmgmljkmmgjdaaGreatDoor
