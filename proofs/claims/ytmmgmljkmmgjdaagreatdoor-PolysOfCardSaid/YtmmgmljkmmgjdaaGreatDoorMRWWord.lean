import Derived.Laws.BitsAllLaws
import Derived.LoopN
import Derived.Test.YtmmgmljkmmgjdaaGreatDoorMBehN
import Derived.Test.YtmmgmljkmmgjdaaGreatDoorMDiv64
import Derived.Test.YtmmgmljkmmgjdaaGreatDoorMRWide
import Derived.Test.YtmmgmljkmmgjdaaGreatDoorMTree
namespace Go.Proofs.YtmmgmljkmmgjdaaGreatDoor
set_option maxRecDepth 100000
open Go.RowKit
set_option linter.unusedSimpArgs false
set_option linter.unusedVariables false
attribute [local go_sem ↓] Go.wp_at_zero Go.wp_at_succ

set_option maxRecDepth 100000 in
theorem two_digits (U D d1 d0 m1 m0 R1 R0:Nat) (hD:D=d1*4294967296+d0) (a:U*4294967296+d1=m1+R1) (b:R1*4294967296+d0=m0+R0):U*18446744073709551616+D=m1*4294967296+m0+R0:=by
 have e:U*18446744073709551616=U*4294967296*4294967296:=by rw [Nat.mul_assoc]
 have f:U*4294967296*4294967296+d1*4294967296=m1*4294967296+R1*4294967296:=by rw [← Nat.add_mul,← Nat.add_mul,a]
 rw [e,hD,← Nat.add_assoc,f,Nat.add_assoc,b,← Nat.add_assoc]
theorem digit (U d Y y1 y0:Nat) (h1:2147483648≤y1) (h1c:y1<4294967296) (h0:y0<4294967296) (hd:d<4294967296) (hY:Y=y1*4294967296+y0) (hU:U<Y) :
  (U*4294967296+d)/Y≤U/y1∧U/y1≤4294967297∧(U*4294967296+d)%Y<Y∧(U*4294967296+d)/Y<4294967296∧U*4294967296+d=(U*4294967296+d)/Y*Y+(U*4294967296+d)%Y∧U=U/y1*y1+U%y1∧U%y1<y1∧U/y1*y1≤U:=by
 obtain ⟨a,b⟩:=kn_first U d y1 y0 h1 h0 hd (by omega)
 rw [← hY] at a
 refine ⟨a,b,Nat.mod_lt _ (by omega),kn_small U d Y hd hU,?_,?_,Nat.mod_lt _ (by omega),Nat.div_mul_le_self _ _⟩
 ·rw [Nat.mul_comm _ Y];exact (Nat.div_add_mod _ _).symm
 ·rw [Nat.mul_comm _ y1];exact (Nat.div_add_mod _ _).symm

set_option maxHeartbeats 1000000 in
theorem div64_long (h l y s:Nat) (h0:0<h) (hy:h<y) (hy2:y<18446744073709551616) (hl:l<18446744073709551616) (hs:s+Go.bitLen y=64) (w:World) :
  Calls Tryz.prog 204 #[.int .u64 (h:Nat),.int .u64 (l:Nat),.int .u64 (y:Nat)] w fun e w'=>e=.returned (.tuple #[.int .u64 (((h*18446744073709551616+l)/y:Nat):Int),.int .u64 (((h*18446744073709551616+l)%y:Nat):Int)])∧w'=w:=by
 have bs:=Go.bitLen_spec y
 have bl0:=bl_pos y (by omega)
 have s63:s≤63:=by omega
 have hP:0<2^s:=Nat.two_pow_pos s
 have hY64:y*2^s<18446744073709551616:=by
  have:y*2^s<2^Go.bitLen y*2^s:=(Nat.mul_lt_mul_right hP).2 bs.1
  rw [← Nat.pow_add,show Go.bitLen y+s=64 by omega] at this;exact this
 have hY63:9223372036854775808≤y*2^s:=by
  have:2^(Go.bitLen y-1)*2^s≤y*2^s:=Nat.mul_le_mul_right _ (bs.2 (by omega))
  rw [← Nat.pow_add,show Go.bitLen y-1+s=63 by omega] at this;exact this
 have hhs:h*2^s+2^s≤y*2^s:=by
  have:(h+1)*2^s≤y*2^s:=Nat.mul_le_mul_right _ hy
  rw [Nat.add_mul] at this;omega
 have h64:2^(64-s)*2^s=18446744073709551616:=by rw [← Nat.pow_add,show 64-s+s=64 by omega]
 have hlh:l/2^(64-s)<2^s:=by
  refine Nat.div_lt_of_lt_mul ?_
  rw [h64];exact hl
 have hor:h*2^s ||| l/2^(64-s)=h*2^s+l/2^(64-s):=nat_join s _ _ (Nat.mul_mod_left _ _) hlh
 have hsp:((2:Int)^s)=((2^s:Nat):Int):=by simp
 have hsp2:((2:Int)^(64-s))=((2^(64-s):Nat):Int):=by simp
 -- the low word,moved,and what falls off it
 obtain ⟨D,hD⟩:∃ D,D=l*2^s%18446744073709551616:=⟨_,rfl⟩
 have hlD:l*2^s=l/2^(64-s)*18446744073709551616+D:=by
  have e:l*2^s/18446744073709551616=l/2^(64-s):=by
   rw [← h64,Nat.mul_div_mul_right _ _ hP]
  have:=Nat.div_add_mod (l*2^s) 18446744073709551616
  rw [e,← hD] at this
  omega
 have hDlt:D<18446744073709551616:=by rw [hD];exact Nat.mod_lt _ (by decide)
 obtain ⟨U,hU⟩:∃ U,U=h*2^s+l/2^(64-s):=⟨_,rfl⟩
 obtain ⟨Y,hYe⟩:∃ Y,Y=y*2^s:=⟨_,rfl⟩
 obtain ⟨y1,hy1⟩:∃ y1,y1=Y/4294967296:=⟨_,rfl⟩
 obtain ⟨y0,hy0⟩:∃ y0,y0=Y%4294967296:=⟨_,rfl⟩
 obtain ⟨d1,hd1⟩:∃ d1,d1=D/4294967296:=⟨_,rfl⟩
 obtain ⟨d0,hd0⟩:∃ d0,d0=D%4294967296:=⟨_,rfl⟩
 have hUY:U<Y:=by rw [hU,hYe];omega
 have hY2:Y=y1*4294967296+y0:=by omega
 obtain ⟨a1,a2,a3,a4,a5,a6,a7,a8⟩:=digit U d1 Y y1 y0 (by omega) (by omega) (by omega) (by omega) hY2 hUY
 obtain ⟨Q1,hQ1⟩:∃ Q,Q=(U*4294967296+d1)/Y:=⟨_,rfl⟩
 obtain ⟨R1,hR1⟩:∃ R,R=(U*4294967296+d1)%Y:=⟨_,rfl⟩
 rw [← hQ1,← hR1] at a5
 rw [← hQ1] at a1 a4
 rw [← hR1] at a3
 obtain ⟨b1,b2,b3,b4,b5,b6,b7,b8⟩:=digit R1 d0 Y y1 y0 (by omega) (by omega) (by omega) (by omega) hY2 a3
 obtain ⟨Q0,hQ0⟩:∃ Q,Q=(R1*4294967296+d0)/Y:=⟨_,rfl⟩
 obtain ⟨R0,hR0⟩:∃ R,R=(R1*4294967296+d0)%Y:=⟨_,rfl⟩
 rw [← hQ0,← hR0] at b5
 rw [← hQ0] at b1 b4
 rw [← hR0] at b3
 -- both digits together
 have tot:(h*18446744073709551616+l)*2^s=(Q1*4294967296+Q0)*Y+R0:=by
  have e1:(h*18446744073709551616+l)*2^s=U*18446744073709551616+D:=by
   rw [Nat.add_mul,hlD,hU,Nat.add_mul,Nat.mul_right_comm,Nat.add_assoc]
  have e2:(Q1*4294967296+Q0)*Y=Q1*Y*4294967296+Q0*Y:=by rw [Nat.add_mul,Nat.mul_right_comm]
  rw [e1,e2]
  exact two_digits U D d1 d0 (Q1*Y) (Q0*Y) R1 R0 (by rw [hd1,hd0];exact (Nat.div_add_mod' _ _).symm) a5 b5
 have hq:(h*18446744073709551616+l)/y=Q1*4294967296+Q0:=by
  rw [← Nat.mul_div_mul_right _ y hP,tot,← hYe,Nat.mul_comm _ Y,Nat.mul_add_div (by omega),Nat.div_eq_of_lt b3,Nat.add_zero]
 have hr:(h*18446744073709551616+l)%y*2^s=R0:=by
  rw [← Nat.mul_mod_mul_right,tot,← hYe,Nat.mul_comm _ Y,Nat.mul_add_mod,Nat.mod_eq_of_lt b3]
 have hr2:R0/2^s=(h*18446744073709551616+l)%y:=by rw [← hr];exact Nat.mul_div_cancel _ hP
 have LZ:=lz_any y s hy2 hs
 rw [hq,← hr2]
 obtain ⟨m1,hm1⟩:∃ m,m=Q1*Y:=⟨_,rfl⟩
 obtain ⟨m0,hm0⟩:∃ m,m=Q0*Y:=⟨_,rfl⟩
 obtain ⟨ma,hma⟩:∃ m,m=U/y1*y1:=⟨_,rfl⟩
 obtain ⟨mb,hmb⟩:∃ m,m=R1/y1*y1:=⟨_,rfl⟩
 refine dv_walk h l y s Y y1 y0 (h*2^s) (l/2^(64-s)) U D d1 d0 (U/y1) ma (U%y1) (U*4294967296%18446744073709551616) ((U*4294967296%18446744073709551616+d1)%18446744073709551616) (m1%18446744073709551616) Q1 R1 (R1/y1) mb (R1%y1) Q0 R0
  (Q1*4294967296) (Q1*4294967296+Q0) (R1*4294967296%18446744073709551616) ((R1*4294967296%18446744073709551616+d0)%18446744073709551616) (m0%18446744073709551616) (R0/2^s)
  (by omega) (by omega) (by omega) ?_ ?_ ?_ ?_ ?_ ?_ ?_ ?_ ?_ ?_ ?_ ?_ ?_ ?_ (by omega) ?_ ?_ ?_ ?_ ?_ ?_ ?_ ?_ ?_ ?_ ?_ ?_ ?_ ?_ ?_ ?_ s63 (by omega) (by omega) (by omega) (by omega) (by omega) hY2 (by omega) (by omega) hQ1 hQ0 a6 a1 a2 a7 b6 b1 b2 b7 LZ w
 ·rw [hsp,← Int.natCast_mul,← hYe,IntKind.wrap_u64];omega
 ·omega
 ·rw [show (4294967295:Int)=((4294967295:Nat):Int) from rfl,u64_and_nat _ _ (by omega) (by decide),show (4294967295:Nat)=2^32-1 from rfl,Nat.and_two_pow_sub_one_eq_mod];omega
 ·rw [hsp,← Int.natCast_mul,IntKind.wrap_u64];omega
 ·rw [hsp2];exact (Int.natCast_ediv _ _).symm
 ·rw [u64_or_nat _ _ (by omega) (by omega),hor,hU]
 ·rw [hsp,← Int.natCast_mul,IntKind.wrap_u64];omega
 ·omega
 ·rw [show (4294967295:Int)=((4294967295:Nat):Int) from rfl,u64_and_nat _ _ (by omega) (by decide),show (4294967295:Nat)=2^32-1 from rfl,Nat.and_two_pow_sub_one_eq_mod];omega
 ·rw [Int.tdiv_eq_ediv_of_nonneg (by omega)];exact (Int.natCast_ediv _ _).symm
 ·exact (Int.natCast_ediv _ _).symm
 ·rw [IntKind.wrap_u64];omega
 ·rw [← Int.natCast_mul,← hma,IntKind.wrap_u64];omega
 ·rw [IntKind.wrap_u64];omega
 ·rw [IntKind.wrap_u64];omega
 ·rw [IntKind.wrap_u64];omega
 ·rw [← Int.natCast_mul,← hm1,IntKind.wrap_u64];omega
 ·rw [IntKind.wrap_u64];omega
 ·rw [Int.tdiv_eq_ediv_of_nonneg (by omega)];exact (Int.natCast_ediv _ _).symm
 ·exact (Int.natCast_ediv _ _).symm
 ·rw [IntKind.wrap_u64];omega
 ·rw [← Int.natCast_mul,← hmb,IntKind.wrap_u64];omega
 ·rw [IntKind.wrap_u64];omega
 ·rw [IntKind.wrap_u64];omega
 ·rw [IntKind.wrap_u64];omega
 ·rw [IntKind.wrap_u64];omega
 ·rw [IntKind.wrap_u64];omega
 ·rw [← Int.natCast_mul,← hm0,IntKind.wrap_u64];omega
 ·rw [IntKind.wrap_u64];omega
 ·rw [hsp];exact (Int.natCast_ediv _ _).symm

theorem div64_short (l y:Nat) (h0:0<y) (hy2:y<18446744073709551616) (hl:l<18446744073709551616) (w:World) :
  Calls Tryz.prog 204 #[.int .u64 0,.int .u64 (l:Nat),.int .u64 (y:Nat)] w fun e w'=>e=.returned (.tuple #[.int .u64 ((l/y:Nat):Int),.int .u64 ((l%y:Nat):Int)])∧Below w.heap.size w w':=by
 have y0n:(y:Int)≠0:=by omega
 have hy1:¬ (y:Int)≤0:=by omega
 obtain ⟨q,hq⟩:∃ q,q=l/y:=⟨_,rfl⟩
 obtain ⟨r,hr⟩:∃ r,r=l%y:=⟨_,rfl⟩
 have gq:Int.tdiv (l:Int) (y:Int)=(q:Nat):=by rw [hq,Int.tdiv_eq_ediv_of_nonneg (by omega)];exact (Int.natCast_ediv _ _).symm
 have gr:Int.tmod (l:Int) (y:Int)=(r:Nat):=by rw [hr,Int.tmod_eq_emod_of_nonneg (by omega)];exact (Int.natCast_emod _ _).symm
 have gq2:(l:Int)/(y:Int)=(q:Nat):=by rw [hq];exact (Int.natCast_ediv _ _).symm
 have gr2:(l:Int)%(y:Int)=(r:Nat):=by rw [hr];exact (Int.natCast_emod _ _).symm
 have hql:q≤l:=by rw [hq];exact Nat.div_le_self _ _
 have hrl:r≤l:=by rw [hr];exact Nat.mod_le _ _
 have gqw:IntKind.u64.wrap (q:Int)=(q:Nat):=by rw [IntKind.wrap_u64];omega
 have grw:IntKind.u64.wrap (r:Int)=(r:Nat):=by rw [IntKind.wrap_u64];omega
 rw [← hq,← hr]
 clear hq hr hql hrl hl hy2
 go_enter Tryz.func204,Tryz.ntmps204
 go_wp2_with fail
 go_region
 all_goals (try go_wp2)
 all_goals (first | go_ret2 | go_ret)
 all_goals exact ⟨by first | rfl | simp [gq,gr,gqw,grw],(Below.refl _ _).drew⟩
theorem div64_any (h l y:Nat) (hy:h<y) (hy2:y<18446744073709551616) (hl:l<18446744073709551616) (w:World) :
  Calls Tryz.prog 204 #[.int .u64 (h:Nat),.int .u64 (l:Nat),.int .u64 (y:Nat)] w fun e w'=>e=.returned (.tuple #[.int .u64 (((h*18446744073709551616+l)/y:Nat):Int),.int .u64 (((h*18446744073709551616+l)%y:Nat):Int)])∧Below w.heap.size w w':=by
 by_cases h0:h=0
 ·subst h0
  rw [Nat.zero_mul,Nat.zero_add]
  exact div64_short l y (by omega) hy2 hl w
 ·have hb:Go.bitLen y≤64:=by
   have:=Go.bitLen_spec y
   apply Decidable.byContradiction;intro hc
   have h2:=this.2 (by omega)
   have:2^64≤2^(Go.bitLen y-1):=Nat.pow_le_pow_right (by decide) (by omega)
   omega
  refine (div64_long h l y (64-Go.bitLen y) (by omega) hy hy2 hl (by omega) w).mono fun e w' ⟨he,hw⟩=>⟨he,?_⟩
  rw [hw];exact Below.refl _ _
end Go.Proofs.YtmmgmljkmmgjdaaGreatDoor
