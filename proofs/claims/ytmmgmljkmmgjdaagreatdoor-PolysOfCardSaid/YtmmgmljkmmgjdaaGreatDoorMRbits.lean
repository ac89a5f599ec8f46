import Derived.Lib.BitFns
import Derived.Laws.MathBits
import Derived.Test.YtmmgmljkmmgjdaaGreatDoorMCoreH
import Derived.Test.YtmmgmljkmmgjdaaGreatDoorMTree
namespace Go.Proofs.YtmmgmljkmmgjdaaGreatDoor
set_option maxRecDepth 100000
open Go.RowKit
set_option linter.unusedSimpArgs false
set_option linter.unusedVariables false

def shN (X:Nat) (n:Int):Nat:=if 0≤n then X*2^n.toNat%2^256 else X/2^(-n).toNat
def tb (X:Nat) (k:Int):Bool:=decide (0≤k) && X.testBit k.toNat

theorem Jhq (X i j:Nat):(wd X i).testBit j=(decide (j<64) && X.testBit (64*i+j)):=by
 unfold wd
 rw [Jip,show (18446744073709551616:Nat)=2^64 by decide,Nat.testBit_mod_two_pow,Nat.testBit_div_two_pow]
 rw [Nat.add_comm]
theorem wi_tb (X:Nat) (y:Int) (j:Nat):(wi X y).testBit j=(decide (j<64) && tb X (64*y+j)):=by
 unfold wi tb
 by_cases h:y<0
 ·rw [if_pos h,Nat.zero_testBit]
  by_cases hj:j<64
  ·have:¬ 0≤64*y+(j:Int):=by omega
   simp [this]
  ·simp [hj]
 ·rw [if_neg h,Jhq]
  by_cases hj:j<64
  ·have h1:0≤64*y+(j:Int):=by omega
   have h2:64*y.toNat+j=(64*y+(j:Int)).toNat:=by omega
   simp [h1,h2]
  ·simp [hj]
theorem sh_tb (X:Nat) (hX:X<2^256) (n:Int) (m:Nat):(shN X n).testBit m=(decide (m<256) && tb X (m-n)):=by
 unfold shN tb
 by_cases h:0≤n
 ·rw [if_pos h,Nat.testBit_mod_two_pow,Nat.testBit_mul_two_pow]
  by_cases h1:n.toNat≤m
  ·have h2:0≤(m:Int)-n:=by omega
   have h3:((m:Int)-n).toNat=m-n.toNat:=by omega
   rw [decide_eq_true h2,decide_eq_true h1,h3]
  ·have h2:¬ 0≤(m:Int)-n:=by omega
   rw [decide_eq_false h2,decide_eq_false h1];simp
 ·rw [if_neg h,Nat.testBit_div_two_pow]
  have h2:0≤(m:Int)-n:=by omega
  have h3:((m:Int)-n).toNat=m+(-n).toNat:=by omega
  by_cases h1:m<256
  ·rw [decide_eq_true h2,decide_eq_true h1,h3];simp
  ·have h4:X.testBit (m+(-n).toNat)=false:=Nat.testBit_lt_two_pow (Nat.lt_of_lt_of_le hX (Nat.pow_le_pow_right (by decide) (by omega)))
   simp [h1,h4]
theorem sh_lt (X:Nat) (hX:X<2^256) (n:Int):shN X n<2^256:=by
 unfold shN
 split
 ·exact Nat.mod_lt _ (by decide)
 ·exact Nat.lt_of_le_of_lt (Nat.div_le_self _ _) hX

theorem Jfu (X:Nat) (hX:X<2^256) (n q:Int) (p r k:Nat) (y y':Int) (hk:k<4) (hn:n=64*q+p) (hp:p<64) (hr:r=64-p) (hy:y=k-q) (hy':y'=k-q-1) :
  bits .or .u64 (IntKind.u64.wrap ((wi X y:Nat)*2^p)) ((wi X y':Nat)/2^r)=(wd (shN X n) k:Nat):=by
 have e1:IntKind.u64.wrap ((wi X y:Nat)*2^p)=((wi X y*2^p%2^64:Nat):Int):=by
  rw [IntKind.wrap_u64];simp
 have e2:((wi X y':Nat):Int)/2^r=((wi X y'/2^r:Nat):Int):=by simp
 rw [e1,e2,bits_or_u64_nat _ _ (Nat.mod_lt _ (by decide)) (Nat.lt_of_le_of_lt (Nat.div_le_self _ _) (wi_lt _ _))]
 congr 1
 refine Nat.eq_of_testBit_eq fun j=>?_
 rw [Nat.testBit_or,show (18446744073709551616:Nat)=2^64 by decide,Nat.testBit_mod_two_pow,Nat.testBit_mul_two_pow,Nat.testBit_div_two_pow,wi_tb,wi_tb,Jhq,sh_tb X hX]
 by_cases hj:j<64
 ·have h256:64*k+j<256:=by omega
  by_cases hpj:p≤j
  ·have g1:j-p<64:=by omega
   have g2:¬ j+r<64:=by omega
   have g3:64*y+((j-p:Nat):Int)=((64*k+j:Nat):Int)-n:=by omega
   simp only [hj,hpj,g1,g2,g3,h256];simp
  ·have g2:j+r<64:=by omega
   have g3:64*y'+((j+r:Nat):Int)=((64*k+j:Nat):Int)-n:=by omega
   simp only [hj,hpj,g2,g3,h256];simp
 ·have g2:¬ j+r<64:=by omega
  simp [hj,g2]

theorem shift_any (X:Nat) (hX:X<2^256) (n:Int) (hn:-9223372036854775808≤n) (hn':n≤9223372036854775807) (w:World) :
  Calls Tryz.prog 224 #[num X,.int .i64 n] w fun e w'=>e=.returned (num (shN X n))∧Below w.heap.size w w':=by
 obtain ⟨p,hp⟩:∃ p:Nat,n%64=p:=⟨(n%64).toNat,by omega⟩
 have e:n=64*(n/64)+p:=by omega
 have wr:∀ x:Int,-9223372036854775808≤x→x≤9223372036854775807→IntKind.i64.wrap x=x:=fun x h1 h2=>by rw [IntKind.wrap_i64];omega
 refine shift_words X hX n (n/64) (0-n/64-1) (0-n/64) (1-n/64) (2-n/64) (3-n/64) p (64-p) rfl (by rw [and63,hp]) (by omega) (by rw [wr _ (by omega) (by omega)];omega) (by omega)
  (by rw [wr _ (by omega) (by omega)];omega) (wr _ (by omega) (by omega)) (wr _ (by omega) (by omega)) (wr _ (by omega) (by omega))
  (wr _ (by omega) (by omega)) (by rw [wr _ (by omega) (by omega)];omega) (by rw [wr _ (by omega) (by omega)];omega) (by rw [wr _ (by omega) (by omega)];omega) _ _ _ _
  (Jfu X hX n _ p _ 0 _ _ (by omega) e (by omega) rfl (by omega) (by omega)) (Jfu X hX n _ p _ 1 _ _ (by omega) e (by omega) rfl (by omega) (by omega))
  (Jfu X hX n _ p _ 2 _ _ (by omega) e (by omega) rfl (by omega) (by omega)) (Jfu X hX n _ p _ 3 _ _ (by omega) e (by omega) rfl (by omega) (by omega)) w
theorem mul_ex (X Y:Nat) (hX:X<2^256) (hY:Y<2^256):∃ L H:Nat,L<2^256∧H<2^256∧X*Y=L+2^256*H ∧
  ∀ w,Calls Tryz.prog 201 #[num X,num Y] w fun e w'=>e=.returned (.tuple #[num L,num H])∧Below w.heap.size w w':=by
 refine ⟨X*Y%2^256,X*Y/2^256,Nat.mod_lt _ (by decide),?_,by omega,fun w=>(mul_words X Y hX hY w).mono ?_⟩
 ·have:X*Y<2^256*2^256:=Nat.mul_lt_mul'' hX hY
  exact Nat.div_lt_of_lt_mul this
 rintro e w' ⟨L,hl,hb,hv,rfl,bel⟩
 match L,hl with
 | [l0,l1,l2,l3,l4,l5,l6,l7],_=>
  simp only [List.mem_cons,List.not_mem_nil,or_false,forall_eq_or_imp,forall_eq] at hb
  obtain ⟨h0,h1,h2,h3,h4,h5,h6,h7⟩:=hb
  simp only [lv,Nat.mul_zero,Nat.add_zero] at hv
  generalize X*Y=P at *
  refine ⟨?_,bel⟩
  have e1:(.agg (ws ([l0,l1,l2,l3,l4,l5,l6,l7].take 4)):Value)=num (P%2^256):=Jdn l0 l1 l2 l3 h0 h1 h2 h3 _ (by omega)
  have e2:(.agg (ws ([l0,l1,l2,l3,l4,l5,l6,l7].drop 4)):Value)=num (P/2^256):=Jdn l4 l5 l6 l7 h4 h5 h6 h7 _ (by omega)
  rw [e1,e2]
theorem Jai (x y:Int) (k:Nat) (h0:0≤x) (hx:x<18446744073709551616) (hk:k≤56) (hy:y.toNat=x.toNat/2^k) (hy0:0≤y) (hy1:y≤255) (h:k=0∨1≤y):(k:Int)+Lib.len8 y=Lib.bitLen x.toNat∧0≤Lib.len8 y∧Lib.len8 y≤8:=by
 have l:=Lib.bitLen_le8' y hy0 hy1
 rw [Lib.len8_of y hy0 hy1]
 refine ⟨?_,by omega,by omega⟩
 rw [hy]
 rcases h with rfl | h
 ·simp
 ·have hp:0<2^k:=Nat.two_pow_pos k
  have h1:2^k≤x.toNat:=(Nat.one_le_div_iff hp).1 (by omega)
  rw [Lib.bitLen_shift k x.toNat h1 (by omega)]
  simp

set_option maxRecDepth 100000 in
theorem Jie (x:Int) (h0:0≤x) (hx:x<18446744073709551616) (w:World):Calls Tryz.prog 196 #[.int .u64 x] w fun e w'=>e=.returned (.int .i64 (Lib.bitLen x.toNat))∧w'=w:=by
 by_cases c1:4294967296≤x
 ·obtain ⟨x1,g1⟩:∃ x1,x/4294967296=x1:=⟨_,rfl⟩
  by_cases c2:65536≤x1
  ·obtain ⟨x2,g2⟩:∃ x2,x1/65536=x2:=⟨_,rfl⟩
   by_cases c3:256≤x2
   ·obtain ⟨x3,g3⟩:∃ x3,x2/256=x3:=⟨_,rfl⟩
    have q0:0≤x3:=by omega
    have q1:x3≤255:=by omega
    have q2:x3.toNat=x.toNat/2^56:=by rw [show (2:Nat)^56=72057594037927936 by decide];omega
    obtain ⟨e1,e2,e3⟩:=Jai x x3 56 h0 hx (by omega) q2 q0 q1 (by omega)
    generalize hL:Lib.len8 x3=t at *
    have HE:=Jja e1
    clear q2 e1 hx
    go_enter Tryz.func196,Tryz.ntmps196
    go_wp2
    go_ret
    refine ⟨congrArg Ending.returned (congrArg (Value.int IntKind.i64) ?_),rfl⟩
    rw [← HE.out]
    first | omega | (unfold wrap64;omega)
   ·have d3:x2<256:=by omega
    clear c3
    have q0:0≤x2:=by omega
    have q1:x2≤255:=by omega
    have q2:x2.toNat=x.toNat/2^48:=by rw [show (2:Nat)^48=281474976710656 by decide];omega
    obtain ⟨e1,e2,e3⟩:=Jai x x2 48 h0 hx (by omega) q2 q0 q1 (by omega)
    generalize hL:Lib.len8 x2=t at *
    have HE:=Jja e1
    clear q2 e1 hx
    go_enter Tryz.func196,Tryz.ntmps196
    go_wp2
    go_ret
    refine ⟨congrArg Ending.returned (congrArg (Value.int IntKind.i64) ?_),rfl⟩
    rw [← HE.out]
    first | omega | (unfold wrap64;omega)
  ·have d2:x1<65536:=by omega
   clear c2
   by_cases c3:256≤x1
   ·obtain ⟨x3,g3⟩:∃ x3,x1/256=x3:=⟨_,rfl⟩
    have q0:0≤x3:=by omega
    have q1:x3≤255:=by omega
    have q2:x3.toNat=x.toNat/2^40:=by rw [show (2:Nat)^40=1099511627776 by decide];omega
    obtain ⟨e1,e2,e3⟩:=Jai x x3 40 h0 hx (by omega) q2 q0 q1 (by omega)
    generalize hL:Lib.len8 x3=t at *
    have HE:=Jja e1
    clear q2 e1 hx
    go_enter Tryz.func196,Tryz.ntmps196
    go_wp2
    go_ret
    refine ⟨congrArg Ending.returned (congrArg (Value.int IntKind.i64) ?_),rfl⟩
    rw [← HE.out]
    first | omega | (unfold wrap64;omega)
   ·have d3:x1<256:=by omega
    clear c3
    have q0:0≤x1:=by omega
    have q1:x1≤255:=by omega
    have q2:x1.toNat=x.toNat/2^32:=by rw [show (2:Nat)^32=4294967296 by decide];omega
    obtain ⟨e1,e2,e3⟩:=Jai x x1 32 h0 hx (by omega) q2 q0 q1 (by omega)
    generalize hL:Lib.len8 x1=t at *
    have HE:=Jja e1
    clear q2 e1 hx
    go_enter Tryz.func196,Tryz.ntmps196
    go_wp2
    go_ret
    refine ⟨congrArg Ending.returned (congrArg (Value.int IntKind.i64) ?_),rfl⟩
    rw [← HE.out]
    first | omega | (unfold wrap64;omega)
 ·have d1:x<4294967296:=by omega
  clear c1
  by_cases c2:65536≤x
  ·obtain ⟨x2,g2⟩:∃ x2,x/65536=x2:=⟨_,rfl⟩
   by_cases c3:256≤x2
   ·obtain ⟨x3,g3⟩:∃ x3,x2/256=x3:=⟨_,rfl⟩
    have q0:0≤x3:=by omega
    have q1:x3≤255:=by omega
    have q2:x3.toNat=x.toNat/2^24:=by rw [show (2:Nat)^24=16777216 by decide];omega
    obtain ⟨e1,e2,e3⟩:=Jai x x3 24 h0 hx (by omega) q2 q0 q1 (by omega)
    generalize hL:Lib.len8 x3=t at *
    have HE:=Jja e1
    clear q2 e1 hx
    go_enter Tryz.func196,Tryz.ntmps196
    go_wp2
    go_ret
    refine ⟨congrArg Ending.returned (congrArg (Value.int IntKind.i64) ?_),rfl⟩
    rw [← HE.out]
    first | omega | (unfold wrap64;omega)
   ·have d3:x2<256:=by omega
    clear c3
    have q0:0≤x2:=by omega
    have q1:x2≤255:=by omega
    have q2:x2.toNat=x.toNat/2^16:=by rw [show (2:Nat)^16=65536 by decide];omega
    obtain ⟨e1,e2,e3⟩:=Jai x x2 16 h0 hx (by omega) q2 q0 q1 (by omega)
    generalize hL:Lib.len8 x2=t at *
    have HE:=Jja e1
    clear q2 e1 hx
    go_enter Tryz.func196,Tryz.ntmps196
    go_wp2
    go_ret
    refine ⟨congrArg Ending.returned (congrArg (Value.int IntKind.i64) ?_),rfl⟩
    rw [← HE.out]
    first | omega | (unfold wrap64;omega)
  ·have d2:x<65536:=by omega
   clear c2
   by_cases c3:256≤x
   ·obtain ⟨x3,g3⟩:∃ x3,x/256=x3:=⟨_,rfl⟩
    have q0:0≤x3:=by omega
    have q1:x3≤255:=by omega
    have q2:x3.toNat=x.toNat/2^8:=by rw [show (2:Nat)^8=256 by decide];omega
    obtain ⟨e1,e2,e3⟩:=Jai x x3 8 h0 hx (by omega) q2 q0 q1 (by omega)
    generalize hL:Lib.len8 x3=t at *
    have HE:=Jja e1
    clear q2 e1 hx
    go_enter Tryz.func196,Tryz.ntmps196
    go_wp2
    go_ret
    refine ⟨congrArg Ending.returned (congrArg (Value.int IntKind.i64) ?_),rfl⟩
    rw [← HE.out]
    first | omega | (unfold wrap64;omega)
   ·have d3:x<256:=by omega
    clear c3
    have q0:0≤x:=by omega
    have q1:x≤255:=by omega
    have q2:x.toNat=x.toNat/2^0:=by simp
    obtain ⟨e1,e2,e3⟩:=Jai x x 0 h0 hx (by omega) q2 q0 q1 (by omega)
    generalize hL:Lib.len8 x=t at *
    have HE:=Jja e1
    clear q2 e1 hx
    go_enter Tryz.func196,Tryz.ntmps196
    go_wp2
    go_ret
    refine ⟨congrArg Ending.returned (congrArg (Value.int IntKind.i64) ?_),rfl⟩
    rw [← HE.out]
    first | omega | (unfold wrap64;omega)
theorem Vx:∀ x:Nat,x<2^64→Lib.bitLen x=Go.bitLen x:=by
 intro x
 induction x using Nat.strongRecOn with
 | _ x ih=>
  intro hx
  by_cases h0:x=0
  ·subst h0;decide
  ·rw [Lib.bitLen_half x h0 hx,ih (x/2) (by omega) (by omega)]
   by_cases h1:x/2=0
   ·have:x=1:=by omega
    subst this;decide
   ·have:=Go.bitLen_shift x 1 (by simpa using h1)
    simpa using this.symm

theorem Jgr (X j:Nat) (hj:j<4) (hX:X/18446744073709551616^(j+1)=0) (h:wd X j≠0):(64*j+Lib.bitLen (wd X j):Nat)=Go.bitLen X:=by
 have e:wd X j=X/2^(64*j):=by
  unfold wd
  rw [Jip] at *
  refine Nat.mod_eq_of_lt ?_
  have:X/2^(64*j)/18446744073709551616=0:=by
   rw [Nat.div_div_eq_div_mul,show (18446744073709551616:Nat)=2^64 by decide,← Nat.pow_add]
   exact hX
  omega
 rw [Vx _ (by have:=Ue X j;omega),e,← Go.bitLen_shift X (64*j) (by rw [← e];exact h)]

theorem bits_3 (a0 a1 a2 a3:Nat) (w:World) (h:a3≠0) (hl:a3<18446744073709551616) :
  Calls Tryz.prog 172 #[.agg #[.int .u64 a0,.int .u64 a1,.int .u64 a2,.int .u64 a3]] w fun e w'=>e=.returned (.int .i64 ((192+Lib.bitLen a3:Nat):Int))∧Below w.heap.size w w':=by
 have C:=fun w=>Jie (a3:Int) (by omega) (by omega) w
 simp only [Int.toNat_natCast] at C
 have hne:((a3:Int) != 0)=true:=by simp;omega
 have hr:Lib.bitLen a3≤64:=by
  rw [Vx _ (by omega)]
  unfold Go.bitLen
  split
  ·omega
  ·have:=(Nat.log2_lt h).2 (show a3<2^64 by omega);omega
 generalize Lib.bitLen a3=t at *
 go_enter Tryz.func172,Tryz.ntmps172
 go_wp2
 refine wp_loop_rounds 6 ?_
 rw [rounds_succ]
 go_wp2_with (refine (C _).mono ?_;rintro e w1 ⟨rfl,rfl⟩)
 go_ret
 exact ⟨congrArg Ending.returned (congrArg (Value.int IntKind.i64) (by go_num)),by repeat (first | exact Below.refl _ _ | refine Jd ?_ _ | refine Below.drew ?_ | refine Ul ?_ _ | refine Jr ?_ (by assumption))⟩

theorem bits_2 (a0 a1 a2:Nat) (w:World) (h:a2≠0) (hl:a2<18446744073709551616) :
  Calls Tryz.prog 172 #[.agg #[.int .u64 a0,.int .u64 a1,.int .u64 a2,.int .u64 0]] w fun e w'=>e=.returned (.int .i64 ((128+Lib.bitLen a2:Nat):Int))∧Below w.heap.size w w':=by
 have C:=fun w=>Jie (a2:Int) (by omega) (by omega) w
 simp only [Int.toNat_natCast] at C
 have hne:((a2:Int) != 0)=true:=by simp;omega
 have hr:Lib.bitLen a2≤64:=by
  rw [Vx _ (by omega)]
  unfold Go.bitLen
  split
  ·omega
  ·have:=(Nat.log2_lt h).2 (show a2<2^64 by omega);omega
 generalize Lib.bitLen a2=t at *
 go_enter Tryz.func172,Tryz.ntmps172
 go_wp2
 refine wp_loop_rounds 6 ?_
 rw [rounds_succ]
 go_wp2
 rw [rounds_succ]
 go_wp2_with (refine (C _).mono ?_;rintro e w1 ⟨rfl,rfl⟩)
 go_ret
 exact ⟨congrArg Ending.returned (congrArg (Value.int IntKind.i64) (by go_num)),by repeat (first | exact Below.refl _ _ | refine Jd ?_ _ | refine Below.drew ?_ | refine Ul ?_ _ | refine Jr ?_ (by assumption))⟩

theorem bits_1 (a0 a1:Nat) (w:World) (h:a1≠0) (hl:a1<18446744073709551616) :
  Calls Tryz.prog 172 #[.agg #[.int .u64 a0,.int .u64 a1,.int .u64 0,.int .u64 0]] w fun e w'=>e=.returned (.int .i64 ((64+Lib.bitLen a1:Nat):Int))∧Below w.heap.size w w':=by
 have C:=fun w=>Jie (a1:Int) (by omega) (by omega) w
 simp only [Int.toNat_natCast] at C
 have hne:((a1:Int) != 0)=true:=by simp;omega
 have hr:Lib.bitLen a1≤64:=by
  rw [Vx _ (by omega)]
  unfold Go.bitLen
  split
  ·omega
  ·have:=(Nat.log2_lt h).2 (show a1<2^64 by omega);omega
 generalize Lib.bitLen a1=t at *
 go_enter Tryz.func172,Tryz.ntmps172
 go_wp2
 refine wp_loop_rounds 6 ?_
 rw [rounds_succ]
 go_wp2
 rw [rounds_succ]
 go_wp2
 rw [rounds_succ]
 go_wp2_with (refine (C _).mono ?_;rintro e w1 ⟨rfl,rfl⟩)
 go_ret
 exact ⟨congrArg Ending.returned (congrArg (Value.int IntKind.i64) (by go_num)),by repeat (first | exact Below.refl _ _ | refine Jd ?_ _ | refine Below.drew ?_ | refine Ul ?_ _ | refine Jr ?_ (by assumption))⟩

theorem bits_0 (a0:Nat) (w:World) (h:a0≠0) (hl:a0<18446744073709551616) :
  Calls Tryz.prog 172 #[.agg #[.int .u64 a0,.int .u64 0,.int .u64 0,.int .u64 0]] w fun e w'=>e=.returned (.int .i64 ((0+Lib.bitLen a0:Nat):Int))∧Below w.heap.size w w':=by
 have C:=fun w=>Jie (a0:Int) (by omega) (by omega) w
 simp only [Int.toNat_natCast] at C
 have hne:((a0:Int) != 0)=true:=by simp;omega
 have hr:Lib.bitLen a0≤64:=by
  rw [Vx _ (by omega)]
  unfold Go.bitLen
  split
  ·omega
  ·have:=(Nat.log2_lt h).2 (show a0<2^64 by omega);omega
 generalize Lib.bitLen a0=t at *
 go_enter Tryz.func172,Tryz.ntmps172
 go_wp2
 refine wp_loop_rounds 6 ?_
 rw [rounds_succ]
 go_wp2
 rw [rounds_succ]
 go_wp2
 rw [rounds_succ]
 go_wp2
 rw [rounds_succ]
 go_wp2_with (refine (C _).mono ?_;rintro e w1 ⟨rfl,rfl⟩)
 go_ret
 exact ⟨congrArg Ending.returned (congrArg (Value.int IntKind.i64) (by go_num)),by repeat (first | exact Below.refl _ _ | refine Jd ?_ _ | refine Below.drew ?_ | refine Ul ?_ _ | refine Jr ?_ (by assumption))⟩

theorem bits_none (w:World):Calls Tryz.prog 172 #[.agg #[.int .u64 0,.int .u64 0,.int .u64 0,.int .u64 0]] w fun e w'=>e=.returned (.int .i64 0)∧Below w.heap.size w w':=by
 go_enter Tryz.func172,Tryz.ntmps172
 go_wp2
 refine wp_loop_rounds 6 ?_
 rw [rounds_succ]
 go_wp2
 rw [rounds_succ]
 go_wp2
 rw [rounds_succ]
 go_wp2
 rw [rounds_succ]
 go_wp2
 rw [rounds_succ]
 go_wp2
 go_ret
 exact ⟨rfl,by repeat (first | exact Below.refl _ _ | refine Jd ?_ _ | refine Below.drew ?_ | refine Ul ?_ _ | refine Jr ?_ (by assumption))⟩

theorem Jej (X:Nat) (hX:X<2^256) (w:World):Calls Tryz.prog 172 #[num X] w fun e w'=>e=.returned (.int .i64 (Go.bitLen X:Nat))∧Below w.heap.size w w':=by
 have hs:=Xr X hX
 unfold num
 by_cases h3:wd X 3=0
 ·rw [h3]
  by_cases h2:wd X 2=0
  ·rw [h2]
   by_cases h1:wd X 1=0
   ·rw [h1]
    by_cases h0:wd X 0=0
    ·rw [h0]
     have:X=0:=by omega
     subst this
     exact bits_none w
    ·rw [← Jgr X 0 (by omega) (Nat.div_eq_of_lt (by have:=Ue X 0;omega)) h0]
     exact bits_0 _ w h0 (Ue _ _)
   ·rw [← Jgr X 1 (by omega) (Nat.div_eq_of_lt (by have:=Ue X 0;have:=Ue X 1;omega)) h1]
    exact bits_1 _ _ w h1 (Ue _ _)
  ·rw [← Jgr X 2 (by omega) (Nat.div_eq_of_lt (by have:=Ue X 0;have:=Ue X 1;have:=Ue X 2;omega)) h2]
   exact bits_2 _ _ _ w h2 (Ue _ _)
 ·rw [← Jgr X 3 (by omega) (Nat.div_eq_of_lt (by omega)) h3]
  exact bits_3 _ _ _ _ w h3 (Ue _ _)
theorem eqY (X:Nat) (w:World):(Op.equalIn 10000 24 (num X) (num X)).run Tryz.prog w=.ok true w:=by rw [eqW];simp
def dg (X k:Nat):Nat:=X/65536^k%65536
theorem Jbp (X k:Nat):dg X k<65536:=Nat.mod_lt _ (by decide)
theorem dg_wd (X q r:Nat) (hr:r<4):wd X q/65536^r%65536=dg X (4*q+r):=by
 unfold wd dg
 have e:(18446744073709551616:Nat)=65536^r*(65536^(4-r)):=by rw [← Nat.pow_add,show r+(4-r)=4 by omega]
 have e2:(18446744073709551616:Nat)^q=65536^(4*q):=by rw [Nat.pow_mul]
 rw [e2]
 conv=>lhs;arg 1;arg 1;arg 2;rw [e]
 rw [Nat.mod_mul_right_div_self,Nat.mod_mod_of_dvd _ (Nat.dvd_trans (by decide) (Nat.pow_dvd_pow 65536 (show 1≤4-r by omega))),Nat.div_div_eq_div_mul,← Nat.pow_add]
def ds (X:Nat):List Nat:=[dg X 0,dg X 1,dg X 2,dg X 3,dg X 4,dg X 5,dg X 6,dg X 7,dg X 8,dg X 9,dg X 10,dg X 11,dg X 12,dg X 13,dg X 14,dg X 15]
theorem Jfk (X:Nat):(ds X).length=16:=rfl
theorem Jfl (X k:Nat) (h:k<16):(ds X).getD k 0=dg X k:=by
 match k,h with
 | 0,_ | 1,_ | 2,_ | 3,_ | 4,_ | 5,_ | 6,_ | 7,_ | 8,_ | 9,_ | 10,_ | 11,_ | 12,_ | 13,_ | 14,_ | 15,_=>rfl
 | k+16,h=>omega
theorem ds_lt (X:Nat):∀ x∈ds X,x<65536:=by
 intro x hx
 obtain ⟨k,hk,rfl⟩:=List.mem_iff_getElem.1 hx
 have h:=Jfl X k hk
 simp only [List.getD,List.getElem?_eq_getElem hk,Option.getD_some] at h
 rw [h];exact Jbp X k
theorem ds_of (X:Nat) (M:List Nat) (hl:M.length=16) (h:∀ k,k<16→M.getD k 0=dg X k):M=ds X:=by
 refine List.ext_getElem (by rw [hl,Jfk]) fun k h1 h2=>?_
 have e1:=h k (by omega)
 have e2:=Jfl X k (by omega)
 simp only [List.getD,List.getElem?_eq_getElem h1,Option.getD_some] at e1
 simp only [List.getD,List.getElem?_eq_getElem h2,Option.getD_some] at e2
 rw [e1,e2]

structure DW (wr w:World) (X:Nat) (M:List Nat):Prop where
 a:At wr w.heap.size 24 (ws (wl X))
 res:At wr (w.heap.size+1) 239 (ws (List.replicate 16 0))
 d:At wr (w.heap.size+1+1) 239 (ws M)
 len:M.length=16
 bel:Below w.heap.size w wr

set_option maxRecDepth 100000 in
set_option maxHeartbeats 4000000 in
theorem digits_any (X:Nat) (w:World):Calls Tryz.prog 180 #[num X] w fun e w'=>e=.returned (.agg (ws (ds X)))∧Below w.heap.size w w':=by
 go_enter Tryz.func180,Tryz.ntmps180
 go_wp2
 go_loopw [4] (fun s wr=>∃ (i:Nat) (M:List Nat),i≤16∧s=.int .i64 i∧Hid (DW wr w X M∧∀ k,k<i→M.getD k 0=dg X k)) (fun s _=>16-(intOf s).toNat)
 case atStart=>
  refine ⟨0,List.replicate 16 0,by omega,rfl,⟨?_,?_,?_,rfl,?_⟩,fun k hk=>by omega⟩
  ·exact ((At.at_ w _ _ _ rfl).alloc _).alloc _
  ·exact (At.at_ (w.alloc _) _ _ _ (by simp)).alloc _
  ·exact At.at_ ((w.alloc _).alloc _) _ _ _ (by simp)
  ·repeat (first | exact Below.refl _ _ | refine Jd ?_ _)
 case round=>
  obtain ⟨i,M,hi,rfl,hH⟩:=hrel
  by_cases hlt:i<16
  ·obtain ⟨q,hq⟩:∃ q,q=i/4:=⟨_,rfl⟩
   obtain ⟨r,hr⟩:∃ r,r=i%4:=⟨_,rfl⟩
   have fa:wr.cell? ⟨w.heap.size,q,none⟩=some (.int .u64 (wd X q)):=by rw [hH.out.1.a.cell,Wx _ _ (by simp [wl];omega),Jiq X q (by omega)]
   have fd:wr.cell? ⟨w.heap.size+1+1,i,none⟩=some (.int .u64 (M.getD i 0:Nat)):=by rw [hH.out.1.d.cell,Wx _ _ (by rw [hH.out.1.len];omega)]
   have ff:wr.frozen? ⟨w.heap.size+1+1,i,none⟩=false:=hH.out.1.d.frozen _
   generalize M.getD i 0=m0 at fd
   have e:=dg_wd X q r (by omega)
   rw [show 4*q+r=i by omega,show (65536:Nat)^r=2^(16*r) by rw [Nat.pow_mul]] at e
   obtain ⟨s,hs⟩:∃ s,s=16*r:=⟨_,rfl⟩
   rw [← hs] at e
   have r1:((i:Int)/4)=(q:Nat):=by omega
   have r2:((i:Int)%4)=(r:Nat):=by omega
   have r3:IntKind.i64.wrap (16*(r:Int))=(s:Nat):=by rw [IntKind.wrap_i64];omega
   have r4:s≤48:=by omega
   have r5:(s:Int)≤64:=by omega
   have r6:(q:Int)<4:=by omega
   have r7:(i:Int)<16:=by omega
   have r8:(((wd X q:Nat):Int)/2^s).tmod 65536=(dg X i:Nat):=by
    have e1:((wd X q:Nat):Int)/2^s=((wd X q/2^s:Nat):Int):=by simp
    rw [← e,e1,Int.tmod_eq_emod_of_nonneg (Int.natCast_nonneg _)];simp
   have hwd:=Ue X q
   clear hq hr hs e
   go_wp2
   go_roundw
   case rel=>
    refine ⟨i+1,M.set i (dg X i),by omega,by go_num,⟨hH.out.1.a.far (by show _≠_;dsimp;omega) _,hH.out.1.res.far (by show _≠_;dsimp;omega) _,by rw [← Ve];exact hH.out.1.d.set _ _,by rw [List.length_set];exact hH.out.1.len,hH.out.1.bel.setCell (by dsimp;omega) _⟩,fun k hk=>?_⟩
    by_cases hki:k=i
    ·subst hki;simp [List.getD,hH.out.1.len,hlt]
    ·rw [Uy _ _ _ _ (fun h=>hki h.symm)];exact hH.out.2 k (by omega)
   case measure=>simp [intOf];omega
  ·obtain rfl:i=16:=by omega
   have hM:=ds_of X M hH.out.1.len hH.out.2
   subst hM
   have c0:wr.cell? ⟨w.heap.size+1+1,0,none⟩=some (.int .u64 (dg X 0)):=hH.out.1.d.cell 0
   have v0:wr.cell? ⟨w.heap.size+1,0,none⟩=some (.int .u64 0):=hH.out.1.res.cell 0
   have f0:wr.frozen? ⟨w.heap.size+1,0,none⟩=false:=hH.out.1.res.frozen 0
   have c1:wr.cell? ⟨w.heap.size+1+1,1,none⟩=some (.int .u64 (dg X 1)):=hH.out.1.d.cell 1
   have v1:wr.cell? ⟨w.heap.size+1,1,none⟩=some (.int .u64 0):=hH.out.1.res.cell 1
   have f1:wr.frozen? ⟨w.heap.size+1,1,none⟩=false:=hH.out.1.res.frozen 1
   have c2:wr.cell? ⟨w.heap.size+1+1,2,none⟩=some (.int .u64 (dg X 2)):=hH.out.1.d.cell 2
   have v2:wr.cell? ⟨w.heap.size+1,2,none⟩=some (.int .u64 0):=hH.out.1.res.cell 2
   have f2:wr.frozen? ⟨w.heap.size+1,2,none⟩=false:=hH.out.1.res.frozen 2
   have c3:wr.cell? ⟨w.heap.size+1+1,3,none⟩=some (.int .u64 (dg X 3)):=hH.out.1.d.cell 3
   have v3:wr.cell? ⟨w.heap.size+1,3,none⟩=some (.int .u64 0):=hH.out.1.res.cell 3
   have f3:wr.frozen? ⟨w.heap.size+1,3,none⟩=false:=hH.out.1.res.frozen 3
   have c4:wr.cell? ⟨w.heap.size+1+1,4,none⟩=some (.int .u64 (dg X 4)):=hH.out.1.d.cell 4
   have v4:wr.cell? ⟨w.heap.size+1,4,none⟩=some (.int .u64 0):=hH.out.1.res.cell 4
   have f4:wr.frozen? ⟨w.heap.size+1,4,none⟩=false:=hH.out.1.res.frozen 4
   have c5:wr.cell? ⟨w.heap.size+1+1,5,none⟩=some (.int .u64 (dg X 5)):=hH.out.1.d.cell 5
   have v5:wr.cell? ⟨w.heap.size+1,5,none⟩=some (.int .u64 0):=hH.out.1.res.cell 5
   have f5:wr.frozen? ⟨w.heap.size+1,5,none⟩=false:=hH.out.1.res.frozen 5
   have c6:wr.cell? ⟨w.heap.size+1+1,6,none⟩=some (.int .u64 (dg X 6)):=hH.out.1.d.cell 6
   have v6:wr.cell? ⟨w.heap.size+1,6,none⟩=some (.int .u64 0):=hH.out.1.res.cell 6
   have f6:wr.frozen? ⟨w.heap.size+1,6,none⟩=false:=hH.out.1.res.frozen 6
   have c7:wr.cell? ⟨w.heap.size+1+1,7,none⟩=some (.int .u64 (dg X 7)):=hH.out.1.d.cell 7
   have v7:wr.cell? ⟨w.heap.size+1,7,none⟩=some (.int .u64 0):=hH.out.1.res.cell 7
   have f7:wr.frozen? ⟨w.heap.size+1,7,none⟩=false:=hH.out.1.res.frozen 7
   have c8:wr.cell? ⟨w.heap.size+1+1,8,none⟩=some (.int .u64 (dg X 8)):=hH.out.1.d.cell 8
   have v8:wr.cell? ⟨w.heap.size+1,8,none⟩=some (.int .u64 0):=hH.out.1.res.cell 8
   have f8:wr.frozen? ⟨w.heap.size+1,8,none⟩=false:=hH.out.1.res.frozen 8
   have c9:wr.cell? ⟨w.heap.size+1+1,9,none⟩=some (.int .u64 (dg X 9)):=hH.out.1.d.cell 9
   have v9:wr.cell? ⟨w.heap.size+1,9,none⟩=some (.int .u64 0):=hH.out.1.res.cell 9
   have f9:wr.frozen? ⟨w.heap.size+1,9,none⟩=false:=hH.out.1.res.frozen 9
   have c10:wr.cell? ⟨w.heap.size+1+1,10,none⟩=some (.int .u64 (dg X 10)):=hH.out.1.d.cell 10
   have v10:wr.cell? ⟨w.heap.size+1,10,none⟩=some (.int .u64 0):=hH.out.1.res.cell 10
   have f10:wr.frozen? ⟨w.heap.size+1,10,none⟩=false:=hH.out.1.res.frozen 10
   have c11:wr.cell? ⟨w.heap.size+1+1,11,none⟩=some (.int .u64 (dg X 11)):=hH.out.1.d.cell 11
   have v11:wr.cell? ⟨w.heap.size+1,11,none⟩=some (.int .u64 0):=hH.out.1.res.cell 11
   have f11:wr.frozen? ⟨w.heap.size+1,11,none⟩=false:=hH.out.1.res.frozen 11
   have c12:wr.cell? ⟨w.heap.size+1+1,12,none⟩=some (.int .u64 (dg X 12)):=hH.out.1.d.cell 12
   have v12:wr.cell? ⟨w.heap.size+1,12,none⟩=some (.int .u64 0):=hH.out.1.res.cell 12
   have f12:wr.frozen? ⟨w.heap.size+1,12,none⟩=false:=hH.out.1.res.frozen 12
   have c13:wr.cell? ⟨w.heap.size+1+1,13,none⟩=some (.int .u64 (dg X 13)):=hH.out.1.d.cell 13
   have v13:wr.cell? ⟨w.heap.size+1,13,none⟩=some (.int .u64 0):=hH.out.1.res.cell 13
   have f13:wr.frozen? ⟨w.heap.size+1,13,none⟩=false:=hH.out.1.res.frozen 13
   have c14:wr.cell? ⟨w.heap.size+1+1,14,none⟩=some (.int .u64 (dg X 14)):=hH.out.1.d.cell 14
   have v14:wr.cell? ⟨w.heap.size+1,14,none⟩=some (.int .u64 0):=hH.out.1.res.cell 14
   have f14:wr.frozen? ⟨w.heap.size+1,14,none⟩=false:=hH.out.1.res.frozen 14
   have c15:wr.cell? ⟨w.heap.size+1+1,15,none⟩=some (.int .u64 (dg X 15)):=hH.out.1.d.cell 15
   have v15:wr.cell? ⟨w.heap.size+1,15,none⟩=some (.int .u64 0):=hH.out.1.res.cell 15
   have f15:wr.frozen? ⟨w.heap.size+1,15,none⟩=false:=hH.out.1.res.frozen 15
   go_wp2
   have AF:=((((((((((((((((hH.out.1.res.set 0 (.int .u64 (dg X 0))).set 1 (.int .u64 (dg X 1))).set 2 (.int .u64 (dg X 2))).set 3 (.int .u64 (dg X 3))).set 4 (.int .u64 (dg X 4))).set 5 (.int .u64 (dg X 5))).set 6 (.int .u64 (dg X 6))).set 7 (.int .u64 (dg X 7))).set 8 (.int .u64 (dg X 8))).set 9 (.int .u64 (dg X 9))).set 10 (.int .u64 (dg X 10))).set 11 (.int .u64 (dg X 11))).set 12 (.int .u64 (dg X 12))).set 13 (.int .u64 (dg X 13))).set 14 (.int .u64 (dg X 14))).set 15 (.int .u64 (dg X 15)))
   rw [Ve,Ve,Ve,Ve,Ve,Ve,Ve,Ve,Ve,Ve,Ve,Ve,Ve,Ve,Ve,Ve] at AF
   have hl:(((((((((((((((((List.replicate 16 0).set 0 (dg X 0)).set 1 (dg X 1)).set 2 (dg X 2)).set 3 (dg X 3)).set 4 (dg X 4)).set 5 (dg X 5)).set 6 (dg X 6)).set 7 (dg X 7)).set 8 (dg X 8)).set 9 (dg X 9)).set 10 (dg X 10)).set 11 (dg X 11)).set 12 (dg X 12)).set 13 (dg X 13)).set 14 (dg X 14)).set 15 (dg X 15))=ds X:=by simp only [List.replicate,List.set_cons_zero,List.set_cons_succ];rfl
   rw [hl] at AF
   clear hl
   have BF:Below w.heap.size w ((((((((((((((((wr.setCell ⟨w.heap.size+1,0,none⟩ (.int .u64 (dg X 0))).setCell ⟨w.heap.size+1,1,none⟩ (.int .u64 (dg X 1))).setCell ⟨w.heap.size+1,2,none⟩ (.int .u64 (dg X 2))).setCell ⟨w.heap.size+1,3,none⟩ (.int .u64 (dg X 3))).setCell ⟨w.heap.size+1,4,none⟩ (.int .u64 (dg X 4))).setCell ⟨w.heap.size+1,5,none⟩ (.int .u64 (dg X 5))).setCell ⟨w.heap.size+1,6,none⟩ (.int .u64 (dg X 6))).setCell ⟨w.heap.size+1,7,none⟩ (.int .u64 (dg X 7))).setCell ⟨w.heap.size+1,8,none⟩ (.int .u64 (dg X 8))).setCell ⟨w.heap.size+1,9,none⟩ (.int .u64 (dg X 9))).setCell ⟨w.heap.size+1,10,none⟩ (.int .u64 (dg X 10))).setCell ⟨w.heap.size+1,11,none⟩ (.int .u64 (dg X 11))).setCell ⟨w.heap.size+1,12,none⟩ (.int .u64 (dg X 12))).setCell ⟨w.heap.size+1,13,none⟩ (.int .u64 (dg X 13))).setCell ⟨w.heap.size+1,14,none⟩ (.int .u64 (dg X 14))).setCell ⟨w.heap.size+1,15,none⟩ (.int .u64 (dg X 15))):=((((((((((((((((hH.out.1.bel.setCell (by dsimp;omega) _).setCell (by dsimp;omega) _).setCell (by dsimp;omega) _).setCell (by dsimp;omega) _).setCell (by dsimp;omega) _).setCell (by dsimp;omega) _).setCell (by dsimp;omega) _).setCell (by dsimp;omega) _).setCell (by dsimp;omega) _).setCell (by dsimp;omega) _).setCell (by dsimp;omega) _).setCell (by dsimp;omega) _).setCell (by dsimp;omega) _).setCell (by dsimp;omega) _).setCell (by dsimp;omega) _).setCell (by dsimp;omega) _)
   generalize ((((((((((((((((wr.setCell ⟨w.heap.size+1,0,none⟩ (.int .u64 (dg X 0))).setCell ⟨w.heap.size+1,1,none⟩ (.int .u64 (dg X 1))).setCell ⟨w.heap.size+1,2,none⟩ (.int .u64 (dg X 2))).setCell ⟨w.heap.size+1,3,none⟩ (.int .u64 (dg X 3))).setCell ⟨w.heap.size+1,4,none⟩ (.int .u64 (dg X 4))).setCell ⟨w.heap.size+1,5,none⟩ (.int .u64 (dg X 5))).setCell ⟨w.heap.size+1,6,none⟩ (.int .u64 (dg X 6))).setCell ⟨w.heap.size+1,7,none⟩ (.int .u64 (dg X 7))).setCell ⟨w.heap.size+1,8,none⟩ (.int .u64 (dg X 8))).setCell ⟨w.heap.size+1,9,none⟩ (.int .u64 (dg X 9))).setCell ⟨w.heap.size+1,10,none⟩ (.int .u64 (dg X 10))).setCell ⟨w.heap.size+1,11,none⟩ (.int .u64 (dg X 11))).setCell ⟨w.heap.size+1,12,none⟩ (.int .u64 (dg X 12))).setCell ⟨w.heap.size+1,13,none⟩ (.int .u64 (dg X 13))).setCell ⟨w.heap.size+1,14,none⟩ (.int .u64 (dg X 14))).setCell ⟨w.heap.size+1,15,none⟩ (.int .u64 (dg X 15)))=WF at *
   have d0:WF.cell? ⟨w.heap.size+1,0,none⟩=some (.int .u64 (dg X 0)):=AF.cell 0
   have d1:WF.cell? ⟨w.heap.size+1,1,none⟩=some (.int .u64 (dg X 1)):=AF.cell 1
   have d2:WF.cell? ⟨w.heap.size+1,2,none⟩=some (.int .u64 (dg X 2)):=AF.cell 2
   have d3:WF.cell? ⟨w.heap.size+1,3,none⟩=some (.int .u64 (dg X 3)):=AF.cell 3
   have d4:WF.cell? ⟨w.heap.size+1,4,none⟩=some (.int .u64 (dg X 4)):=AF.cell 4
   have d5:WF.cell? ⟨w.heap.size+1,5,none⟩=some (.int .u64 (dg X 5)):=AF.cell 5
   have d6:WF.cell? ⟨w.heap.size+1,6,none⟩=some (.int .u64 (dg X 6)):=AF.cell 6
   have d7:WF.cell? ⟨w.heap.size+1,7,none⟩=some (.int .u64 (dg X 7)):=AF.cell 7
   have d8:WF.cell? ⟨w.heap.size+1,8,none⟩=some (.int .u64 (dg X 8)):=AF.cell 8
   have d9:WF.cell? ⟨w.heap.size+1,9,none⟩=some (.int .u64 (dg X 9)):=AF.cell 9
   have d10:WF.cell? ⟨w.heap.size+1,10,none⟩=some (.int .u64 (dg X 10)):=AF.cell 10
   have d11:WF.cell? ⟨w.heap.size+1,11,none⟩=some (.int .u64 (dg X 11)):=AF.cell 11
   have d12:WF.cell? ⟨w.heap.size+1,12,none⟩=some (.int .u64 (dg X 12)):=AF.cell 12
   have d13:WF.cell? ⟨w.heap.size+1,13,none⟩=some (.int .u64 (dg X 13)):=AF.cell 13
   have d14:WF.cell? ⟨w.heap.size+1,14,none⟩=some (.int .u64 (dg X 14)):=AF.cell 14
   have d15:WF.cell? ⟨w.heap.size+1,15,none⟩=some (.int .u64 (dg X 15)):=AF.cell 15
   exact bodyPost_ret (v:=.agg #[.int .u64 (dg X 0),.int .u64 (dg X 1),.int .u64 (dg X 2),.int .u64 (dg X 3),.int .u64 (dg X 4),.int .u64 (dg X 5),.int .u64 (dg X 6),.int .u64 (dg X 7),.int .u64 (dg X 8),.int .u64 (dg X 9),.int .u64 (dg X 10),.int .u64 (dg X 11),.int .u64 (dg X 12),.int .u64 (dg X 13),.int .u64 (dg X 14),.int .u64 (dg X 15)]) (by simp [results,Tryz.results180,go_sem,d0,d1,d2,d3,d4,d5,d6,d7,d8,d9,d10,d11,d12,d13,d14,d15]) rfl ⟨rfl,BF⟩
theorem Xo (X:Nat) (w:World):Calls Tryz.prog 180 #[num X] w fun e w'=>e=.returned (.agg #[.int .u64 (dg X 0),.int .u64 (dg X 1),.int .u64 (dg X 2),.int .u64 (dg X 3),.int .u64 (dg X 4),.int .u64 (dg X 5),.int .u64 (dg X 6),.int .u64 (dg X 7),.int .u64 (dg X 8),.int .u64 (dg X 9),.int .u64 (dg X 10),.int .u64 (dg X 11),.int .u64 (dg X 12),.int .u64 (dg X 13),.int .u64 (dg X 14),.int .u64 (dg X 15)])∧Below w.heap.size w w':=digits_any X w
theorem arr_at (X q:Nat) (h:q<16):(#[.int .u64 (dg X 0),.int .u64 (dg X 1),.int .u64 (dg X 2),.int .u64 (dg X 3),.int .u64 (dg X 4),.int .u64 (dg X 5),.int .u64 (dg X 6),.int .u64 (dg X 7),.int .u64 (dg X 8),.int .u64 (dg X 9),.int .u64 (dg X 10),.int .u64 (dg X 11),.int .u64 (dg X 12),.int .u64 (dg X 13),.int .u64 (dg X 14),.int .u64 (dg X 15)]:Array Value)[q]? = some (.int .u64 (dg X q)):=by
 have:=Wx (ds X) q h
 rw [Jfl X q h] at this
 exact this
theorem lst_at (X q:Nat) (h:q<16) (h':q<([.int .u64 (dg X 0),.int .u64 (dg X 1),.int .u64 (dg X 2),.int .u64 (dg X 3),.int .u64 (dg X 4),.int .u64 (dg X 5),.int .u64 (dg X 6),.int .u64 (dg X 7),.int .u64 (dg X 8),.int .u64 (dg X 9),.int .u64 (dg X 10),.int .u64 (dg X 11),.int .u64 (dg X 12),.int .u64 (dg X 13),.int .u64 (dg X 14),.int .u64 (dg X 15)]:List Value).length):([.int .u64 (dg X 0),.int .u64 (dg X 1),.int .u64 (dg X 2),.int .u64 (dg X 3),.int .u64 (dg X 4),.int .u64 (dg X 5),.int .u64 (dg X 6),.int .u64 (dg X 7),.int .u64 (dg X 8),.int .u64 (dg X 9),.int .u64 (dg X 10),.int .u64 (dg X 11),.int .u64 (dg X 12),.int .u64 (dg X 13),.int .u64 (dg X 14),.int .u64 (dg X 15)]:List Value)[q]'h'=.int .u64 (dg X q):=by
 have:=arr_at X q h
 simp only [List.getElem?_toArray,List.getElem?_eq_getElem h',Option.some.injEq] at this
 exact this
theorem dg_bit (X q r:Nat) (h:r<16):dg X q/2^r%2=X/2^(16*q+r)%2:=by
 unfold dg
 have e:(65536:Nat)=2^r*2^(16-r):=by rw [← Nat.pow_add,show r+(16-r)=16 by omega]
 have e2:(65536:Nat)^q=2^(16*q):=by rw [Nat.pow_mul]
 rw [e2]
 conv=>lhs;arg 1;arg 1;arg 2;rw [e]
 rw [Nat.mod_mul_right_div_self,Nat.mod_mod_of_dvd _ (Nat.dvd_trans (by decide) (Nat.pow_dvd_pow 2 (show 1≤16-r by omega))),Nat.div_div_eq_div_mul,← Nat.pow_add]

set_option maxRecDepth 100000 in
set_option maxHeartbeats 4000000 in
theorem Jgc (X:Nat) (hX:X<2^256) (i:Int) (w:World):Calls Tryz.prog 183 #[num X,.int .i64 i] w fun e w'=>e=.returned (.int .u64 (bt X i:Nat))∧Below w.heap.size w w':=by
 by_cases h0:i<0
 ·have e:bt X i=0:=by unfold bt;rw [if_pos h0]
  rw [e]
  go_enter Tryz.func183,Tryz.ntmps183
  go_wp2
  go_ret
  exact ⟨rfl,by repeat (first | exact Below.refl _ _ | refine Jd ?_ _ | refine Below.drew ?_ | refine Ul ?_ _)⟩
 by_cases h1:255<i
 ·have e:bt X i=0:=by
   unfold bt
   rw [if_neg h0,Nat.div_eq_of_lt (Nat.lt_of_lt_of_le hX (Nat.pow_le_pow_right (by decide) (by omega)))]
  rw [e]
  have h0':decide (i<0)=false:=by simp;omega
  go_enter Tryz.func183,Tryz.ntmps183
  go_wp2
  go_ret
  exact ⟨rfl,by repeat (first | exact Below.refl _ _ | refine Jd ?_ _ | refine Below.drew ?_ | refine Ul ?_ _)⟩
 obtain ⟨n,rfl⟩:∃ n:Nat,i=n:=⟨i.toNat,by omega⟩
 have h0':decide ((n:Int)<0)=false:=by simp
 have h1':decide ((255:Int)<(n:Int))=false:=by simp;omega
 obtain ⟨q,hq⟩:∃ q,q=n/16:=⟨_,rfl⟩
 obtain ⟨r,hr⟩:∃ r,r=n%16:=⟨_,rfl⟩
 have r1:((n:Int)/16)=(q:Nat):=by omega
 have r2:((n:Int)%16)=(r:Nat):=by omega
 have r3:(q:Int)<16:=by omega
 have r4:r<16:=by omega
 have r5:q<16:=by omega
 have ha:=lst_at X q r5 (by simpa using r5)
 have r6:(((dg X q:Nat):Int)/2^r).tmod 2=(bt X (n:Int):Nat):=by
  have e1:((dg X q:Nat):Int)/2^r=((dg X q/2^r:Nat):Int):=by simp
  have e2:bt X (n:Int)=dg X q/2^r%2:=by
   rw [dg_bit X q r r4]
   unfold bt
   rw [if_neg (by omega),Int.toNat_natCast,show 16*q+r=n by omega]
  rw [e1,e2,Int.tmod_eq_emod_of_nonneg (Int.natCast_nonneg _)];simp
 clear hq hr h0 h1
 go_enter Tryz.func183,Tryz.ntmps183
 go_wp2_with fail
 refine (Xo X _).mono ?_
 rintro e w1 ⟨rfl,z1⟩
 go_wp2
 go_ret
 exact ⟨rfl,by repeat (first | exact Below.refl _ _ | refine Jd ?_ _ | refine Below.drew ?_ | refine Ul ?_ _ | refine Jr ?_ (by assumption))⟩
theorem lz_any (x s:Nat) (hx:x<18446744073709551616) (hs:s+Go.bitLen x=64) (w:World):Calls Tryz.prog 217 #[.int .u64 (x:Nat)] w fun e w'=>e=.returned (.int .i64 (s:Nat))∧w'=w:=by
 have C:=Jie (x:Int) (by omega) (by omega)
 have hb:Lib.bitLen ((x:Int)).toNat=(Go.bitLen x:Nat):=by rw [Int.toNat_natCast,Vx x (by omega)]
 rw [hb] at C
 obtain ⟨m,hm⟩:∃ m,Go.bitLen x=m:=⟨_,rfl⟩
 rw [hm] at C hs
 have HC:=Jja C
 clear C hb hm
 go_enter Tryz.func217,Tryz.ntmps217
 go_wp2_with fail
 refine (HC.out _).mono ?_
 rintro e v ⟨rfl,rfl⟩
 have e1:(64:Int)-(m:Int)=(s:Nat):=by omega
 go_wp2_with fail
 go_ret
 first | exact ⟨rfl,rfl⟩ | (refine ⟨congrArg Ending.returned (congrArg (Value.int IntKind.i64) ?_),rfl⟩;omega)
end Go.Proofs.YtmmgmljkmmgjdaaGreatDoor
