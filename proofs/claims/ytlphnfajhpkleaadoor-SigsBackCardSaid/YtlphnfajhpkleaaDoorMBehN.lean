/-
 limbs.Bits.
-/
import Derived.Laws.MathBits
import Derived.Test.YtlphnfajhpkleaaDoorMCoreH
import Derived.Test.YtlphnfajhpkleaaDoorMLen
import Derived.Test.YtlphnfajhpkleaaDoorMSmall
import Derived.Test.YtlphnfajhpkleaaDoorMStepW
namespace Go.Proofs.YtlphnfajhpkleaaDoor
set_option maxRecDepth 100000
open Go.RowKit
set_option linter.unusedSimpArgs false
set_option linter.unusedVariables false
attribute [local go_sem ↓] Go.wp_at_zero Go.wp_at_succ

theorem bitLen_same:∀ x:Nat,x<2^64→Lib.bitLen x=Go.bitLen x:=by
 intro x
 induction x using Nat.strongRecOn with
 | _ x ih=>
  intro hx
  by_cases h0:x=0
  ·subst h0;decide
  ·rw [Lib.bitLen_half x h0 hx,ih (x/2) (by omega) (by omega)]
   by_cases h1:x/2=0
   ·have:x=1:=by omega
    subst this;decide
   ·have:=Go.bitLen_shift x 1 (by simpa using h1)
    simpa using this.symm

theorem bl_word (X j:Nat) (hj:j<4) (hX:X/18446744073709551616^(j+1)=0) (h:wd X j≠0):(64*j+Lib.bitLen (wd X j):Nat)=Go.bitLen X:=by
 have e:wd X j=X/2^(64*j):=by
  unfold wd
  rw [B_pow] at *
  refine Nat.mod_eq_of_lt ?_
  have:X/2^(64*j)/18446744073709551616=0:=by
   rw [Nat.div_div_eq_div_mul,show (18446744073709551616:Nat)=2^64 by decide,← Nat.pow_add]
   exact hX
  omega
 rw [bitLen_same _ (by have:=wd_lt X j;omega),e,← Go.bitLen_shift X (64*j) (by rw [← e];exact h)]

theorem bits_3 (a0 a1 a2 a3:Nat) (w:World) (h:a3≠0) (hl:a3<18446744073709551616) :
  Calls Tryd.prog 32 #[.agg #[.int .u64 a0,.int .u64 a1,.int .u64 a2,.int .u64 a3]] w fun e w'=>e=.returned (.int .i64 ((192+Lib.bitLen a3:Nat):Int))∧Below w.heap.size w w':=by
 have C:=fun w=>len64 (a3:Int) (by omega) (by omega) w
 simp only [Int.toNat_natCast] at C
 have hne:((a3:Int) != 0)=true:=by simp;omega
 have hr:Lib.bitLen a3≤64:=by
  rw [bitLen_same _ (by omega)]
  unfold Go.bitLen
  split
  ·omega
  ·have:=(Nat.log2_lt h).2 (show a3<2^64 by omega);omega
 generalize Lib.bitLen a3=t at *
 go_enter Tryd.func32,Tryd.ntmps32
 go_wp2
 refine wp_loop_rounds 6 ?_
 rw [rounds_succ]
 go_wp2_with (refine (C _).mono ?_;rintro e w1 ⟨rfl,rfl⟩)
 go_ret
 exact ⟨congrArg Ending.returned (congrArg (Value.int IntKind.i64) (by go_num)),by repeat (first | exact Below.refl _ _ | refine gr_alloc ?_ _ | refine Below.drew ?_ | refine gr_drewN ?_ _ | refine bel_tr ?_ (by assumption))⟩

theorem bits_2 (a0 a1 a2:Nat) (w:World) (h:a2≠0) (hl:a2<18446744073709551616) :
  Calls Tryd.prog 32 #[.agg #[.int .u64 a0,.int .u64 a1,.int .u64 a2,.int .u64 0]] w fun e w'=>e=.returned (.int .i64 ((128+Lib.bitLen a2:Nat):Int))∧Below w.heap.size w w':=by
 have C:=fun w=>len64 (a2:Int) (by omega) (by omega) w
 simp only [Int.toNat_natCast] at C
 have hne:((a2:Int) != 0)=true:=by simp;omega
 have hr:Lib.bitLen a2≤64:=by
  rw [bitLen_same _ (by omega)]
  unfold Go.bitLen
  split
  ·omega
  ·have:=(Nat.log2_lt h).2 (show a2<2^64 by omega);omega
 generalize Lib.bitLen a2=t at *
 go_enter Tryd.func32,Tryd.ntmps32
 go_wp2
 refine wp_loop_rounds 6 ?_
 rw [rounds_succ]
 go_wp2
 rw [rounds_succ]
 go_wp2_with (refine (C _).mono ?_;rintro e w1 ⟨rfl,rfl⟩)
 go_ret
 exact ⟨congrArg Ending.returned (congrArg (Value.int IntKind.i64) (by go_num)),by repeat (first | exact Below.refl _ _ | refine gr_alloc ?_ _ | refine Below.drew ?_ | refine gr_drewN ?_ _ | refine bel_tr ?_ (by assumption))⟩

theorem bits_1 (a0 a1:Nat) (w:World) (h:a1≠0) (hl:a1<18446744073709551616) :
  Calls Tryd.prog 32 #[.agg #[.int .u64 a0,.int .u64 a1,.int .u64 0,.int .u64 0]] w fun e w'=>e=.returned (.int .i64 ((64+Lib.bitLen a1:Nat):Int))∧Below w.heap.size w w':=by
 have C:=fun w=>len64 (a1:Int) (by omega) (by omega) w
 simp only [Int.toNat_natCast] at C
 have hne:((a1:Int) != 0)=true:=by simp;omega
 have hr:Lib.bitLen a1≤64:=by
  rw [bitLen_same _ (by omega)]
  unfold Go.bitLen
  split
  ·omega
  ·have:=(Nat.log2_lt h).2 (show a1<2^64 by omega);omega
 generalize Lib.bitLen a1=t at *
 go_enter Tryd.func32,Tryd.ntmps32
 go_wp2
 refine wp_loop_rounds 6 ?_
 rw [rounds_succ]
 go_wp2
 rw [rounds_succ]
 go_wp2
 rw [rounds_succ]
 go_wp2_with (refine (C _).mono ?_;rintro e w1 ⟨rfl,rfl⟩)
 go_ret
 exact ⟨congrArg Ending.returned (congrArg (Value.int IntKind.i64) (by go_num)),by repeat (first | exact Below.refl _ _ | refine gr_alloc ?_ _ | refine Below.drew ?_ | refine gr_drewN ?_ _ | refine bel_tr ?_ (by assumption))⟩

theorem bits_0 (a0:Nat) (w:World) (h:a0≠0) (hl:a0<18446744073709551616) :
  Calls Tryd.prog 32 #[.agg #[.int .u64 a0,.int .u64 0,.int .u64 0,.int .u64 0]] w fun e w'=>e=.returned (.int .i64 ((0+Lib.bitLen a0:Nat):Int))∧Below w.heap.size w w':=by
 have C:=fun w=>len64 (a0:Int) (by omega) (by omega) w
 simp only [Int.toNat_natCast] at C
 have hne:((a0:Int) != 0)=true:=by simp;omega
 have hr:Lib.bitLen a0≤64:=by
  rw [bitLen_same _ (by omega)]
  unfold Go.bitLen
  split
  ·omega
  ·have:=(Nat.log2_lt h).2 (show a0<2^64 by omega);omega
 generalize Lib.bitLen a0=t at *
 go_enter Tryd.func32,Tryd.ntmps32
 go_wp2
 refine wp_loop_rounds 6 ?_
 rw [rounds_succ]
 go_wp2
 rw [rounds_succ]
 go_wp2
 rw [rounds_succ]
 go_wp2
 rw [rounds_succ]
 go_wp2_with (refine (C _).mono ?_;rintro e w1 ⟨rfl,rfl⟩)
 go_ret
 exact ⟨congrArg Ending.returned (congrArg (Value.int IntKind.i64) (by go_num)),by repeat (first | exact Below.refl _ _ | refine gr_alloc ?_ _ | refine Below.drew ?_ | refine gr_drewN ?_ _ | refine bel_tr ?_ (by assumption))⟩

theorem bits_none (w:World):Calls Tryd.prog 32 #[.agg #[.int .u64 0,.int .u64 0,.int .u64 0,.int .u64 0]] w fun e w'=>e=.returned (.int .i64 0)∧Below w.heap.size w w':=by
 go_enter Tryd.func32,Tryd.ntmps32
 go_wp2
 refine wp_loop_rounds 6 ?_
 rw [rounds_succ]
 go_wp2
 rw [rounds_succ]
 go_wp2
 rw [rounds_succ]
 go_wp2
 rw [rounds_succ]
 go_wp2
 rw [rounds_succ]
 go_wp2
 go_ret
 exact ⟨rfl,by repeat (first | exact Below.refl _ _ | refine gr_alloc ?_ _ | refine Below.drew ?_ | refine gr_drewN ?_ _ | refine bel_tr ?_ (by assumption))⟩

/-- limbs.Bits -/
theorem bits_any (X:Nat) (hX:X<2^256) (w:World):Calls Tryd.prog 32 #[num X] w fun e w'=>e=.returned (.int .i64 (Go.bitLen X:Nat))∧Below w.heap.size w w':=by
 have hs:=wd_sum X hX
 unfold num
 by_cases h3:wd X 3=0
 ·rw [h3]
  by_cases h2:wd X 2=0
  ·rw [h2]
   by_cases h1:wd X 1=0
   ·rw [h1]
    by_cases h0:wd X 0=0
    ·rw [h0]
     have:X=0:=by omega
     subst this
     exact bits_none w
    ·rw [← bl_word X 0 (by omega) (Nat.div_eq_of_lt (by have:=wd_lt X 0;omega)) h0]
     exact bits_0 _ w h0 (wd_lt _ _)
   ·rw [← bl_word X 1 (by omega) (Nat.div_eq_of_lt (by have:=wd_lt X 0;have:=wd_lt X 1;omega)) h1]
    exact bits_1 _ _ w h1 (wd_lt _ _)
  ·rw [← bl_word X 2 (by omega) (Nat.div_eq_of_lt (by have:=wd_lt X 0;have:=wd_lt X 1;have:=wd_lt X 2;omega)) h2]
   exact bits_2 _ _ _ w h2 (wd_lt _ _)
 ·rw [← bl_word X 3 (by omega) (Nat.div_eq_of_lt (by omega)) h3]
  exact bits_3 _ _ _ _ w h3 (wd_lt _ _)
end Go.Proofs.YtlphnfajhpkleaaDoor

/-
 divides.undecided: how many bits are gone through.
-/
namespace Go.Proofs.YtlphnfajhpkleaaDoor
set_option maxRecDepth 100000
open Go.RowKit
set_option linter.unusedSimpArgs false
set_option linter.unusedVariables false
attribute [local go_sem ↓] Go.wp_at_zero Go.wp_at_succ

theorem bl_le' (X:Nat) (hX:X<2^256):Go.bitLen X≤256:=by
 have h:=Go.bitLen_spec X
 by_cases h0:X=0
 ·subst h0;decide
 ·have h2:=h.2 h0
  by_cases hc:Go.bitLen X≤256
  ·exact hc
  ·exfalso
   have:2^256≤2^(Go.bitLen X-1):=Nat.pow_le_pow_right (by decide) (by omega)
   omega
theorem bl_pos (X:Nat) (h:X≠0):0<Go.bitLen X:=by
 have h1:=(Go.bitLen_spec X).1
 rcases Nat.eq_zero_or_pos (Go.bitLen X) with e | e
 ·rw [e] at h1;omega
 ·exact e

set_option maxRecDepth 20000 in
set_option maxHeartbeats 1000000 in
theorem und_words (R A B la lr lb al k mm:Nat) (hla:la≤256) (hlr:lr≤256) (hlb:lb≤256) (hal:lr=0∧al=la∨0<lr∧al=256+lr)
  (hmm:mm=al+1-lb) (hk:k=min mm 256)
  (CA:∀ w,Calls Tryd.prog 32 #[num A] w fun e w'=>e=.returned (.int .i64 (la:Nat))∧Below w.heap.size w w')
  (CL:∀ w,Calls Tryd.prog 32 #[num R] w fun e w'=>e=.returned (.int .i64 (lr:Nat))∧Below w.heap.size w w')
  (CB:∀ w,Calls Tryd.prog 32 #[num B] w fun e w'=>e=.returned (.int .i64 (lb:Nat))∧Below w.heap.size w w') (w:World) :
  Calls Tryd.prog 86 #[num R,num A,num B] w fun e w'=>e=.returned (.int .i64 (k:Nat))∧Below w.heap.size w w':=by
 have HA:=Lib.hid CA;have HL:=Lib.hid CL;have HB:=Lib.hid CB
 clear CA CL CB
 rcases hal with ⟨rfl,rfl⟩ | ⟨h0,hx⟩
 ·have e1:(if ((al:Int)-lb+1)<0 then 0 else ((al:Int)-lb+1))=(mm:Nat):=by split <;> omega
  have HM:=Lib.hid hmm;have HK:=Lib.hid hk
  clear hmm hk
  go_enter Tryd.func86,Tryd.ntmps86
  go_wp2_with fail
  have BW:=Lib.hid (Below.refl w.heap.size w)
  have Nl:At (((w.alloc (.cells (ncs R) 24)).alloc (.cells (ncs A) 24)).alloc (.cells (ncs B) 24)) (w.heap.size) 24 (ncs R):=((At.at_ _ _ _ _ (by simp)).alloc _).alloc _
  have Na:At (((w.alloc (.cells (ncs R) 24)).alloc (.cells (ncs A) 24)).alloc (.cells (ncs B) 24)) (w.heap.size+1) 24 (ncs A):=(At.at_ _ _ _ _ (by simp)).alloc _
  have Nb:At (((w.alloc (.cells (ncs R) 24)).alloc (.cells (ncs A) 24)).alloc (.cells (ncs B) 24)) (w.heap.size+1+1) 24 (ncs B):=At.at_ _ _ _ _ (by simp)
  have NB:Below w.heap.size w (((w.alloc (.cells (ncs R) 24)).alloc (.cells (ncs A) 24)).alloc (.cells (ncs B) 24)):=gr_alloc (gr_alloc (gr_alloc BW.out _) _) _
  clear BW 
  generalize (((w.alloc (.cells (ncs R) 24)).alloc (.cells (ncs A) 24)).alloc (.cells (ncs B) 24))=W1 at *
  generalize w.heap.size+1+1=gb at *
  generalize w.heap.size+1=ga at *
  obtain ⟨gl,hg0⟩:∃ g,g=w.heap.size:=⟨_,rfl⟩
  rw [← hg0] at Nl ⊢
  clear hg0
  have Fl:=Lib.hid Nl
  have Fa:=Lib.hid Na
  have Fb:=Lib.hid Nb
  have BW:=Lib.hid NB
  clear NB Nl Na Nb
  refine (HA.out _).mono ?_
  rintro e v2 ⟨rfl,z2⟩
  have Nl:=Lib.hid (Fl.out.on z2)
  have Na:=Lib.hid (Fa.out.on z2)
  have Nb:=Lib.hid (Fb.out.on z2)
  have NB:=Lib.hid (bel_tr BW.out z2)
  clear BW z2 Fl Fa Fb
  have Fl:=Nl
  have Fa:=Na
  have Fb:=Nb
  have BW:=NB
  clear NB Nl Na Nb
  have Ll:=Fl.out.lt
  obtain ⟨cl0,cl1,cl2,cl3⟩:=cel4 Fl.out
  go_wp2_with fail
  clear Ll cl0 cl1 cl2 cl3
  refine (HL.out _).mono ?_
  rintro e v3 ⟨rfl,z3⟩
  have Nl:=Lib.hid (Fl.out.on z3)
  have Na:=Lib.hid (Fa.out.on z3)
  have Nb:=Lib.hid (Fb.out.on z3)
  have NB:=Lib.hid (bel_tr BW.out z3)
  clear BW z3 Fl Fa Fb
  have Fl:=Nl
  have Fa:=Na
  have Fb:=Nb
  have BW:=NB
  clear NB Nl Na Nb
  have Lb:=Fb.out.lt
  obtain ⟨cb0,cb1,cb2,cb3⟩:=cel4 Fb.out
  go_wp2_with fail
  clear Lb cb0 cb1 cb2 cb3
  refine (HB.out _).mono ?_
  rintro e v4 ⟨rfl,z4⟩
  have Nl:=Lib.hid (Fl.out.on z4)
  have Na:=Lib.hid (Fa.out.on z4)
  have Nb:=Lib.hid (Fb.out.on z4)
  have NB:=Lib.hid (bel_tr BW.out z4)
  clear BW z4 Fl Fa Fb
  have Fl:=Nl
  have Fa:=Na
  have Fb:=Nb
  have BW:=NB
  clear NB Nl Na Nb
  go_wp2_with fail
  all_goals
   go_ret
   refine ⟨?_,BW.out⟩
   have q1:=HM.out;have q2:=HK.out
   refine congrArg Ending.returned (show _=Value.int IntKind.i64 (k:Nat) from congrArg (Value.int IntKind.i64) ?_)
   omega
 ·have h0':(0:Int)<(lr:Int):=by omega
  have hal':al≤512:=by omega
  have gx:(256:Int)+(lr:Int)=(al:Nat):=by omega
  have HM:=Lib.hid hmm;have HK:=Lib.hid hk
  clear hx
  have HM:=Lib.hid hmm;have HK:=Lib.hid hk
  clear hmm hk
  go_enter Tryd.func86,Tryd.ntmps86
  go_wp2_with fail
  have BW:=Lib.hid (Below.refl w.heap.size w)
  have Nl:At (((w.alloc (.cells (ncs R) 24)).alloc (.cells (ncs A) 24)).alloc (.cells (ncs B) 24)) (w.heap.size) 24 (ncs R):=((At.at_ _ _ _ _ (by simp)).alloc _).alloc _
  have Na:At (((w.alloc (.cells (ncs R) 24)).alloc (.cells (ncs A) 24)).alloc (.cells (ncs B) 24)) (w.heap.size+1) 24 (ncs A):=(At.at_ _ _ _ _ (by simp)).alloc _
  have Nb:At (((w.alloc (.cells (ncs R) 24)).alloc (.cells (ncs A) 24)).alloc (.cells (ncs B) 24)) (w.heap.size+1+1) 24 (ncs B):=At.at_ _ _ _ _ (by simp)
  have NB:Below w.heap.size w (((w.alloc (.cells (ncs R) 24)).alloc (.cells (ncs A) 24)).alloc (.cells (ncs B) 24)):=gr_alloc (gr_alloc (gr_alloc BW.out _) _) _
  clear BW 
  generalize (((w.alloc (.cells (ncs R) 24)).alloc (.cells (ncs A) 24)).alloc (.cells (ncs B) 24))=W1 at *
  generalize w.heap.size+1+1=gb at *
  generalize w.heap.size+1=ga at *
  obtain ⟨gl,hg0⟩:∃ g,g=w.heap.size:=⟨_,rfl⟩
  rw [← hg0] at Nl ⊢
  clear hg0
  have Fl:=Lib.hid Nl
  have Fa:=Lib.hid Na
  have Fb:=Lib.hid Nb
  have BW:=Lib.hid NB
  clear NB Nl Na Nb
  refine (HA.out _).mono ?_
  rintro e v2 ⟨rfl,z2⟩
  have Nl:=Lib.hid (Fl.out.on z2)
  have Na:=Lib.hid (Fa.out.on z2)
  have Nb:=Lib.hid (Fb.out.on z2)
  have NB:=Lib.hid (bel_tr BW.out z2)
  clear BW z2 Fl Fa Fb
  have Fl:=Nl
  have Fa:=Na
  have Fb:=Nb
  have BW:=NB
  clear NB Nl Na Nb
  have Ll:=Fl.out.lt
  obtain ⟨cl0,cl1,cl2,cl3⟩:=cel4 Fl.out
  go_wp2_with fail
  clear Ll cl0 cl1 cl2 cl3
  refine (HL.out _).mono ?_
  rintro e v3 ⟨rfl,z3⟩
  have Nl:=Lib.hid (Fl.out.on z3)
  have Na:=Lib.hid (Fa.out.on z3)
  have Nb:=Lib.hid (Fb.out.on z3)
  have NB:=Lib.hid (bel_tr BW.out z3)
  clear BW z3 Fl Fa Fb
  have Fl:=Nl
  have Fa:=Na
  have Fb:=Nb
  have BW:=NB
  clear NB Nl Na Nb
  have Lb:=Fb.out.lt
  obtain ⟨cb0,cb1,cb2,cb3⟩:=cel4 Fb.out
  go_wp2_with fail
  clear Lb cb0 cb1 cb2 cb3
  refine (HB.out _).mono ?_
  rintro e v4 ⟨rfl,z4⟩
  have Nl:=Lib.hid (Fl.out.on z4)
  have Na:=Lib.hid (Fa.out.on z4)
  have Nb:=Lib.hid (Fb.out.on z4)
  have NB:=Lib.hid (bel_tr BW.out z4)
  clear BW z4 Fl Fa Fb
  have Fl:=Nl
  have Fa:=Na
  have Fb:=Nb
  have BW:=NB
  clear NB Nl Na Nb
  go_wp2_with fail
  all_goals
   go_ret
   refine ⟨?_,BW.out⟩
   have q1:=HM.out;have q2:=HK.out
   refine congrArg Ending.returned (show _=Value.int IntKind.i64 (k:Nat) from congrArg (Value.int IntKind.i64) ?_)
   omega

/-- how many bits are gone through -/
def undN (R A B:Nat):Nat:=min ((if R=0 then Go.bitLen A else 256+Go.bitLen R)+1-Go.bitLen B) 256
theorem und_any (R A B:Nat) (hR:R<2^256) (hA:A<2^256) (hB:B<2^256) (w:World) :
  Calls Tryd.prog 86 #[num R,num A,num B] w fun e w'=>e=.returned (.int .i64 (undN R A B:Nat))∧Below w.heap.size w w':=by
 refine und_words R A B (Go.bitLen A) (Go.bitLen R) (Go.bitLen B) (if R=0 then Go.bitLen A else 256+Go.bitLen R) _ _ (bl_le' A hA) (bl_le' R hR) (bl_le' B hB) ?_ rfl rfl (bits_any A hA) (bits_any R hR) (bits_any B hB) w
 by_cases h:R=0
 ·rw [if_pos h];exact Or.inl ⟨by rw [h];decide,rfl⟩
 ·rw [if_neg h];exact Or.inr ⟨bl_pos R h,rfl⟩
end Go.Proofs.YtlphnfajhpkleaaDoor

/-
 divides.step: one bit more of a division.
-/
namespace Go.Proofs.YtlphnfajhpkleaaDoor
open Go.RowKit
set_option linter.unusedSimpArgs false
set_option linter.unusedVariables false

theorem sum4 (x0 x1 x2 x3 y0 y1 y2 y3 s0 s1 s2 s3 b c0 c1 c2 c3 X Y S:Nat) (e0:x0+y0+b=s0+18446744073709551616*c0) (e1:x1+y1+c0=s1+18446744073709551616*c1)
  (e2:x2+y2+c1=s2+18446744073709551616*c2) (e3:x3+y3+c2=s3+18446744073709551616*c3)
  (hX:X=x0+18446744073709551616*x1+340282366920938463463374607431768211456*x2+6277101735386680763835789423207666416102355444464034512896*x3)
  (hY:Y=y0+18446744073709551616*y1+340282366920938463463374607431768211456*y2+6277101735386680763835789423207666416102355444464034512896*y3)
  (hS:S=s0+18446744073709551616*s1+340282366920938463463374607431768211456*s2+6277101735386680763835789423207666416102355444464034512896*s3):X+Y+b=S+2^256*c3:=by omega
theorem word4 (s0 s1 s2 s3 S:Nat) (h0:s0<18446744073709551616) (h1:s1<18446744073709551616) (h2:s2<18446744073709551616) (h3:s3<18446744073709551616)
  (hS:S=s0+18446744073709551616*s1+340282366920938463463374607431768211456*s2+6277101735386680763835789423207666416102355444464034512896*s3):S<2^256:=by omega

/-- divides.step -/
theorem step_ex (R B bit:Nat) (hR:R<B) (hB:B<2^256) (hb:bit≤1):∃ L t:Nat,L<B∧t≤1∧2*R+bit=t*B+L ∧
  ∀ w,Calls Tryd.prog 89 #[num R,num B,.int .u64 (bit:Nat)] w fun e w'=>e=.returned (.tuple #[num L,.int .u64 (t:Nat)])∧Below w.heap.size w w':=by
 obtain ⟨s0,c0,l0,k0,e0,p0,q0⟩:=add_step (wd R 0) (wd R 0) bit (wd_lt _ _) (wd_lt _ _) hb
 obtain ⟨s1,c1,l1,k1,e1,p1,q1⟩:=add_step (wd R 1) (wd R 1) c0 (wd_lt _ _) (wd_lt _ _) (by omega)
 obtain ⟨s2,c2,l2,k2,e2,p2,q2⟩:=add_step (wd R 2) (wd R 2) c1 (wd_lt _ _) (wd_lt _ _) (by omega)
 obtain ⟨s3,c3,l3,k3,e3,p3,q3⟩:=add_step (wd R 3) (wd R 3) c2 (wd_lt _ _) (wd_lt _ _) (by omega)
 obtain ⟨d0,f0,m0,n0,g0,u0,v0⟩:=sub_step s0 (wd B 0) 0 l0 (wd_lt _ _) (by omega)
 obtain ⟨d1,f1,m1,n1,g1,u1,v1⟩:=sub_step s1 (wd B 1) f0 l1 (wd_lt _ _) (by omega)
 obtain ⟨d2,f2,m2,n2,g2,u2,v2⟩:=sub_step s2 (wd B 2) f1 l2 (wd_lt _ _) (by omega)
 obtain ⟨d3,f3,m3,n3,g3,u3,v3⟩:=sub_step s3 (wd B 3) f2 l3 (wd_lt _ _) (by omega)
 have C:=fun w=>step_words (wd R 0) (wd R 1) (wd R 2) (wd R 3) (wd B 0) (wd B 1) (wd B 2) (wd B 3) bit w s0 s1 s2 s3 c0 c1 c2 c3 d0 d1 d2 d3 f0 f1 f2 f3 (fun w=>add64 _ _ _ _ _ hb p0 q0 w) (fun w=>add64 _ _ _ _ _ k0 p1 q1 w) (fun w=>add64 _ _ _ _ _ k1 p2 q2 w) (fun w=>add64 _ _ _ _ _ k2 p3 q3 w)
  (fun w=>sub64 _ _ 0 _ _ (by omega) u0 v0 w) (fun w=>sub64 _ _ _ _ _ n0 u1 v1 w) (fun w=>sub64 _ _ _ _ _ n1 u2 v2 w) (fun w=>sub64 _ _ _ _ _ n2 u3 v3 w)
 clear p0 p1 p2 p3 q0 q1 q2 q3 u0 u1 u2 u3 v0 v1 v2 v3
 have sR:=wd_sum R (Nat.lt_trans hR hB)
 have sB:=wd_sum B hB
 obtain ⟨S,hS⟩:∃ S,S=s0+18446744073709551616*s1+340282366920938463463374607431768211456*s2+6277101735386680763835789423207666416102355444464034512896*s3:=⟨_,rfl⟩
 obtain ⟨D,hD⟩:∃ D,D=d0+18446744073709551616*d1+340282366920938463463374607431768211456*d2+6277101735386680763835789423207666416102355444464034512896*d3:=⟨_,rfl⟩
 rw [num_of s0 s1 s2 s3 l0 l1 l2 l3 S hS,num_of d0 d1 d2 d3 m0 m1 m2 m3 D hD] at C
 have r1:R+R+bit=S+2^256*c3:=sum4 _ _ _ _ _ _ _ _ _ _ _ _ _ _ _ _ _ _ _ _ e0 e1 e2 e3 sR sR hS
 have r2:D+B+0=S+2^256*f3:=sum4 _ _ _ _ _ _ _ _ _ _ _ _ _ _ _ _ _ _ _ _ g0.symm g1.symm g2.symm g3.symm hD sB hS
 have r3:S<2^256:=word4 _ _ _ _ _ l0 l1 l2 l3 hS
 have r4:D<2^256:=word4 _ _ _ _ _ m0 m1 m2 m3 hD
 clear sR sB hS hD e0 e1 e2 e3 g0 g1 g2 g3 l0 l1 l2 l3 m0 m1 m2 m3 k0 k1 k2 n0 n1 n2
 by_cases h:c3<f3
 ·rw [if_pos h] at C
  refine ⟨S,0,?_,by omega,?_,C⟩
  ·clear C;omega
  ·clear C;omega
 ·rw [if_neg h] at C
  refine ⟨D,1,?_,by omega,?_,C⟩
  ·clear C;omega
  ·clear C;omega
end Go.Proofs.YtlphnfajhpkleaaDoor

/-
 The numbers behind divides.behind: a number of 512 bits,gone through from a bit on.
-/
namespace Go.Proofs.YtlphnfajhpkleaaDoor
set_option maxRecDepth 100000
open Go.RowKit
set_option linter.unusedSimpArgs false
set_option linter.unusedVariables false

/-- R,and A behind it -/
def wide (R A:Nat):Nat:=R*2^256+A

theorem und_le (R A B:Nat):undN R A B≤256:=Nat.min_le_right _ _
theorem wide_lt (R A:Nat) (hA:A<2^256):wide R A<2^(if R=0 then Go.bitLen A else 256+Go.bitLen R):=by
 unfold wide
 by_cases h:R=0
 ·rw [if_pos h,h];simpa using (Go.bitLen_spec A).1
 ·rw [if_neg h]
  have h1:=(Go.bitLen_spec R).1
  have:(R+1)*2^256≤2^Go.bitLen R*2^256:=Nat.mul_le_mul_right _ h1
  rw [Nat.pow_add,Nat.mul_comm (2^256)]
  rw [Nat.add_mul] at this
  omega
theorem wide_div (R A m:Nat) (hm:m≤256):wide R A/2^m=R*2^(256-m)+A/2^m:=by
 unfold wide
 have e:(2:Nat)^256=2^(256-m)*2^m:=by rw [← Nat.pow_add];congr 1;omega
 rw [e,← Nat.mul_assoc,Nat.add_comm,Nat.add_mul_div_right _ _ (Nat.two_pow_pos m),Nat.add_comm]
theorem und_top (R A B:Nat) (hR:R<B) (hA:A<2^256):wide R A/2^undN R A B<B:=by
 have hw:=wide_lt R A hA
 unfold undN
 obtain ⟨al,hal⟩:∃ al,al=(if R=0 then Go.bitLen A else 256+Go.bitLen R):=⟨_,rfl⟩
 rw [← hal] at hw ⊢
 clear hal
 have hb:=(Go.bitLen_spec B).2 (by omega)
 by_cases h:256≤al+1-Go.bitLen B
 ·rw [Nat.min_eq_right h,wide_div R A 256 (Nat.le_refl _)]
  rw [Nat.div_eq_of_lt hA]
  simpa using hR
 ·rw [Nat.min_eq_left (by omega)]
  refine Nat.lt_of_lt_of_le (Nat.div_lt_of_lt_mul ?_) hb
  rw [← Nat.pow_add]
  refine Nat.lt_of_lt_of_le hw (Nat.pow_le_pow_right (by decide) ?_)
  omega
/-- what stands ahead -/
theorem und_ahead (R A B:Nat) (hR:R<B) (hB:B<2^256) (hA:A<2^256) (m:Nat) (hm:m=undN R A B) :
  shN R (256-(m:Int))+shN A (-(m:Int))=wide R A/2^m:=by
 have h1:=und_le R A B
 have h2:=und_top R A B hR hA
 rw [← hm] at h1 h2
 have h3:=wide_div R A m h1
 have e1:shN R (256-(m:Int))=R*2^(256-m):=by
  unfold shN
  rw [if_pos (by omega),show (256-(m:Int)).toNat=256-m by omega,Nat.mod_eq_of_lt (by rw [h3] at h2;exact Nat.lt_of_le_of_lt (Nat.le_add_right _ _) (Nat.lt_trans h2 hB))]
 have e2:shN A (-(m:Int))=A/2^m:=by
  unfold shN
  by_cases h0:m=0
  ·subst h0;simp;exact hA
  ·rw [if_neg (by omega)];congr 2;omega
 rw [e1,e2,h3]
theorem wide_bit (R A p:Nat) (hp:p<256):wide R A/2^p%2=bt A (p:Int):=by
 rw [wide_div R A p (by omega)]
 unfold bt
 rw [if_neg (by omega),Int.toNat_natCast]
 have:(2:Nat)^(256-p)=2*2^(255-p):=by rw [← Nat.pow_succ'];congr 1;omega
 rw [this,show R*(2*2^(255-p))=2*(R*2^(255-p)) by ac_rfl]
 omega
theorem wide_half (T p:Nat):T/2^p=2*(T/2^(p+1))+T/2^p%2:=by
 rw [Nat.pow_succ,← Nat.div_div_eq_div_mul];omega
/-- a round -/
theorem beh_round (R A B p Q r L t:Nat) (hp:p<256) (h:wide R A/2^(p+1)=Q*B+r) (hs:2*r+bt A (p:Int)=t*B+L):wide R A/2^p=(2*Q+t)*B+L:=by
 rw [wide_half,wide_bit R A p hp,h,Nat.add_mul]
 have:2*(Q*B)=2*Q*B:=by rw [Nat.mul_assoc]
 omega
/-- one bit more in the words of a number that has none there,nor below -/
theorem bit_in (Q p t:Nat) (ht:t≤1) (k j:Nat) (hk:k=p/64) (hj:j=p%64):(wd (Q*2^(p+1)) k ||| t*2^j)=wd ((2*Q+t)*2^p) k∧t*2^j<18446744073709551616 ∧
  ∀ i,i≠k→wd ((2*Q+t)*2^p) i=wd (Q*2^(p+1)) i:=by
 have hp:p=64*k+j:=by omega
 have hj':j<64:=by omega
 have e:Q*2^(p+1)=2*Q*2^p:=by rw [Nat.pow_succ];ac_rfl
 have tbit:∀ n,(2*Q+t).testBit (n+1)=(2*Q).testBit (n+1):=fun n=>by
  rw [Nat.testBit_add_one,Nat.testBit_add_one];congr 1;omega
 have t0:(2*Q+t).testBit 0=t.testBit 0:=by rw [Nat.testBit_zero,Nat.testBit_zero];congr 1;rw [Nat.add_mod,Nat.mul_mod_right];simp
 have s0:(2*Q).testBit 0=false:=by rw [Nat.testBit_zero,Nat.mul_mod_right];rfl
 have tb1:∀ n,t.testBit (n+1)=false:=fun n=>by
  rw [Nat.testBit_add_one]
  have:t/2=0:=by omega
  rw [this,Nat.zero_testBit]
 have two:t*2^j≤2^j:=by
  have:=Nat.mul_le_mul_right (2^j) ht;omega
 have jle:(2:Nat)^j≤2^63:=Nat.pow_le_pow_right (by decide) (by omega)
 refine ⟨?_,by omega,fun i hi=>?_⟩
 ·refine Nat.eq_of_testBit_eq fun n=>?_
  rw [Nat.testBit_or,wd_tb,wd_tb,e,Nat.testBit_mul_two_pow,Nat.testBit_mul_two_pow,Nat.testBit_mul_two_pow]
  by_cases hn:n<64
  ·by_cases h1:j≤n
   ·have g1:p≤64*k+n:=by omega
    have g2:64*k+n-p=n-j:=by omega
    simp only [hn,h1,g1,g2,decide_true,Bool.true_and]
    rcases Nat.eq_zero_or_pos (n-j) with h2 | h2
    ·rw [h2,s0,t0];simp
    ·obtain ⟨q,hq⟩:∃ q,n-j=q+1:=⟨n-j-1,by omega⟩
     rw [hq,tbit,tb1];simp
   ·have g1:¬ p≤64*k+n:=by omega
    simp [h1,g1]
  ·have g:¬ n<64:=hn
   simp only [g,decide_false,Bool.false_and,Bool.false_or]
   by_cases h1:j≤n
   ·obtain ⟨q,hq⟩:∃ q,n-j=q+1:=⟨n-j-1,by omega⟩
    rw [hq,tb1];simp
   ·simp [h1]
 ·refine Nat.eq_of_testBit_eq fun n=>?_
  rw [wd_tb,wd_tb,e,Nat.testBit_mul_two_pow,Nat.testBit_mul_two_pow]
  by_cases hn:n<64
  ·by_cases h1:p≤64*i+n
   ·obtain ⟨q,hq⟩:∃ q,64*i+n-p=q+1:=⟨64*i+n-p-1,by omega⟩
    rw [hq,tbit]
   ·simp [h1]
  ·simp [hn]
end Go.Proofs.YtlphnfajhpkleaaDoor

/-
 A long number is equal to itself;limbs.Of(0),Of(1).
-/
namespace Go.Proofs.YtlphnfajhpkleaaDoor
set_option maxRecDepth 100000
open Go.RowKit
set_option linter.unusedSimpArgs false
set_option linter.unusedVariables false

theorem eqY (X:Nat) (w:World):(Op.equalIn 10000 24 (num X) (num X)).run Tryd.prog w=.ok true w:=by rw [eqW];simp
end Go.Proofs.YtlphnfajhpkleaaDoor

/-
 balefireref02.Digits: sixteen digits of sixteen bits.
-/
namespace Go.Proofs.YtlphnfajhpkleaaDoor
set_option maxRecDepth 100000
open Go.RowKit
set_option linter.unusedSimpArgs false
set_option linter.unusedVariables false
attribute [local go_sem ↓] Go.wp_at_zero Go.wp_at_succ

/-- digit k of X -/
def dg (X k:Nat):Nat:=X/65536^k%65536
/-- all digits -/
def ds (X:Nat):List Nat:=[dg X 0,dg X 1,dg X 2,dg X 3,dg X 4,dg X 5,dg X 6,dg X 7,dg X 8,dg X 9,dg X 10,dg X 11,dg X 12,dg X 13,dg X 14,dg X 15]
end Go.Proofs.YtlphnfajhpkleaaDoor

/-
 The numbers behind LimbsShift.
-/
namespace Go.Proofs.YtlphnfajhpkleaaDoor
set_option maxRecDepth 100000
open Go.RowKit
set_option linter.unusedSimpArgs false
set_option linter.unusedVariables false

end Go.Proofs.YtlphnfajhpkleaaDoor
