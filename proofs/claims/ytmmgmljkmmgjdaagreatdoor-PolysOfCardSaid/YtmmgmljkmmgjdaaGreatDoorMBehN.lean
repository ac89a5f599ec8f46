import Derived.Deep.DeepCutAuto
import Derived.Test.YtmmgmljkmmgjdaaGreatDoorMCoreH
import Derived.Test.YtmmgmljkmmgjdaaGreatDoorMRbits
import Derived.Test.YtmmgmljkmmgjdaaGreatDoorMTree
namespace Go.Proofs.YtmmgmljkmmgjdaaGreatDoor
set_option maxRecDepth 100000
open Go.RowKit
set_option linter.unusedSimpArgs false
set_option linter.unusedVariables false
attribute [local go_sem ↓] Go.wp_at_zero Go.wp_at_succ

theorem Jig (X:Nat) (hX:X<2^256):Go.bitLen X≤256:=by
 have h:=Go.bitLen_spec X
 by_cases h0:X=0
 ·subst h0;decide
 ·have h2:=h.2 h0
  by_cases hc:Go.bitLen X≤256
  ·exact hc
  ·exfalso
   have:2^256≤2^(Go.bitLen X-1):=Nat.pow_le_pow_right (by decide) (by omega)
   omega
theorem bl_pos (X:Nat) (h:X≠0):0<Go.bitLen X:=by
 have h1:=(Go.bitLen_spec X).1
 rcases Nat.eq_zero_or_pos (Go.bitLen X) with e | e
 ·rw [e] at h1;omega
 ·exact e

set_option maxRecDepth 20000 in
set_option maxHeartbeats 1000000 in
theorem und_words (R A B la lr lb al k mm:Nat) (hla:la≤256) (hlr:lr≤256) (hlb:lb≤256) (hal:lr=0∧al=la∨0<lr∧al=256+lr)
  (hmm:mm=al+1-lb) (hk:k=min mm 256)
  (CA:∀ w,Calls Tryz.prog 172 #[num A] w fun e w'=>e=.returned (.int .i64 (la:Nat))∧Below w.heap.size w w')
  (CL:∀ w,Calls Tryz.prog 172 #[num R] w fun e w'=>e=.returned (.int .i64 (lr:Nat))∧Below w.heap.size w w')
  (CB:∀ w,Calls Tryz.prog 172 #[num B] w fun e w'=>e=.returned (.int .i64 (lb:Nat))∧Below w.heap.size w w') (w:World) :
  Calls Tryz.prog 223 #[num R,num A,num B] w fun e w'=>e=.returned (.int .i64 (k:Nat))∧Below w.heap.size w w':=by
 have HA:=Jja CA;have HL:=Jja CL;have HB:=Jja CB
 clear CA CL CB
 rcases hal with ⟨rfl,rfl⟩ | ⟨h0,hx⟩
 ·have e1:(if ((al:Int)-lb+1)<0 then 0 else ((al:Int)-lb+1))=(mm:Nat):=by split <;> omega
  have HM:=Jja hmm;have HK:=Jja hk
  clear hmm hk
  go_enter Tryz.func223,Tryz.ntmps223
  go_wp2_with fail
  have BW:=Jja (Below.refl w.heap.size w)
  have Nl:At (((w.alloc (.cells (ncs R) 24)).alloc (.cells (ncs A) 24)).alloc (.cells (ncs B) 24)) (w.heap.size) 24 (ncs R):=((At.at_ _ _ _ _ (by simp)).alloc _).alloc _
  have Na:At (((w.alloc (.cells (ncs R) 24)).alloc (.cells (ncs A) 24)).alloc (.cells (ncs B) 24)) (w.heap.size+1) 24 (ncs A):=(At.at_ _ _ _ _ (by simp)).alloc _
  have Nb:At (((w.alloc (.cells (ncs R) 24)).alloc (.cells (ncs A) 24)).alloc (.cells (ncs B) 24)) (w.heap.size+1+1) 24 (ncs B):=At.at_ _ _ _ _ (by simp)
  have NB:Below w.heap.size w (((w.alloc (.cells (ncs R) 24)).alloc (.cells (ncs A) 24)).alloc (.cells (ncs B) 24)):=Jd (Jd (Jd BW.out _) _) _
  clear BW 
  generalize (((w.alloc (.cells (ncs R) 24)).alloc (.cells (ncs A) 24)).alloc (.cells (ncs B) 24))=W1 at *
  generalize w.heap.size+1+1=gb at *
  generalize w.heap.size+1=ga at *
  obtain ⟨gl,hg0⟩:∃ g,g=w.heap.size:=⟨_,rfl⟩
  rw [← hg0] at Nl ⊢
  clear hg0
  have Fl:=Jja Nl
  have Fa:=Jja Na
  have Fb:=Jja Nb
  have BW:=Jja NB
  clear NB Nl Na Nb
  refine (HA.out _).mono ?_
  rintro e v2 ⟨rfl,z2⟩
  have Nl:=Jja (Fl.out.on z2)
  have Na:=Jja (Fa.out.on z2)
  have Nb:=Jja (Fb.out.on z2)
  have NB:=Jja (Jr BW.out z2)
  clear BW z2 Fl Fa Fb
  have Fl:=Nl
  have Fa:=Na
  have Fb:=Nb
  have BW:=NB
  clear NB Nl Na Nb
  have Ll:=Fl.out.lt
  obtain ⟨cl0,cl1,cl2,cl3⟩:=Kj Fl.out
  go_wp2_with fail
  clear Ll cl0 cl1 cl2 cl3
  refine (HL.out _).mono ?_
  rintro e v3 ⟨rfl,z3⟩
  have Nl:=Jja (Fl.out.on z3)
  have Na:=Jja (Fa.out.on z3)
  have Nb:=Jja (Fb.out.on z3)
  have NB:=Jja (Jr BW.out z3)
  clear BW z3 Fl Fa Fb
  have Fl:=Nl
  have Fa:=Na
  have Fb:=Nb
  have BW:=NB
  clear NB Nl Na Nb
  have Lb:=Fb.out.lt
  obtain ⟨cb0,cb1,cb2,cb3⟩:=Kj Fb.out
  go_wp2_with fail
  clear Lb cb0 cb1 cb2 cb3
  refine (HB.out _).mono ?_
  rintro e v4 ⟨rfl,z4⟩
  have Nl:=Jja (Fl.out.on z4)
  have Na:=Jja (Fa.out.on z4)
  have Nb:=Jja (Fb.out.on z4)
  have NB:=Jja (Jr BW.out z4)
  clear BW z4 Fl Fa Fb
  have Fl:=Nl
  have Fa:=Na
  have Fb:=Nb
  have BW:=NB
  clear NB Nl Na Nb
  go_wp2_with fail
  all_goals
   go_ret
   refine ⟨?_,BW.out⟩
   have q1:=HM.out;have q2:=HK.out
   refine congrArg Ending.returned (show _=Value.int IntKind.i64 (k:Nat) from congrArg (Value.int IntKind.i64) ?_)
   omega
 ·have h0':(0:Int)<(lr:Int):=by omega
  have hal':al≤512:=by omega
  have gx:(256:Int)+(lr:Int)=(al:Nat):=by omega
  have HM:=Jja hmm;have HK:=Jja hk
  clear hx
  have HM:=Jja hmm;have HK:=Jja hk
  clear hmm hk
  go_enter Tryz.func223,Tryz.ntmps223
  go_wp2_with fail
  have BW:=Jja (Below.refl w.heap.size w)
  have Nl:At (((w.alloc (.cells (ncs R) 24)).alloc (.cells (ncs A) 24)).alloc (.cells (ncs B) 24)) (w.heap.size) 24 (ncs R):=((At.at_ _ _ _ _ (by simp)).alloc _).alloc _
  have Na:At (((w.alloc (.cells (ncs R) 24)).alloc (.cells (ncs A) 24)).alloc (.cells (ncs B) 24)) (w.heap.size+1) 24 (ncs A):=(At.at_ _ _ _ _ (by simp)).alloc _
  have Nb:At (((w.alloc (.cells (ncs R) 24)).alloc (.cells (ncs A) 24)).alloc (.cells (ncs B) 24)) (w.heap.size+1+1) 24 (ncs B):=At.at_ _ _ _ _ (by simp)
  have NB:Below w.heap.size w (((w.alloc (.cells (ncs R) 24)).alloc (.cells (ncs A) 24)).alloc (.cells (ncs B) 24)):=Jd (Jd (Jd BW.out _) _) _
  clear BW 
  generalize (((w.alloc (.cells (ncs R) 24)).alloc (.cells (ncs A) 24)).alloc (.cells (ncs B) 24))=W1 at *
  generalize w.heap.size+1+1=gb at *
  generalize w.heap.size+1=ga at *
  obtain ⟨gl,hg0⟩:∃ g,g=w.heap.size:=⟨_,rfl⟩
  rw [← hg0] at Nl ⊢
  clear hg0
  have Fl:=Jja Nl
  have Fa:=Jja Na
  have Fb:=Jja Nb
  have BW:=Jja NB
  clear NB Nl Na Nb
  refine (HA.out _).mono ?_
  rintro e v2 ⟨rfl,z2⟩
  have Nl:=Jja (Fl.out.on z2)
  have Na:=Jja (Fa.out.on z2)
  have Nb:=Jja (Fb.out.on z2)
  have NB:=Jja (Jr BW.out z2)
  clear BW z2 Fl Fa Fb
  have Fl:=Nl
  have Fa:=Na
  have Fb:=Nb
  have BW:=NB
  clear NB Nl Na Nb
  have Ll:=Fl.out.lt
  obtain ⟨cl0,cl1,cl2,cl3⟩:=Kj Fl.out
  go_wp2_with fail
  clear Ll cl0 cl1 cl2 cl3
  refine (HL.out _).mono ?_
  rintro e v3 ⟨rfl,z3⟩
  have Nl:=Jja (Fl.out.on z3)
  have Na:=Jja (Fa.out.on z3)
  have Nb:=Jja (Fb.out.on z3)
  have NB:=Jja (Jr BW.out z3)
  clear BW z3 Fl Fa Fb
  have Fl:=Nl
  have Fa:=Na
  have Fb:=Nb
  have BW:=NB
  clear NB Nl Na Nb
  have Lb:=Fb.out.lt
  obtain ⟨cb0,cb1,cb2,cb3⟩:=Kj Fb.out
  go_wp2_with fail
  clear Lb cb0 cb1 cb2 cb3
  refine (HB.out _).mono ?_
  rintro e v4 ⟨rfl,z4⟩
  have Nl:=Jja (Fl.out.on z4)
  have Na:=Jja (Fa.out.on z4)
  have Nb:=Jja (Fb.out.on z4)
  have NB:=Jja (Jr BW.out z4)
  clear BW z4 Fl Fa Fb
  have Fl:=Nl
  have Fa:=Na
  have Fb:=Nb
  have BW:=NB
  clear NB Nl Na Nb
  go_wp2_with fail
  all_goals
   go_ret
   refine ⟨?_,BW.out⟩
   have q1:=HM.out;have q2:=HK.out
   refine congrArg Ending.returned (show _=Value.int IntKind.i64 (k:Nat) from congrArg (Value.int IntKind.i64) ?_)
   omega

def Jik (R A B:Nat):Nat:=min ((if R=0 then Go.bitLen A else 256+Go.bitLen R)+1-Go.bitLen B) 256
theorem und_any (R A B:Nat) (hR:R<2^256) (hA:A<2^256) (hB:B<2^256) (w:World) :
  Calls Tryz.prog 223 #[num R,num A,num B] w fun e w'=>e=.returned (.int .i64 (Jik R A B:Nat))∧Below w.heap.size w w':=by
 refine und_words R A B (Go.bitLen A) (Go.bitLen R) (Go.bitLen B) (if R=0 then Go.bitLen A else 256+Go.bitLen R) _ _ (Jig A hA) (Jig R hR) (Jig B hB) ?_ rfl rfl (Jej A hA) (Jej R hR) (Jej B hB) w
 by_cases h:R=0
 ·rw [if_pos h];exact Or.inl ⟨by rw [h];decide,rfl⟩
 ·rw [if_neg h];exact Or.inr ⟨bl_pos R h,rfl⟩
set_option maxHeartbeats 2000000 in
theorem step_words (a0 a1 a2 a3 b0 b1 b2 b3 bit:Nat) (w:World) (s0 s1 s2 s3 c0 c1 c2 c3 d0 d1 d2 d3 e0 e1 e2 e3:Nat)
  (h0:∀ w,(callFunc 220 #[.int .u64 a0,.int .u64 a0,.int .u64 bit]).run Tryz.prog w=.ok (.value (.tuple #[.int .u64 s0,.int .u64 c0])) w)
  (h1:∀ w,(callFunc 220 #[.int .u64 a1,.int .u64 a1,.int .u64 c0]).run Tryz.prog w=.ok (.value (.tuple #[.int .u64 s1,.int .u64 c1])) w)
  (h2:∀ w,(callFunc 220 #[.int .u64 a2,.int .u64 a2,.int .u64 c1]).run Tryz.prog w=.ok (.value (.tuple #[.int .u64 s2,.int .u64 c2])) w)
  (h3:∀ w,(callFunc 220 #[.int .u64 a3,.int .u64 a3,.int .u64 c2]).run Tryz.prog w=.ok (.value (.tuple #[.int .u64 s3,.int .u64 c3])) w)
  (k0:∀ w,(callFunc 198 #[.int .u64 s0,.int .u64 b0,.int .u64 0]).run Tryz.prog w=.ok (.value (.tuple #[.int .u64 d0,.int .u64 e0])) w)
  (k1:∀ w,(callFunc 198 #[.int .u64 s1,.int .u64 b1,.int .u64 e0]).run Tryz.prog w=.ok (.value (.tuple #[.int .u64 d1,.int .u64 e1])) w)
  (k2:∀ w,(callFunc 198 #[.int .u64 s2,.int .u64 b2,.int .u64 e1]).run Tryz.prog w=.ok (.value (.tuple #[.int .u64 d2,.int .u64 e2])) w)
  (k3:∀ w,(callFunc 198 #[.int .u64 s3,.int .u64 b3,.int .u64 e2]).run Tryz.prog w=.ok (.value (.tuple #[.int .u64 d3,.int .u64 e3])) w) :
  Calls Tryz.prog 226 #[.agg #[.int .u64 a0,.int .u64 a1,.int .u64 a2,.int .u64 a3],.agg #[.int .u64 b0,.int .u64 b1,.int .u64 b2,.int .u64 b3],.int .u64 bit] w fun e w'=>
   e=.returned (if c3<e3 then .tuple #[.agg #[.int .u64 s0,.int .u64 s1,.int .u64 s2,.int .u64 s3],.int .u64 0] else .tuple #[.agg #[.int .u64 d0,.int .u64 d1,.int .u64 d2,.int .u64 d3],.int .u64 1])∧Below w.heap.size w w':=by
 by_cases hc:c3<e3
 ·have hc':(c3:Int)<(e3:Int):=by omega
  rw [if_pos hc]
  clear hc
  go_enter Tryz.func226,Tryz.ntmps226
  go_upto_region 3 with fail
  generalize hW0:((((w.alloc (.cells #[.int .u64 a0,.int .u64 a1,.int .u64 a2,.int .u64 a3] 272)).alloc (.cells #[.int .u64 b0,.int .u64 b1,.int .u64 b2,.int .u64 b3] 272)).alloc (.cells #[.int .u64 0,.int .u64 0,.int .u64 0,.int .u64 0] 272)).alloc (.cells #[.int .u64 0,.int .u64 0,.int .u64 0,.int .u64 0] 272))=W0 at *
  have Nr:At W0 (w.heap.size) _ _:=Jf hW0 ((((At.at_ _ _ _ _ (by simp)).alloc _).alloc _).alloc _)
  have Nb:At W0 (w.heap.size+1) _ _:=Jf hW0 (((At.at_ _ _ _ _ (by simp)).alloc _).alloc _)
  have Nl:At W0 (w.heap.size+1+1) _ _:=Jf hW0 ((At.at_ _ _ _ _ (by simp)).alloc _)
  have Nt:At W0 (w.heap.size+1+1+1) _ _:=Jf hW0 (At.at_ _ _ _ _ (by simp))
  have NB:=Ka hW0 (Jd (Jd (Jd (Jd (Below.refl _ _) _) _) _) _)
  have Dlt:w.heap.size+1+1≠w.heap.size+1+1+1:=by omega
  have Drt:w.heap.size≠w.heap.size+1+1+1:=by omega
  have Dbt:w.heap.size+1≠w.heap.size+1+1+1:=by omega
  have Drl:w.heap.size≠w.heap.size+1+1:=by omega
  have Dbl:w.heap.size+1≠w.heap.size+1+1:=by omega
  have El:w.heap.size≤w.heap.size+1+1:=by omega
  have Et:w.heap.size≤w.heap.size+1+1+1:=by omega
  clear hW0
  generalize w.heap.size+1+1+1=gt at *
  generalize w.heap.size+1+1=gl at *
  generalize w.heap.size+1=gb at *
  obtain ⟨gr,hgr⟩:∃ gr,gr=w.heap.size:=⟨_,rfl⟩
  rw [← hgr] at Nr Drt Drl ⊢
  have HG:=Jja hgr
  clear hgr
  have HDlt:=Jja Dlt
  have HDrt:=Jja Drt
  have HDbt:=Jja Dbt
  have HDrl:=Jja Drl
  have HDbl:=Jja Dbl
  have HEl:=Jja El
  have HEt:=Jja Et
  clear Dlt Drt Dbt Drl Dbl El Et
  have Fr:=Jja Nr
  have Fb:=Jja Nb
  have Fl:=Jja Nl
  have Ft:=Jja Nt
  have BW:=Jja NB
  clear NB Nr Nb Nl Nt
  have cr:W0.cell? ⟨gr,0,none⟩=some (.int .u64 a0):=Fr.out.cell 0
  have ct:W0.cell? ⟨gt,0,none⟩=some (.int .u64 0):=Ft.out.cell 0
  have fz:W0.frozen? ⟨gt,0,none⟩=false:=Ft.out.frozen 0
  go_upto_region 4 with (simp only [h0])
  generalize hW1:(W0.setCell ⟨gt,0,none⟩ (.int .u64 s0))=W1 at *
  clear fz cr ct
  have Nt:=Jf hW1 (Ft.out.set 0 _)
  have Nr:=Jf hW1 (Fr.out.far (by exact fun e=>HDrt.out e.symm) _)
  have Nb:=Jf hW1 (Fb.out.far (by exact fun e=>HDbt.out e.symm) _)
  have Nl:=Jf hW1 (Fl.out.far (by exact fun e=>HDlt.out e.symm) _)
  have NB:=Ka hW1 (BW.out.setCell HEt.out _)
  clear BW Fr Fb Fl Ft
  clear hW1
  have Fr:=Jja Nr
  have Fb:=Jja Nb
  have Fl:=Jja Nl
  have Ft:=Jja Nt
  have BW:=Jja NB
  clear NB Nr Nb Nl Nt
  have cr:W1.cell? ⟨gr,1,none⟩=some (.int .u64 a1):=Fr.out.cell 1
  have ct:W1.cell? ⟨gt,1,none⟩=some (.int .u64 0):=Ft.out.cell 1
  have fz:W1.frozen? ⟨gt,1,none⟩=false:=Ft.out.frozen 1
  go_upto_region 5 with (simp only [h1])
  generalize hW2:(W1.setCell ⟨gt,1,none⟩ (.int .u64 s1))=W2 at *
  clear fz cr ct
  have Nt:=Jf hW2 (Ft.out.set 1 _)
  have Nr:=Jf hW2 (Fr.out.far (by exact fun e=>HDrt.out e.symm) _)
  have Nb:=Jf hW2 (Fb.out.far (by exact fun e=>HDbt.out e.symm) _)
  have Nl:=Jf hW2 (Fl.out.far (by exact fun e=>HDlt.out e.symm) _)
  have NB:=Ka hW2 (BW.out.setCell HEt.out _)
  clear BW Fr Fb Fl Ft
  clear hW2
  have Fr:=Jja Nr
  have Fb:=Jja Nb
  have Fl:=Jja Nl
  have Ft:=Jja Nt
  have BW:=Jja NB
  clear NB Nr Nb Nl Nt
  have cr:W2.cell? ⟨gr,2,none⟩=some (.int .u64 a2):=Fr.out.cell 2
  have ct:W2.cell? ⟨gt,2,none⟩=some (.int .u64 0):=Ft.out.cell 2
  have fz:W2.frozen? ⟨gt,2,none⟩=false:=Ft.out.frozen 2
  go_upto_region 6 with (simp only [h2])
  generalize hW3:(W2.setCell ⟨gt,2,none⟩ (.int .u64 s2))=W3 at *
  clear fz cr ct
  have Nt:=Jf hW3 (Ft.out.set 2 _)
  have Nr:=Jf hW3 (Fr.out.far (by exact fun e=>HDrt.out e.symm) _)
  have Nb:=Jf hW3 (Fb.out.far (by exact fun e=>HDbt.out e.symm) _)
  have Nl:=Jf hW3 (Fl.out.far (by exact fun e=>HDlt.out e.symm) _)
  have NB:=Ka hW3 (BW.out.setCell HEt.out _)
  clear BW Fr Fb Fl Ft
  clear hW3
  have Fr:=Jja Nr
  have Fb:=Jja Nb
  have Fl:=Jja Nl
  have Ft:=Jja Nt
  have BW:=Jja NB
  clear NB Nr Nb Nl Nt
  have cr:W3.cell? ⟨gr,3,none⟩=some (.int .u64 a3):=Fr.out.cell 3
  have ct:W3.cell? ⟨gt,3,none⟩=some (.int .u64 0):=Ft.out.cell 3
  have fz:W3.frozen? ⟨gt,3,none⟩=false:=Ft.out.frozen 3
  go_upto_region 7 with (simp only [h3])
  generalize hW4:(W3.setCell ⟨gt,3,none⟩ (.int .u64 s3))=W4 at *
  clear fz cr ct
  have Nt:=Jf hW4 (Ft.out.set 3 _)
  have Nr:=Jf hW4 (Fr.out.far (by exact fun e=>HDrt.out e.symm) _)
  have Nb:=Jf hW4 (Fb.out.far (by exact fun e=>HDbt.out e.symm) _)
  have Nl:=Jf hW4 (Fl.out.far (by exact fun e=>HDlt.out e.symm) _)
  have NB:=Ka hW4 (BW.out.setCell HEt.out _)
  clear BW Fr Fb Fl Ft
  clear hW4
  have Fr:=Jja Nr
  have Fb:=Jja Nb
  have Fl:=Jja Nl
  have Ft:=Jja Nt
  have BW:=Jja NB
  clear NB Nr Nb Nl Nt
  have ct:W4.cell? ⟨gt,0,none⟩=some (.int .u64 s0):=Ft.out.cell 0
  have cb:W4.cell? ⟨gb,0,none⟩=some (.int .u64 b0):=Fb.out.cell 0
  have cl:W4.cell? ⟨gl,0,none⟩=some (.int .u64 0):=Fl.out.cell 0
  have fz:W4.frozen? ⟨gl,0,none⟩=false:=Fl.out.frozen 0
  go_upto_region 8 with (simp only [k0])
  generalize hW5:(W4.setCell ⟨gl,0,none⟩ (.int .u64 d0))=W5 at *
  clear fz ct cb cl
  have Nl:=Jf hW5 (Fl.out.set 0 _)
  have Nr:=Jf hW5 (Fr.out.far (by exact fun e=>HDrl.out e.symm) _)
  have Nb:=Jf hW5 (Fb.out.far (by exact fun e=>HDbl.out e.symm) _)
  have Nt:=Jf hW5 (Ft.out.far (by exact fun e=>HDlt.out.symm e.symm) _)
  have NB:=Ka hW5 (BW.out.setCell HEl.out _)
  clear BW Fr Fb Fl Ft
  clear hW5
  have Fr:=Jja Nr
  have Fb:=Jja Nb
  have Fl:=Jja Nl
  have Ft:=Jja Nt
  have BW:=Jja NB
  clear NB Nr Nb Nl Nt
  have ct:W5.cell? ⟨gt,1,none⟩=some (.int .u64 s1):=Ft.out.cell 1
  have cb:W5.cell? ⟨gb,1,none⟩=some (.int .u64 b1):=Fb.out.cell 1
  have cl:W5.cell? ⟨gl,1,none⟩=some (.int .u64 0):=Fl.out.cell 1
  have fz:W5.frozen? ⟨gl,1,none⟩=false:=Fl.out.frozen 1
  go_upto_region 9 with (simp only [k1])
  generalize hW6:(W5.setCell ⟨gl,1,none⟩ (.int .u64 d1))=W6 at *
  clear fz ct cb cl
  have Nl:=Jf hW6 (Fl.out.set 1 _)
  have Nr:=Jf hW6 (Fr.out.far (by exact fun e=>HDrl.out e.symm) _)
  have Nb:=Jf hW6 (Fb.out.far (by exact fun e=>HDbl.out e.symm) _)
  have Nt:=Jf hW6 (Ft.out.far (by exact fun e=>HDlt.out.symm e.symm) _)
  have NB:=Ka hW6 (BW.out.setCell HEl.out _)
  clear BW Fr Fb Fl Ft
  clear hW6
  have Fr:=Jja Nr
  have Fb:=Jja Nb
  have Fl:=Jja Nl
  have Ft:=Jja Nt
  have BW:=Jja NB
  clear NB Nr Nb Nl Nt
  have ct:W6.cell? ⟨gt,2,none⟩=some (.int .u64 s2):=Ft.out.cell 2
  have cb:W6.cell? ⟨gb,2,none⟩=some (.int .u64 b2):=Fb.out.cell 2
  have cl:W6.cell? ⟨gl,2,none⟩=some (.int .u64 0):=Fl.out.cell 2
  have fz:W6.frozen? ⟨gl,2,none⟩=false:=Fl.out.frozen 2
  go_upto_region 10 with (simp only [k2])
  generalize hW7:(W6.setCell ⟨gl,2,none⟩ (.int .u64 d2))=W7 at *
  clear fz ct cb cl
  have Nl:=Jf hW7 (Fl.out.set 2 _)
  have Nr:=Jf hW7 (Fr.out.far (by exact fun e=>HDrl.out e.symm) _)
  have Nb:=Jf hW7 (Fb.out.far (by exact fun e=>HDbl.out e.symm) _)
  have Nt:=Jf hW7 (Ft.out.far (by exact fun e=>HDlt.out.symm e.symm) _)
  have NB:=Ka hW7 (BW.out.setCell HEl.out _)
  clear BW Fr Fb Fl Ft
  clear hW7
  have Fr:=Jja Nr
  have Fb:=Jja Nb
  have Fl:=Jja Nl
  have Ft:=Jja Nt
  have BW:=Jja NB
  clear NB Nr Nb Nl Nt
  have ct:W7.cell? ⟨gt,3,none⟩=some (.int .u64 s3):=Ft.out.cell 3
  have cb:W7.cell? ⟨gb,3,none⟩=some (.int .u64 b3):=Fb.out.cell 3
  have cl:W7.cell? ⟨gl,3,none⟩=some (.int .u64 0):=Fl.out.cell 3
  have fz:W7.frozen? ⟨gl,3,none⟩=false:=Fl.out.frozen 3
  go_upto_region 11 with (simp only [k3])
  generalize hW8:(W7.setCell ⟨gl,3,none⟩ (.int .u64 d3))=W8 at *
  clear fz ct cb cl
  have Nl:=Jf hW8 (Fl.out.set 3 _)
  have Nr:=Jf hW8 (Fr.out.far (by exact fun e=>HDrl.out e.symm) _)
  have Nb:=Jf hW8 (Fb.out.far (by exact fun e=>HDbl.out e.symm) _)
  have Nt:=Jf hW8 (Ft.out.far (by exact fun e=>HDlt.out.symm e.symm) _)
  have NB:=Ka hW8 (BW.out.setCell HEl.out _)
  clear BW Fr Fb Fl Ft
  clear hW8
  have Fr:=Jja Nr
  have Fb:=Jja Nb
  have Fl:=Jja Nl
  have Ft:=Jja Nt
  have BW:=Jja NB
  clear NB Nr Nb Nl Nt
  have ct0:W8.cell? ⟨gt,0,none⟩=some (.int .u64 s0):=Ft.out.cell 0
  have ct1:W8.cell? ⟨gt,1,none⟩=some (.int .u64 s1):=Ft.out.cell 1
  have ct2:W8.cell? ⟨gt,2,none⟩=some (.int .u64 s2):=Ft.out.cell 2
  have ct3:W8.cell? ⟨gt,3,none⟩=some (.int .u64 s3):=Ft.out.cell 3
  have cl0:W8.cell? ⟨gl,0,none⟩=some (.int .u64 d0):=Fl.out.cell 0
  have cl1:W8.cell? ⟨gl,1,none⟩=some (.int .u64 d1):=Fl.out.cell 1
  have cl2:W8.cell? ⟨gl,2,none⟩=some (.int .u64 d2):=Fl.out.cell 2
  have cl3:W8.cell? ⟨gl,3,none⟩=some (.int .u64 d3):=Fl.out.cell 3
  obtain ⟨f0,f1,f2,f3⟩:=Vo Fl.out
  go_wp2
  exact bodyPost_ret (v:=.tuple #[.agg #[.int .u64 s0,.int .u64 s1,.int .u64 s2,.int .u64 s3],.int .u64 0]) (by simp [results,Tryz.results226,go_sem, *]) rfl
   ⟨rfl,(((BW.out.setCell HEl.out _).setCell HEl.out _).setCell HEl.out _).setCell HEl.out _⟩
 ·have hc':¬ (c3:Int)<(e3:Int):=by omega
  rw [if_neg hc]
  clear hc
  go_enter Tryz.func226,Tryz.ntmps226
  go_upto_region 3 with fail
  generalize hW0:((((w.alloc (.cells #[.int .u64 a0,.int .u64 a1,.int .u64 a2,.int .u64 a3] 272)).alloc (.cells #[.int .u64 b0,.int .u64 b1,.int .u64 b2,.int .u64 b3] 272)).alloc (.cells #[.int .u64 0,.int .u64 0,.int .u64 0,.int .u64 0] 272)).alloc (.cells #[.int .u64 0,.int .u64 0,.int .u64 0,.int .u64 0] 272))=W0 at *
  have Nr:At W0 (w.heap.size) _ _:=Jf hW0 ((((At.at_ _ _ _ _ (by simp)).alloc _).alloc _).alloc _)
  have Nb:At W0 (w.heap.size+1) _ _:=Jf hW0 (((At.at_ _ _ _ _ (by simp)).alloc _).alloc _)
  have Nl:At W0 (w.heap.size+1+1) _ _:=Jf hW0 ((At.at_ _ _ _ _ (by simp)).alloc _)
  have Nt:At W0 (w.heap.size+1+1+1) _ _:=Jf hW0 (At.at_ _ _ _ _ (by simp))
  have NB:=Ka hW0 (Jd (Jd (Jd (Jd (Below.refl _ _) _) _) _) _)
  have Dlt:w.heap.size+1+1≠w.heap.size+1+1+1:=by omega
  have Drt:w.heap.size≠w.heap.size+1+1+1:=by omega
  have Dbt:w.heap.size+1≠w.heap.size+1+1+1:=by omega
  have Drl:w.heap.size≠w.heap.size+1+1:=by omega
  have Dbl:w.heap.size+1≠w.heap.size+1+1:=by omega
  have El:w.heap.size≤w.heap.size+1+1:=by omega
  have Et:w.heap.size≤w.heap.size+1+1+1:=by omega
  clear hW0
  generalize w.heap.size+1+1+1=gt at *
  generalize w.heap.size+1+1=gl at *
  generalize w.heap.size+1=gb at *
  obtain ⟨gr,hgr⟩:∃ gr,gr=w.heap.size:=⟨_,rfl⟩
  rw [← hgr] at Nr Drt Drl ⊢
  have HG:=Jja hgr
  clear hgr
  have HDlt:=Jja Dlt
  have HDrt:=Jja Drt
  have HDbt:=Jja Dbt
  have HDrl:=Jja Drl
  have HDbl:=Jja Dbl
  have HEl:=Jja El
  have HEt:=Jja Et
  clear Dlt Drt Dbt Drl Dbl El Et
  have Fr:=Jja Nr
  have Fb:=Jja Nb
  have Fl:=Jja Nl
  have Ft:=Jja Nt
  have BW:=Jja NB
  clear NB Nr Nb Nl Nt
  have cr:W0.cell? ⟨gr,0,none⟩=some (.int .u64 a0):=Fr.out.cell 0
  have ct:W0.cell? ⟨gt,0,none⟩=some (.int .u64 0):=Ft.out.cell 0
  have fz:W0.frozen? ⟨gt,0,none⟩=false:=Ft.out.frozen 0
  go_upto_region 4 with (simp only [h0])
  generalize hW1:(W0.setCell ⟨gt,0,none⟩ (.int .u64 s0))=W1 at *
  clear fz cr ct
  have Nt:=Jf hW1 (Ft.out.set 0 _)
  have Nr:=Jf hW1 (Fr.out.far (by exact fun e=>HDrt.out e.symm) _)
  have Nb:=Jf hW1 (Fb.out.far (by exact fun e=>HDbt.out e.symm) _)
  have Nl:=Jf hW1 (Fl.out.far (by exact fun e=>HDlt.out e.symm) _)
  have NB:=Ka hW1 (BW.out.setCell HEt.out _)
  clear BW Fr Fb Fl Ft
  clear hW1
  have Fr:=Jja Nr
  have Fb:=Jja Nb
  have Fl:=Jja Nl
  have Ft:=Jja Nt
  have BW:=Jja NB
  clear NB Nr Nb Nl Nt
  have cr:W1.cell? ⟨gr,1,none⟩=some (.int .u64 a1):=Fr.out.cell 1
  have ct:W1.cell? ⟨gt,1,none⟩=some (.int .u64 0):=Ft.out.cell 1
  have fz:W1.frozen? ⟨gt,1,none⟩=false:=Ft.out.frozen 1
  go_upto_region 5 with (simp only [h1])
  generalize hW2:(W1.setCell ⟨gt,1,none⟩ (.int .u64 s1))=W2 at *
  clear fz cr ct
  have Nt:=Jf hW2 (Ft.out.set 1 _)
  have Nr:=Jf hW2 (Fr.out.far (by exact fun e=>HDrt.out e.symm) _)
  have Nb:=Jf hW2 (Fb.out.far (by exact fun e=>HDbt.out e.symm) _)
  have Nl:=Jf hW2 (Fl.out.far (by exact fun e=>HDlt.out e.symm) _)
  have NB:=Ka hW2 (BW.out.setCell HEt.out _)
  clear BW Fr Fb Fl Ft
  clear hW2
  have Fr:=Jja Nr
  have Fb:=Jja Nb
  have Fl:=Jja Nl
  have Ft:=Jja Nt
  have BW:=Jja NB
  clear NB Nr Nb Nl Nt
  have cr:W2.cell? ⟨gr,2,none⟩=some (.int .u64 a2):=Fr.out.cell 2
  have ct:W2.cell? ⟨gt,2,none⟩=some (.int .u64 0):=Ft.out.cell 2
  have fz:W2.frozen? ⟨gt,2,none⟩=false:=Ft.out.frozen 2
  go_upto_region 6 with (simp only [h2])
  generalize hW3:(W2.setCell ⟨gt,2,none⟩ (.int .u64 s2))=W3 at *
  clear fz cr ct
  have Nt:=Jf hW3 (Ft.out.set 2 _)
  have Nr:=Jf hW3 (Fr.out.far (by exact fun e=>HDrt.out e.symm) _)
  have Nb:=Jf hW3 (Fb.out.far (by exact fun e=>HDbt.out e.symm) _)
  have Nl:=Jf hW3 (Fl.out.far (by exact fun e=>HDlt.out e.symm) _)
  have NB:=Ka hW3 (BW.out.setCell HEt.out _)
  clear BW Fr Fb Fl Ft
  clear hW3
  have Fr:=Jja Nr
  have Fb:=Jja Nb
  have Fl:=Jja Nl
  have Ft:=Jja Nt
  have BW:=Jja NB
  clear NB Nr Nb Nl Nt
  have cr:W3.cell? ⟨gr,3,none⟩=some (.int .u64 a3):=Fr.out.cell 3
  have ct:W3.cell? ⟨gt,3,none⟩=some (.int .u64 0):=Ft.out.cell 3
  have fz:W3.frozen? ⟨gt,3,none⟩=false:=Ft.out.frozen 3
  go_upto_region 7 with (simp only [h3])
  generalize hW4:(W3.setCell ⟨gt,3,none⟩ (.int .u64 s3))=W4 at *
  clear fz cr ct
  have Nt:=Jf hW4 (Ft.out.set 3 _)
  have Nr:=Jf hW4 (Fr.out.far (by exact fun e=>HDrt.out e.symm) _)
  have Nb:=Jf hW4 (Fb.out.far (by exact fun e=>HDbt.out e.symm) _)
  have Nl:=Jf hW4 (Fl.out.far (by exact fun e=>HDlt.out e.symm) _)
  have NB:=Ka hW4 (BW.out.setCell HEt.out _)
  clear BW Fr Fb Fl Ft
  clear hW4
  have Fr:=Jja Nr
  have Fb:=Jja Nb
  have Fl:=Jja Nl
  have Ft:=Jja Nt
  have BW:=Jja NB
  clear NB Nr Nb Nl Nt
  have ct:W4.cell? ⟨gt,0,none⟩=some (.int .u64 s0):=Ft.out.cell 0
  have cb:W4.cell? ⟨gb,0,none⟩=some (.int .u64 b0):=Fb.out.cell 0
  have cl:W4.cell? ⟨gl,0,none⟩=some (.int .u64 0):=Fl.out.cell 0
  have fz:W4.frozen? ⟨gl,0,none⟩=false:=Fl.out.frozen 0
  go_upto_region 8 with (simp only [k0])
  generalize hW5:(W4.setCell ⟨gl,0,none⟩ (.int .u64 d0))=W5 at *
  clear fz ct cb cl
  have Nl:=Jf hW5 (Fl.out.set 0 _)
  have Nr:=Jf hW5 (Fr.out.far (by exact fun e=>HDrl.out e.symm) _)
  have Nb:=Jf hW5 (Fb.out.far (by exact fun e=>HDbl.out e.symm) _)
  have Nt:=Jf hW5 (Ft.out.far (by exact fun e=>HDlt.out.symm e.symm) _)
  have NB:=Ka hW5 (BW.out.setCell HEl.out _)
  clear BW Fr Fb Fl Ft
  clear hW5
  have Fr:=Jja Nr
  have Fb:=Jja Nb
  have Fl:=Jja Nl
  have Ft:=Jja Nt
  have BW:=Jja NB
  clear NB Nr Nb Nl Nt
  have ct:W5.cell? ⟨gt,1,none⟩=some (.int .u64 s1):=Ft.out.cell 1
  have cb:W5.cell? ⟨gb,1,none⟩=some (.int .u64 b1):=Fb.out.cell 1
  have cl:W5.cell? ⟨gl,1,none⟩=some (.int .u64 0):=Fl.out.cell 1
  have fz:W5.frozen? ⟨gl,1,none⟩=false:=Fl.out.frozen 1
  go_upto_region 9 with (simp only [k1])
  generalize hW6:(W5.setCell ⟨gl,1,none⟩ (.int .u64 d1))=W6 at *
  clear fz ct cb cl
  have Nl:=Jf hW6 (Fl.out.set 1 _)
  have Nr:=Jf hW6 (Fr.out.far (by exact fun e=>HDrl.out e.symm) _)
  have Nb:=Jf hW6 (Fb.out.far (by exact fun e=>HDbl.out e.symm) _)
  have Nt:=Jf hW6 (Ft.out.far (by exact fun e=>HDlt.out.symm e.symm) _)
  have NB:=Ka hW6 (BW.out.setCell HEl.out _)
  clear BW Fr Fb Fl Ft
  clear hW6
  have Fr:=Jja Nr
  have Fb:=Jja Nb
  have Fl:=Jja Nl
  have Ft:=Jja Nt
  have BW:=Jja NB
  clear NB Nr Nb Nl Nt
  have ct:W6.cell? ⟨gt,2,none⟩=some (.int .u64 s2):=Ft.out.cell 2
  have cb:W6.cell? ⟨gb,2,none⟩=some (.int .u64 b2):=Fb.out.cell 2
  have cl:W6.cell? ⟨gl,2,none⟩=some (.int .u64 0):=Fl.out.cell 2
  have fz:W6.frozen? ⟨gl,2,none⟩=false:=Fl.out.frozen 2
  go_upto_region 10 with (simp only [k2])
  generalize hW7:(W6.setCell ⟨gl,2,none⟩ (.int .u64 d2))=W7 at *
  clear fz ct cb cl
  have Nl:=Jf hW7 (Fl.out.set 2 _)
  have Nr:=Jf hW7 (Fr.out.far (by exact fun e=>HDrl.out e.symm) _)
  have Nb:=Jf hW7 (Fb.out.far (by exact fun e=>HDbl.out e.symm) _)
  have Nt:=Jf hW7 (Ft.out.far (by exact fun e=>HDlt.out.symm e.symm) _)
  have NB:=Ka hW7 (BW.out.setCell HEl.out _)
  clear BW Fr Fb Fl Ft
  clear hW7
  have Fr:=Jja Nr
  have Fb:=Jja Nb
  have Fl:=Jja Nl
  have Ft:=Jja Nt
  have BW:=Jja NB
  clear NB Nr Nb Nl Nt
  have ct:W7.cell? ⟨gt,3,none⟩=some (.int .u64 s3):=Ft.out.cell 3
  have cb:W7.cell? ⟨gb,3,none⟩=some (.int .u64 b3):=Fb.out.cell 3
  have cl:W7.cell? ⟨gl,3,none⟩=some (.int .u64 0):=Fl.out.cell 3
  have fz:W7.frozen? ⟨gl,3,none⟩=false:=Fl.out.frozen 3
  go_upto_region 11 with (simp only [k3])
  generalize hW8:(W7.setCell ⟨gl,3,none⟩ (.int .u64 d3))=W8 at *
  clear fz ct cb cl
  have Nl:=Jf hW8 (Fl.out.set 3 _)
  have Nr:=Jf hW8 (Fr.out.far (by exact fun e=>HDrl.out e.symm) _)
  have Nb:=Jf hW8 (Fb.out.far (by exact fun e=>HDbl.out e.symm) _)
  have Nt:=Jf hW8 (Ft.out.far (by exact fun e=>HDlt.out.symm e.symm) _)
  have NB:=Ka hW8 (BW.out.setCell HEl.out _)
  clear BW Fr Fb Fl Ft
  clear hW8
  have Fr:=Jja Nr
  have Fb:=Jja Nb
  have Fl:=Jja Nl
  have Ft:=Jja Nt
  have BW:=Jja NB
  clear NB Nr Nb Nl Nt
  have ct0:W8.cell? ⟨gt,0,none⟩=some (.int .u64 s0):=Ft.out.cell 0
  have ct1:W8.cell? ⟨gt,1,none⟩=some (.int .u64 s1):=Ft.out.cell 1
  have ct2:W8.cell? ⟨gt,2,none⟩=some (.int .u64 s2):=Ft.out.cell 2
  have ct3:W8.cell? ⟨gt,3,none⟩=some (.int .u64 s3):=Ft.out.cell 3
  have cl0:W8.cell? ⟨gl,0,none⟩=some (.int .u64 d0):=Fl.out.cell 0
  have cl1:W8.cell? ⟨gl,1,none⟩=some (.int .u64 d1):=Fl.out.cell 1
  have cl2:W8.cell? ⟨gl,2,none⟩=some (.int .u64 d2):=Fl.out.cell 2
  have cl3:W8.cell? ⟨gl,3,none⟩=some (.int .u64 d3):=Fl.out.cell 3
  obtain ⟨f0,f1,f2,f3⟩:=Vo Fl.out
  go_wp2
  exact bodyPost_ret (v:=.tuple #[.agg #[.int .u64 d0,.int .u64 d1,.int .u64 d2,.int .u64 d3],.int .u64 1]) (by simp [results,Tryz.results226,go_sem, *]) rfl
   ⟨rfl,(((BW.out.setCell HEl.out _).setCell HEl.out _).setCell HEl.out _).setCell HEl.out _⟩
theorem sum4 (x0 x1 x2 x3 y0 y1 y2 y3 s0 s1 s2 s3 b c0 c1 c2 c3 X Y S:Nat) (e0:x0+y0+b=s0+18446744073709551616*c0) (e1:x1+y1+c0=s1+18446744073709551616*c1)
  (e2:x2+y2+c1=s2+18446744073709551616*c2) (e3:x3+y3+c2=s3+18446744073709551616*c3)
  (hX:X=x0+18446744073709551616*x1+340282366920938463463374607431768211456*x2+6277101735386680763835789423207666416102355444464034512896*x3)
  (hY:Y=y0+18446744073709551616*y1+340282366920938463463374607431768211456*y2+6277101735386680763835789423207666416102355444464034512896*y3)
  (hS:S=s0+18446744073709551616*s1+340282366920938463463374607431768211456*s2+6277101735386680763835789423207666416102355444464034512896*s3):X+Y+b=S+2^256*c3:=by omega
theorem word4 (s0 s1 s2 s3 S:Nat) (h0:s0<18446744073709551616) (h1:s1<18446744073709551616) (h2:s2<18446744073709551616) (h3:s3<18446744073709551616)
  (hS:S=s0+18446744073709551616*s1+340282366920938463463374607431768211456*s2+6277101735386680763835789423207666416102355444464034512896*s3):S<2^256:=by omega

theorem step_ex (R B bit:Nat) (hR:R<B) (hB:B<2^256) (hb:bit≤1):∃ L t:Nat,L<B∧t≤1∧2*R+bit=t*B+L ∧
  ∀ w,Calls Tryz.prog 226 #[num R,num B,.int .u64 (bit:Nat)] w fun e w'=>e=.returned (.tuple #[num L,.int .u64 (t:Nat)])∧Below w.heap.size w w':=by
 obtain ⟨s0,c0,l0,k0,e0,p0,q0⟩:=Wb (wd R 0) (wd R 0) bit (Ue _ _) (Ue _ _) hb
 obtain ⟨s1,c1,l1,k1,e1,p1,q1⟩:=Wb (wd R 1) (wd R 1) c0 (Ue _ _) (Ue _ _) (by omega)
 obtain ⟨s2,c2,l2,k2,e2,p2,q2⟩:=Wb (wd R 2) (wd R 2) c1 (Ue _ _) (Ue _ _) (by omega)
 obtain ⟨s3,c3,l3,k3,e3,p3,q3⟩:=Wb (wd R 3) (wd R 3) c2 (Ue _ _) (Ue _ _) (by omega)
 obtain ⟨d0,f0,m0,n0,g0,u0,v0⟩:=Wu s0 (wd B 0) 0 l0 (Ue _ _) (by omega)
 obtain ⟨d1,f1,m1,n1,g1,u1,v1⟩:=Wu s1 (wd B 1) f0 l1 (Ue _ _) (by omega)
 obtain ⟨d2,f2,m2,n2,g2,u2,v2⟩:=Wu s2 (wd B 2) f1 l2 (Ue _ _) (by omega)
 obtain ⟨d3,f3,m3,n3,g3,u3,v3⟩:=Wu s3 (wd B 3) f2 l3 (Ue _ _) (by omega)
 have C:=fun w=>step_words (wd R 0) (wd R 1) (wd R 2) (wd R 3) (wd B 0) (wd B 1) (wd B 2) (wd B 3) bit w s0 s1 s2 s3 c0 c1 c2 c3 d0 d1 d2 d3 f0 f1 f2 f3 (fun w=>Jfs _ _ _ _ _ hb p0 q0 w) (fun w=>Jfs _ _ _ _ _ k0 p1 q1 w) (fun w=>Jfs _ _ _ _ _ k1 p2 q2 w) (fun w=>Jfs _ _ _ _ _ k2 p3 q3 w)
  (fun w=>Jgt _ _ 0 _ _ (by omega) u0 v0 w) (fun w=>Jgt _ _ _ _ _ n0 u1 v1 w) (fun w=>Jgt _ _ _ _ _ n1 u2 v2 w) (fun w=>Jgt _ _ _ _ _ n2 u3 v3 w)
 clear p0 p1 p2 p3 q0 q1 q2 q3 u0 u1 u2 u3 v0 v1 v2 v3
 have sR:=Xr R (Nat.lt_trans hR hB)
 have sB:=Xr B hB
 obtain ⟨S,hS⟩:∃ S,S=s0+18446744073709551616*s1+340282366920938463463374607431768211456*s2+6277101735386680763835789423207666416102355444464034512896*s3:=⟨_,rfl⟩
 obtain ⟨D,hD⟩:∃ D,D=d0+18446744073709551616*d1+340282366920938463463374607431768211456*d2+6277101735386680763835789423207666416102355444464034512896*d3:=⟨_,rfl⟩
 rw [Jdn s0 s1 s2 s3 l0 l1 l2 l3 S hS,Jdn d0 d1 d2 d3 m0 m1 m2 m3 D hD] at C
 have r1:R+R+bit=S+2^256*c3:=sum4 _ _ _ _ _ _ _ _ _ _ _ _ _ _ _ _ _ _ _ _ e0 e1 e2 e3 sR sR hS
 have r2:D+B+0=S+2^256*f3:=sum4 _ _ _ _ _ _ _ _ _ _ _ _ _ _ _ _ _ _ _ _ g0.symm g1.symm g2.symm g3.symm hD sB hS
 have r3:S<2^256:=word4 _ _ _ _ _ l0 l1 l2 l3 hS
 have r4:D<2^256:=word4 _ _ _ _ _ m0 m1 m2 m3 hD
 clear sR sB hS hD e0 e1 e2 e3 g0 g1 g2 g3 l0 l1 l2 l3 m0 m1 m2 m3 k0 k1 k2 n0 n1 n2
 by_cases h:c3<f3
 ·rw [if_pos h] at C
  refine ⟨S,0,?_,by omega,?_,C⟩
  ·clear C;omega
  ·clear C;omega
 ·rw [if_neg h] at C
  refine ⟨D,1,?_,by omega,?_,C⟩
  ·clear C;omega
  ·clear C;omega
def wide (R A:Nat):Nat:=R*2^256+A

theorem und_le (R A B:Nat):Jik R A B≤256:=Nat.min_le_right _ _
theorem wide_lt (R A:Nat) (hA:A<2^256):wide R A<2^(if R=0 then Go.bitLen A else 256+Go.bitLen R):=by
 unfold wide
 by_cases h:R=0
 ·rw [if_pos h,h];simpa using (Go.bitLen_spec A).1
 ·rw [if_neg h]
  have h1:=(Go.bitLen_spec R).1
  have:(R+1)*2^256≤2^Go.bitLen R*2^256:=Nat.mul_le_mul_right _ h1
  rw [Nat.pow_add,Nat.mul_comm (2^256)]
  rw [Nat.add_mul] at this
  omega
theorem Jdp (R A m:Nat) (hm:m≤256):wide R A/2^m=R*2^(256-m)+A/2^m:=by
 unfold wide
 have e:(2:Nat)^256=2^(256-m)*2^m:=by rw [← Nat.pow_add];congr 1;omega
 rw [e,← Nat.mul_assoc,Nat.add_comm,Nat.add_mul_div_right _ _ (Nat.two_pow_pos m),Nat.add_comm]
theorem und_top (R A B:Nat) (hR:R<B) (hA:A<2^256):wide R A/2^Jik R A B<B:=by
 have hw:=wide_lt R A hA
 unfold Jik
 obtain ⟨al,hal⟩:∃ al,al=(if R=0 then Go.bitLen A else 256+Go.bitLen R):=⟨_,rfl⟩
 rw [← hal] at hw ⊢
 clear hal
 have hb:=(Go.bitLen_spec B).2 (by omega)
 by_cases h:256≤al+1-Go.bitLen B
 ·rw [Nat.min_eq_right h,Jdp R A 256 (Nat.le_refl _)]
  rw [Nat.div_eq_of_lt hA]
  simpa using hR
 ·rw [Nat.min_eq_left (by omega)]
  refine Nat.lt_of_lt_of_le (Nat.div_lt_of_lt_mul ?_) hb
  rw [← Nat.pow_add]
  refine Nat.lt_of_lt_of_le hw (Nat.pow_le_pow_right (by decide) ?_)
  omega
theorem und_ahead (R A B:Nat) (hR:R<B) (hB:B<2^256) (hA:A<2^256) (m:Nat) (hm:m=Jik R A B) :
  shN R (256-(m:Int))+shN A (-(m:Int))=wide R A/2^m:=by
 have h1:=und_le R A B
 have h2:=und_top R A B hR hA
 rw [← hm] at h1 h2
 have h3:=Jdp R A m h1
 have e1:shN R (256-(m:Int))=R*2^(256-m):=by
  unfold shN
  rw [if_pos (by omega),show (256-(m:Int)).toNat=256-m by omega,Nat.mod_eq_of_lt (by rw [h3] at h2;exact Nat.lt_of_le_of_lt (Nat.le_add_right _ _) (Nat.lt_trans h2 hB))]
 have e2:shN A (-(m:Int))=A/2^m:=by
  unfold shN
  by_cases h0:m=0
  ·subst h0;simp;exact hA
  ·rw [if_neg (by omega)];congr 2;omega
 rw [e1,e2,h3]
theorem wide_bit (R A p:Nat) (hp:p<256):wide R A/2^p%2=bt A (p:Int):=by
 rw [Jdp R A p (by omega)]
 unfold bt
 rw [if_neg (by omega),Int.toNat_natCast]
 have:(2:Nat)^(256-p)=2*2^(255-p):=by rw [← Nat.pow_succ'];congr 1;omega
 rw [this,show R*(2*2^(255-p))=2*(R*2^(255-p)) by ac_rfl]
 omega
theorem Jem (T p:Nat):T/2^p=2*(T/2^(p+1))+T/2^p%2:=by
 rw [Nat.pow_succ,← Nat.div_div_eq_div_mul];omega
theorem beh_round (R A B p Q r L t:Nat) (hp:p<256) (h:wide R A/2^(p+1)=Q*B+r) (hs:2*r+bt A (p:Int)=t*B+L):wide R A/2^p=(2*Q+t)*B+L:=by
 rw [Jem,wide_bit R A p hp,h,Nat.add_mul]
 have:2*(Q*B)=2*Q*B:=by rw [Nat.mul_assoc]
 omega
theorem bit_in (Q p t:Nat) (ht:t≤1) (k j:Nat) (hk:k=p/64) (hj:j=p%64):(wd (Q*2^(p+1)) k ||| t*2^j)=wd ((2*Q+t)*2^p) k∧t*2^j<18446744073709551616 ∧
  ∀ i,i≠k→wd ((2*Q+t)*2^p) i=wd (Q*2^(p+1)) i:=by
 have hp:p=64*k+j:=by omega
 have hj':j<64:=by omega
 have e:Q*2^(p+1)=2*Q*2^p:=by rw [Nat.pow_succ];ac_rfl
 have tbit:∀ n,(2*Q+t).testBit (n+1)=(2*Q).testBit (n+1):=fun n=>by
  rw [Nat.testBit_add_one,Nat.testBit_add_one];congr 1;omega
 have t0:(2*Q+t).testBit 0=t.testBit 0:=by rw [Nat.testBit_zero,Nat.testBit_zero];congr 1;rw [Nat.add_mod,Nat.mul_mod_right];simp
 have s0:(2*Q).testBit 0=false:=by rw [Nat.testBit_zero,Nat.mul_mod_right];rfl
 have tb1:∀ n,t.testBit (n+1)=false:=fun n=>by
  rw [Nat.testBit_add_one]
  have:t/2=0:=by omega
  rw [this,Nat.zero_testBit]
 have two:t*2^j≤2^j:=by
  have:=Nat.mul_le_mul_right (2^j) ht;omega
 have jle:(2:Nat)^j≤2^63:=Nat.pow_le_pow_right (by decide) (by omega)
 refine ⟨?_,by omega,fun i hi=>?_⟩
 ·refine Nat.eq_of_testBit_eq fun n=>?_
  rw [Nat.testBit_or,Jhq,Jhq,e,Nat.testBit_mul_two_pow,Nat.testBit_mul_two_pow,Nat.testBit_mul_two_pow]
  by_cases hn:n<64
  ·by_cases h1:j≤n
   ·have g1:p≤64*k+n:=by omega
    have g2:64*k+n-p=n-j:=by omega
    simp only [hn,h1,g1,g2,decide_true,Bool.true_and]
    rcases Nat.eq_zero_or_pos (n-j) with h2 | h2
    ·rw [h2,s0,t0];simp
    ·obtain ⟨q,hq⟩:∃ q,n-j=q+1:=⟨n-j-1,by omega⟩
     rw [hq,tbit,tb1];simp
   ·have g1:¬ p≤64*k+n:=by omega
    simp [h1,g1]
  ·have g:¬ n<64:=hn
   simp only [g,decide_false,Bool.false_and,Bool.false_or]
   by_cases h1:j≤n
   ·obtain ⟨q,hq⟩:∃ q,n-j=q+1:=⟨n-j-1,by omega⟩
    rw [hq,tb1];simp
   ·simp [h1]
 ·refine Nat.eq_of_testBit_eq fun n=>?_
  rw [Jhq,Jhq,e,Nat.testBit_mul_two_pow,Nat.testBit_mul_two_pow]
  by_cases hn:n<64
  ·by_cases h1:p≤64*i+n
   ·obtain ⟨q,hq⟩:∃ q,64*i+n-p=q+1:=⟨64*i+n-p-1,by omega⟩
    rw [hq,tbit]
   ·simp [h1]
  ·simp [hn]
end Go.Proofs.YtmmgmljkmmgjdaaGreatDoor
