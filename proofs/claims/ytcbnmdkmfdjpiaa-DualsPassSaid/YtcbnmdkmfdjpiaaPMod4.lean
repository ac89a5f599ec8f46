import Derived.Test.YtcbnmdkmfdjpiaaPMod2
import Derived.Test.YtcbnmdkmfdjpiaaPMult
import Derived.Test.YtcbnmdkmfdjpiaaPShort
namespace Go.Proofs.Ytcbnmdkmfdjpiaa
set_option maxRecDepth 100000
set_option maxHeartbeats 8000000
open Go.RowKit
set_option linter.unusedSimpArgs false
set_option linter.unusedVariables false
attribute [local go_sem ↓] Go.wp_at_zero Go.wp_at_succ

theorem red_walk (gt gm M T low high often h1 l2 off rest:Nat)
  (c1:∀ w,Calls Try.prog 76 #[num low,num T] w fun e w'=>e=.returned (.tuple #[num often,num h1])∧Below w.heap.size w w')
  (c2:∀ w,Calls Try.prog 76 #[num often,num M] w fun e w'=>e=.returned (.tuple #[num l2,num off])∧Below w.heap.size w w')
  (c3:∀ w,Calls Try.prog 66 #[num high,num off,num M] w fun e w'=>e=.returned (.tuple #[num rest,.int .i64 0])∧Below w.heap.size w w')
  (w:World) (Pt:At w gt 24 (ncs T)) (Pm:At w gm 24 (ncs M)):Calls Try.prog 92 #[num low,num high,.pointer (some ⟨gt,0,none⟩),.pointer (some ⟨gm,0,none⟩)] w fun e w'=>e=.returned (num rest)∧Below w.heap.size w w':=by
 have Hc1:=Jgm c1
 have Hc2:=Jgm c2
 have Hc3:=Jgm c3
 clear c1 c2 c3
 have Ft:=Jgm Pt
 have Fm:=Jgm Pm
 clear Pt Pm
 have Lt:=Ft.out.lt
 obtain ⟨ct0,ct1,ct2,ct3⟩:=Ku Ft.out
 have Lt_1:gt<w.heap.size+1:=by omega
 have Lt_2:gt<w.heap.size+1+1:=by omega
 go_enter Try.func92,Try.ntmps92
 go_wp2_with fail
 clear Lt ct0 ct1 ct2 ct3 Lt_1 Lt_2
 have BW:=Jgm (Below.refl w.heap.size w)
 have Eo:w.heap.size≤w.heap.size+1+1:=by have:=BW.out.size;omega
 have Dto:gt≠w.heap.size+1+1:=by have:=Ft.out.lt;omega
 have Dmo:gm≠w.heap.size+1+1:=by have:=Fm.out.lt;omega
 have Dao:w.heap.size≠w.heap.size+1+1:=by omega
 have Dbo:w.heap.size+1≠w.heap.size+1+1:=by omega
 generalize hW1:(((w.alloc (.cells (ncs low) 24)).alloc (.cells (ncs high) 24)).alloc (.cells #[.int .u64 0,.int .u64 0,.int .u64 0,.int .u64 0] 24))=W1 at *
 have Na:At W1 (w.heap.size) _ _:=Jd hW1 (((At.at_ _ _ _ _ (by simp)).alloc _).alloc _)
 have Nb:At W1 (w.heap.size+1) _ _:=Jd hW1 ((At.at_ _ _ _ _ (by simp)).alloc _)
 have No:At W1 (w.heap.size+1+1) _ _:=Jd hW1 (At.at_ _ _ _ _ (by simp))
 have Nt:=Jd hW1 (((Ft.out.alloc _).alloc _).alloc _)
 have Nm:=Jd hW1 (((Fm.out.alloc _).alloc _).alloc _)
 have NB:=Ke hW1 (Jb (Jb (Jb BW.out _) _) _)
 clear hW1 BW Ft Fm
 generalize w.heap.size+1+1=go at *
 generalize w.heap.size+1=gb at *
 obtain ⟨ga,hg0⟩:∃ g,g=w.heap.size:=⟨_,rfl⟩
 rw [← hg0] at Na ⊢
 rw [← hg0] at Dao
 clear hg0
 have Ft:=Jgm Nt
 have Fm:=Jgm Nm
 have Fa:=Jgm Na
 have Fb:=Jgm Nb
 have Fo:=Jgm No
 have BW:=Jgm NB
 clear NB Nt Nm Na Nb No
 refine (Hc1.out _).mono ?_
 rintro e v2 ⟨rfl,z2⟩
 have Nt:=Jgm (Ft.out.on z2)
 have Nm:=Jgm (Fm.out.on z2)
 have Na:=Jgm (Fa.out.on z2)
 have Nb:=Jgm (Fb.out.on z2)
 have No:=Jgm (Fo.out.on z2)
 have NB:=Jgm (Jw BW.out z2)
 clear BW z2 Ft Fm Fa Fb Fo
 have Ft:=Nt
 have Fm:=Nm
 have Fa:=Na
 have Fb:=Nb
 have Fo:=No
 have BW:=NB
 clear NB Nt Nm Na Nb No
 have Lm:=Fm.out.lt
 obtain ⟨cm0,cm1,cm2,cm3⟩:=Ku Fm.out
 go_wp2_with fail
 clear Lm cm0 cm1 cm2 cm3
 have Dop:go≠v2.heap.size:=by have:=Fo.out.lt;omega
 have Dou:go≠v2.heap.size+1:=by have:=Fo.out.lt;omega
 generalize hW3:((v2.alloc (.cells (ncs often) 24)).alloc (.cells (ncs h1) 24))=W3 at *
 have Np:At W3 (v2.heap.size) _ _:=Jd hW3 ((At.at_ _ _ _ _ (by simp)).alloc _)
 have Nu:At W3 (v2.heap.size+1) _ _:=Jd hW3 (At.at_ _ _ _ _ (by simp))
 have Nt:=Jd hW3 ((Ft.out.alloc _).alloc _)
 have Nm:=Jd hW3 ((Fm.out.alloc _).alloc _)
 have Na:=Jd hW3 ((Fa.out.alloc _).alloc _)
 have Nb:=Jd hW3 ((Fb.out.alloc _).alloc _)
 have No:=Jd hW3 ((Fo.out.alloc _).alloc _)
 have NB:=Ke hW3 (Jb (Jb BW.out _) _)
 clear hW3 BW Ft Fm Fa Fb Fo
 generalize v2.heap.size+1=gu at *
 generalize v2.heap.size=gp at *
 have Ft:=Jgm Nt
 have Fm:=Jgm Nm
 have Fa:=Jgm Na
 have Fb:=Jgm Nb
 have Fo:=Jgm No
 have Fp:=Jgm Np
 have Fu:=Jgm Nu
 have BW:=Jgm NB
 clear NB Nt Nm Na Nb No Np Nu
 refine (Hc2.out _).mono ?_
 rintro e v4 ⟨rfl,z4⟩
 have Nt:=Jgm (Ft.out.on z4)
 have Nm:=Jgm (Fm.out.on z4)
 have Na:=Jgm (Fa.out.on z4)
 have Nb:=Jgm (Fb.out.on z4)
 have No:=Jgm (Fo.out.on z4)
 have Np:=Jgm (Fp.out.on z4)
 have Nu:=Jgm (Fu.out.on z4)
 have NB:=Jgm (Jw BW.out z4)
 clear BW z4 Ft Fm Fa Fb Fo Fp Fu
 have Ft:=Nt
 have Fm:=Nm
 have Fa:=Na
 have Fb:=Nb
 have Fo:=No
 have Fp:=Np
 have Fu:=Nu
 have BW:=NB
 clear NB Nt Nm Na Nb No Np Nu
 have Lb:=Fb.out.lt
 obtain ⟨cb0,cb1,cb2,cb3⟩:=Ku Fb.out
 have Lm:=Fm.out.lt
 obtain ⟨cm0,cm1,cm2,cm3⟩:=Ku Fm.out
 go_wp2_with fail
 clear Lb cb0 cb1 cb2 cb3 Lm cm0 cm1 cm2 cm3
 have Doq:go≠v4.heap.size:=by have:=Fo.out.lt;omega
 have Dof:go≠v4.heap.size+1:=by have:=Fo.out.lt;omega
 generalize hW5:((v4.alloc (.cells (ncs l2) 24)).alloc (.cells (ncs off) 24))=W5 at *
 have Nq:At W5 (v4.heap.size) _ _:=Jd hW5 ((At.at_ _ _ _ _ (by simp)).alloc _)
 have Nf:At W5 (v4.heap.size+1) _ _:=Jd hW5 (At.at_ _ _ _ _ (by simp))
 have Nt:=Jd hW5 ((Ft.out.alloc _).alloc _)
 have Nm:=Jd hW5 ((Fm.out.alloc _).alloc _)
 have Na:=Jd hW5 ((Fa.out.alloc _).alloc _)
 have Nb:=Jd hW5 ((Fb.out.alloc _).alloc _)
 have No:=Jd hW5 ((Fo.out.alloc _).alloc _)
 have Np:=Jd hW5 ((Fp.out.alloc _).alloc _)
 have Nu:=Jd hW5 ((Fu.out.alloc _).alloc _)
 have NB:=Ke hW5 (Jb (Jb BW.out _) _)
 clear hW5 BW Ft Fm Fa Fb Fo Fp Fu
 generalize v4.heap.size+1=gf at *
 generalize v4.heap.size=gq at *
 have Ft:=Jgm Nt
 have Fm:=Jgm Nm
 have Fa:=Jgm Na
 have Fb:=Jgm Nb
 have Fo:=Jgm No
 have Fp:=Jgm Np
 have Fu:=Jgm Nu
 have Fq:=Jgm Nq
 have Ff:=Jgm Nf
 have BW:=Jgm NB
 clear NB Nt Nm Na Nb No Np Nu Nq Nf
 refine (Hc3.out _).mono ?_
 rintro e v6 ⟨rfl,z6⟩
 have Nt:=Jgm (Ft.out.on z6)
 have Nm:=Jgm (Fm.out.on z6)
 have Na:=Jgm (Fa.out.on z6)
 have Nb:=Jgm (Fb.out.on z6)
 have No:=Jgm (Fo.out.on z6)
 have Np:=Jgm (Fp.out.on z6)
 have Nu:=Jgm (Fu.out.on z6)
 have Nq:=Jgm (Fq.out.on z6)
 have Nf:=Jgm (Ff.out.on z6)
 have NB:=Jgm (Jw BW.out z6)
 clear BW z6 Ft Fm Fa Fb Fo Fp Fu Fq Ff
 have Ft:=Nt
 have Fm:=Nm
 have Fa:=Na
 have Fb:=Nb
 have Fo:=No
 have Fp:=Np
 have Fu:=Nu
 have Fq:=Nq
 have Ff:=Nf
 have BW:=NB
 clear NB Nt Nm Na Nb No Np Nu Nq Nf
 have Lo:=Fo.out.lt
 have co0:=Fo.out.c0;have co1:=Fo.out.c1;have co2:=Fo.out.c2;have co3:=Fo.out.c3
 obtain ⟨fo0,fo1,fo2,fo3⟩:=Wc Fo.out
 go_wp2_with fail
 clear Lo co0 co1 co2 co3 fo0 fo1 fo2 fo3
 generalize hW7:((((v6.setCell ⟨go,0,none⟩ (.int .u64 (wd rest 0))).setCell ⟨go,1,none⟩ (.int .u64 (wd rest 1))).setCell ⟨go,2,none⟩ (.int .u64 (wd rest 2))).setCell ⟨go,3,none⟩ (.int .u64 (wd rest 3)))=W7 at *
 have Nt:=Jd hW7 ((Ft.out).far4 Dto _ _ _ _)
 have Nm:=Jd hW7 ((Fm.out).far4 Dmo _ _ _ _)
 have Na:=Jd hW7 ((Fa.out).far4 Dao _ _ _ _)
 have Nb:=Jd hW7 ((Fb.out).far4 Dbo _ _ _ _)
 have No:=Jd hW7 ((Fo.out).put4 _ _ _ _)
 have Np:=Jd hW7 ((Fp.out).far4 Dop.symm _ _ _ _)
 have Nu:=Jd hW7 ((Fu.out).far4 Dou.symm _ _ _ _)
 have Nq:=Jd hW7 ((Fq.out).far4 Doq.symm _ _ _ _)
 have Nf:=Jd hW7 ((Ff.out).far4 Dof.symm _ _ _ _)
 have NB:=Ke hW7 (((((BW.out).setCell Eo _).setCell Eo _).setCell Eo _).setCell Eo _)
 clear hW7 BW Ft Fm Fa Fb Fo Fp Fu Fq Ff
 have Ft:=Jgm Nt
 have Fm:=Jgm Nm
 have Fa:=Jgm Na
 have Fb:=Jgm Nb
 have Fo:=Jgm No
 have Fp:=Jgm Np
 have Fu:=Jgm Nu
 have Fq:=Jgm Nq
 have Ff:=Jgm Nf
 have BW:=Jgm NB
 clear NB Nt Nm Na Nb No Np Nu Nq Nf
 have Dos:go≠W7.heap.size:=by have:=Fo.out.lt;omega
 generalize hW8:(W7.alloc (.cells (ncs rest) 24))=W8 at *
 have Ns:At W8 (W7.heap.size) _ _:=Jd hW8 (At.at_ _ _ _ _ (by simp))
 have Nt:=Jd hW8 (Ft.out.alloc _)
 have Nm:=Jd hW8 (Fm.out.alloc _)
 have Na:=Jd hW8 (Fa.out.alloc _)
 have Nb:=Jd hW8 (Fb.out.alloc _)
 have No:=Jd hW8 (Fo.out.alloc _)
 have Np:=Jd hW8 (Fp.out.alloc _)
 have Nu:=Jd hW8 (Fu.out.alloc _)
 have Nq:=Jd hW8 (Fq.out.alloc _)
 have Nf:=Jd hW8 (Ff.out.alloc _)
 have NB:=Ke hW8 (Jb BW.out _)
 clear hW8 BW Ft Fm Fa Fb Fo Fp Fu Fq Ff
 generalize W7.heap.size=gs at *
 have Ft:=Jgm Nt
 have Fm:=Jgm Nm
 have Fa:=Jgm Na
 have Fb:=Jgm Nb
 have Fo:=Jgm No
 have Fp:=Jgm Np
 have Fu:=Jgm Nu
 have Fq:=Jgm Nq
 have Ff:=Jgm Nf
 have Fs:=Jgm Ns
 have BW:=Jgm NB
 clear NB Nt Nm Na Nb No Np Nu Nq Nf Ns
 have Lo:=Fo.out.lt
 have co0:=Fo.out.c0;have co1:=Fo.out.c1;have co2:=Fo.out.c2;have co3:=Fo.out.c3
 refine bodyPost_ret (v:=num rest) (by simp [results,Try.results92,go_sem, *]) rfl ⟨rfl,BW.out⟩

theorem red_ex (M T low high:Nat) (hM:M<2^256) (hM0:0<M) (hT:T<2^256) (hMT:M*T%2^256=1) (hl:low<2^256) (hh:high<M) :
  ∃ rest often off c:Nat,rest<M∧often*M=low+2^256*off∧high+M*c=rest+off∧∀ (gt gm:Nat) (w:World),At w gt 24 (ncs T)→At w gm 24 (ncs M) →
   Calls Try.prog 92 #[num low,num high,.pointer (some ⟨gt,0,none⟩),.pointer (some ⟨gm,0,none⟩)] w fun e w'=>e=.returned (num rest)∧Below w.heap.size w w':=by
 obtain ⟨often,h1,ho,_,e1,c1⟩:=Jcu low T hl hT
 obtain ⟨l2,off,hl2,_,e2,c2⟩:=Jcu often M ho hM
 obtain ⟨ho2,e3⟩:=red_nat M T low high often h1 off l2 hMT hM0 hl e1 ho e2 hl2
 obtain ⟨rest,c,hr,_,e4,c3⟩:=Jes high off M hh ho2 hM
 exact ⟨rest,often,off,c,hr,e3,e4,fun gt gm w at1 at2=>red_walk gt gm M T low high often h1 l2 off rest c1 c2 c3 w at1 at2⟩

theorem into_walk (gm M X r:Nat)
  (c1:∀ w,Calls Try.prog 77 #[.agg #[.int .u64 0,.int .u64 0,.int .u64 0,.int .u64 0],num X,num M] w fun e w'=>e=.returned (.tuple #[num r,.int .i64 0])∧Below w.heap.size w w')
  (w:World) (Pm:At w gm 24 (ncs M)):Calls Try.prog 93 #[num X,.pointer (some ⟨gm,0,none⟩)] w fun e w'=>e=.returned (num r)∧Below w.heap.size w w':=by
 have Hc1:=Jgm c1
 clear c1
 have Fm:=Jgm Pm
 clear Pm
 have Lm:=Fm.out.lt
 obtain ⟨cm0,cm1,cm2,cm3⟩:=Ku Fm.out
 have Lm_1:gm<w.heap.size+1:=by omega
 go_enter Try.func93,Try.ntmps93
 go_wp2_with fail
 clear Lm cm0 cm1 cm2 cm3 Lm_1
 have BW:=Jgm (Below.refl w.heap.size w)
 have Eo:w.heap.size≤w.heap.size+1:=by have:=BW.out.size;omega
 have Dmo:gm≠w.heap.size+1:=by have:=Fm.out.lt;omega
 have Dao:w.heap.size≠w.heap.size+1:=by omega
 generalize hW1:((w.alloc (.cells (ncs X) 24)).alloc (.cells #[.int .u64 0,.int .u64 0,.int .u64 0,.int .u64 0] 24))=W1 at *
 have Na:At W1 (w.heap.size) _ _:=Jd hW1 ((At.at_ _ _ _ _ (by simp)).alloc _)
 have No:At W1 (w.heap.size+1) _ _:=Jd hW1 (At.at_ _ _ _ _ (by simp))
 have Nm:=Jd hW1 ((Fm.out.alloc _).alloc _)
 have NB:=Ke hW1 (Jb (Jb BW.out _) _)
 clear hW1 BW Fm
 generalize w.heap.size+1=go at *
 obtain ⟨ga,hg0⟩:∃ g,g=w.heap.size:=⟨_,rfl⟩
 rw [← hg0] at Na ⊢
 rw [← hg0] at Dao
 clear hg0
 have Fm:=Jgm Nm
 have Fa:=Jgm Na
 have Fo:=Jgm No
 have BW:=Jgm NB
 clear NB Nm Na No
 refine (Hc1.out _).mono ?_
 rintro e v2 ⟨rfl,z2⟩
 have Nm:=Jgm (Fm.out.on z2)
 have Na:=Jgm (Fa.out.on z2)
 have No:=Jgm (Fo.out.on z2)
 have NB:=Jgm (Jw BW.out z2)
 clear BW z2 Fm Fa Fo
 have Fm:=Nm
 have Fa:=Na
 have Fo:=No
 have BW:=NB
 clear NB Nm Na No
 have Lo:=Fo.out.lt
 have co0:=Fo.out.c0;have co1:=Fo.out.c1;have co2:=Fo.out.c2;have co3:=Fo.out.c3
 obtain ⟨fo0,fo1,fo2,fo3⟩:=Wc Fo.out
 go_wp2_with fail
 clear Lo co0 co1 co2 co3 fo0 fo1 fo2 fo3
 generalize hW3:((((v2.setCell ⟨go,0,none⟩ (.int .u64 (wd r 0))).setCell ⟨go,1,none⟩ (.int .u64 (wd r 1))).setCell ⟨go,2,none⟩ (.int .u64 (wd r 2))).setCell ⟨go,3,none⟩ (.int .u64 (wd r 3)))=W3 at *
 have Nm:=Jd hW3 ((Fm.out).far4 Dmo _ _ _ _)
 have Na:=Jd hW3 ((Fa.out).far4 Dao _ _ _ _)
 have No:=Jd hW3 ((Fo.out).put4 _ _ _ _)
 have NB:=Ke hW3 (((((BW.out).setCell Eo _).setCell Eo _).setCell Eo _).setCell Eo _)
 clear hW3 BW Fm Fa Fo
 have Fm:=Jgm Nm
 have Fa:=Jgm Na
 have Fo:=Jgm No
 have BW:=Jgm NB
 clear NB Nm Na No
 have Dos:go≠W3.heap.size:=by have:=Fo.out.lt;omega
 generalize hW4:(W3.alloc (.cells (ncs r) 24))=W4 at *
 have Ns:At W4 (W3.heap.size) _ _:=Jd hW4 (At.at_ _ _ _ _ (by simp))
 have Nm:=Jd hW4 (Fm.out.alloc _)
 have Na:=Jd hW4 (Fa.out.alloc _)
 have No:=Jd hW4 (Fo.out.alloc _)
 have NB:=Ke hW4 (Jb BW.out _)
 clear hW4 BW Fm Fa Fo
 generalize W3.heap.size=gs at *
 have Fm:=Jgm Nm
 have Fa:=Jgm Na
 have Fo:=Jgm No
 have Fs:=Jgm Ns
 have BW:=Jgm NB
 clear NB Nm Na No Ns
 have Lo:=Fo.out.lt
 have co0:=Fo.out.c0;have co1:=Fo.out.c1;have co2:=Fo.out.c2;have co3:=Fo.out.c3
 refine bodyPost_ret (v:=num r) (by simp [results,Try.results93,go_sem, *]) rfl ⟨rfl,BW.out⟩

theorem back_walk (gt gm gr M T X r:Nat)
  (c1:∀ (gt gm:Nat) (w:World),At w gt 24 (ncs T)→At w gm 24 (ncs M)→Calls Try.prog 92 #[num X,.agg #[.int .u64 0,.int .u64 0,.int .u64 0,.int .u64 0],.pointer (some ⟨gt,0,none⟩),.pointer (some ⟨gm,0,none⟩)] w fun e w'=>e=.returned (num r)∧Below w.heap.size w w')
  (w:World) (Pt:At w gt 24 (ncs T)) (Pm:At w gm 24 (ncs M)) (Pr:At w gr 110 #[.func (.func 92) #[] #[.pointer (some ⟨gt,0,none⟩),.pointer (some ⟨gm,0,none⟩)]]):Calls Try.prog 94 #[num X,.pointer (some ⟨gr,0,none⟩)] w fun e w'=>e=.returned (num r)∧Below w.heap.size w w':=by
 have Hc1:=Jgm c1
 clear c1
 have Ft:=Jgm Pt
 have Fm:=Jgm Pm
 have Fr:=Jgm Pr
 clear Pt Pm Pr
 have Lr:=Fr.out.lt
 have cr0:w.cell? ⟨gr,0,none⟩=some (.func (.func 92) #[] #[.pointer (some ⟨gt,0,none⟩),.pointer (some ⟨gm,0,none⟩)]):=Fr.out.cell 0
 have Lr_1:gr<w.heap.size+1:=by omega
 go_enter Try.func94,Try.ntmps94
 go_wp2_with fail
 clear Lr cr0 Lr_1
 have BW:=Jgm (Below.refl w.heap.size w)
 have Eo:w.heap.size≤w.heap.size+1:=by have:=BW.out.size;omega
 have Dto:gt≠w.heap.size+1:=by have:=Ft.out.lt;omega
 have Dmo:gm≠w.heap.size+1:=by have:=Fm.out.lt;omega
 have Dro:gr≠w.heap.size+1:=by have:=Fr.out.lt;omega
 have Dao:w.heap.size≠w.heap.size+1:=by omega
 generalize hW1:((w.alloc (.cells (ncs X) 24)).alloc (.cells #[.int .u64 0,.int .u64 0,.int .u64 0,.int .u64 0] 24))=W1 at *
 have Na:At W1 (w.heap.size) _ _:=Jd hW1 ((At.at_ _ _ _ _ (by simp)).alloc _)
 have No:At W1 (w.heap.size+1) _ _:=Jd hW1 (At.at_ _ _ _ _ (by simp))
 have Nt:=Jd hW1 ((Ft.out.alloc _).alloc _)
 have Nm:=Jd hW1 ((Fm.out.alloc _).alloc _)
 have Nr:=Jd hW1 ((Fr.out.alloc _).alloc _)
 have NB:=Ke hW1 (Jb (Jb BW.out _) _)
 clear hW1 BW Ft Fm Fr
 generalize w.heap.size+1=go at *
 obtain ⟨ga,hg0⟩:∃ g,g=w.heap.size:=⟨_,rfl⟩
 rw [← hg0] at Na ⊢
 rw [← hg0] at Dao
 clear hg0
 have Ft:=Jgm Nt
 have Fm:=Jgm Nm
 have Fr:=Jgm Nr
 have Fa:=Jgm Na
 have Fo:=Jgm No
 have BW:=Jgm NB
 clear NB Nt Nm Nr Na No
 refine (Hc1.out _ _ _ Ft.out Fm.out).mono ?_
 rintro e v2 ⟨rfl,z2⟩
 have Nt:=Jgm (Ft.out.on z2)
 have Nm:=Jgm (Fm.out.on z2)
 have Nr:=Jgm (Fr.out.on z2)
 have Na:=Jgm (Fa.out.on z2)
 have No:=Jgm (Fo.out.on z2)
 have NB:=Jgm (Jw BW.out z2)
 clear BW z2 Ft Fm Fr Fa Fo
 have Ft:=Nt
 have Fm:=Nm
 have Fr:=Nr
 have Fa:=Na
 have Fo:=No
 have BW:=NB
 clear NB Nt Nm Nr Na No
 have Lo:=Fo.out.lt
 have co0:=Fo.out.c0;have co1:=Fo.out.c1;have co2:=Fo.out.c2;have co3:=Fo.out.c3
 obtain ⟨fo0,fo1,fo2,fo3⟩:=Wc Fo.out
 go_wp2_with fail
 clear Lo co0 co1 co2 co3 fo0 fo1 fo2 fo3
 generalize hW3:((((v2.setCell ⟨go,0,none⟩ (.int .u64 (wd r 0))).setCell ⟨go,1,none⟩ (.int .u64 (wd r 1))).setCell ⟨go,2,none⟩ (.int .u64 (wd r 2))).setCell ⟨go,3,none⟩ (.int .u64 (wd r 3)))=W3 at *
 have Nt:=Jd hW3 ((Ft.out).far4 Dto _ _ _ _)
 have Nm:=Jd hW3 ((Fm.out).far4 Dmo _ _ _ _)
 have Nr:=Jd hW3 ((Fr.out).far4 Dro _ _ _ _)
 have Na:=Jd hW3 ((Fa.out).far4 Dao _ _ _ _)
 have No:=Jd hW3 ((Fo.out).put4 _ _ _ _)
 have NB:=Ke hW3 (((((BW.out).setCell Eo _).setCell Eo _).setCell Eo _).setCell Eo _)
 clear hW3 BW Ft Fm Fr Fa Fo
 have Ft:=Jgm Nt
 have Fm:=Jgm Nm
 have Fr:=Jgm Nr
 have Fa:=Jgm Na
 have Fo:=Jgm No
 have BW:=Jgm NB
 clear NB Nt Nm Nr Na No
 have Lo:=Fo.out.lt
 have co0:=Fo.out.c0;have co1:=Fo.out.c1;have co2:=Fo.out.c2;have co3:=Fo.out.c3
 refine bodyPost_ret (v:=num r) (by simp [results,Try.results94,go_sem, *]) rfl ⟨rfl,BW.out⟩

theorem times_walk (gt gm gr M T X Y low high r:Nat)
  (c1:∀ w,Calls Try.prog 76 #[num X,num Y] w fun e w'=>e=.returned (.tuple #[num low,num high])∧Below w.heap.size w w')
  (c2:∀ (gt gm:Nat) (w:World),At w gt 24 (ncs T)→At w gm 24 (ncs M)→Calls Try.prog 92 #[num low,num high,.pointer (some ⟨gt,0,none⟩),.pointer (some ⟨gm,0,none⟩)] w fun e w'=>e=.returned (num r)∧Below w.heap.size w w')
  (w:World) (Pt:At w gt 24 (ncs T)) (Pm:At w gm 24 (ncs M)) (Pr:At w gr 110 #[.func (.func 92) #[] #[.pointer (some ⟨gt,0,none⟩),.pointer (some ⟨gm,0,none⟩)]]):Calls Try.prog 95 #[num X,num Y,.pointer (some ⟨gr,0,none⟩)] w fun e w'=>e=.returned (num r)∧Below w.heap.size w w':=by
 have Hc1:=Jgm c1
 have Hc2:=Jgm c2
 clear c1 c2
 have Ft:=Jgm Pt
 have Fm:=Jgm Pm
 have Fr:=Jgm Pr
 clear Pt Pm Pr
 go_enter Try.func95,Try.ntmps95
 go_wp2_with fail
 have BW:=Jgm (Below.refl w.heap.size w)
 have Eo:w.heap.size≤w.heap.size+1+1:=by have:=BW.out.size;omega
 have Dto:gt≠w.heap.size+1+1:=by have:=Ft.out.lt;omega
 have Dmo:gm≠w.heap.size+1+1:=by have:=Fm.out.lt;omega
 have Dro:gr≠w.heap.size+1+1:=by have:=Fr.out.lt;omega
 have Dao:w.heap.size≠w.heap.size+1+1:=by omega
 have Dbo:w.heap.size+1≠w.heap.size+1+1:=by omega
 generalize hW1:(((w.alloc (.cells (ncs X) 24)).alloc (.cells (ncs Y) 24)).alloc (.cells #[.int .u64 0,.int .u64 0,.int .u64 0,.int .u64 0] 24))=W1 at *
 have Na:At W1 (w.heap.size) _ _:=Jd hW1 (((At.at_ _ _ _ _ (by simp)).alloc _).alloc _)
 have Nb:At W1 (w.heap.size+1) _ _:=Jd hW1 ((At.at_ _ _ _ _ (by simp)).alloc _)
 have No:At W1 (w.heap.size+1+1) _ _:=Jd hW1 (At.at_ _ _ _ _ (by simp))
 have Nt:=Jd hW1 (((Ft.out.alloc _).alloc _).alloc _)
 have Nm:=Jd hW1 (((Fm.out.alloc _).alloc _).alloc _)
 have Nr:=Jd hW1 (((Fr.out.alloc _).alloc _).alloc _)
 have NB:=Ke hW1 (Jb (Jb (Jb BW.out _) _) _)
 clear hW1 BW Ft Fm Fr
 generalize w.heap.size+1+1=go at *
 generalize w.heap.size+1=gb at *
 obtain ⟨ga,hg0⟩:∃ g,g=w.heap.size:=⟨_,rfl⟩
 rw [← hg0] at Na ⊢
 rw [← hg0] at Dao
 clear hg0
 have Ft:=Jgm Nt
 have Fm:=Jgm Nm
 have Fr:=Jgm Nr
 have Fa:=Jgm Na
 have Fb:=Jgm Nb
 have Fo:=Jgm No
 have BW:=Jgm NB
 clear NB Nt Nm Nr Na Nb No
 try simp only [List.append_eq,List.cons_append,List.nil_append]
 refine wp_region_noPanic ?_
 refine wp_region_held_drew (S:=fun w'=>At w' gr 110 #[.func (.func 92) #[] #[.pointer (some ⟨gt,0,none⟩),.pointer (some ⟨gm,0,none⟩)]]) (by kernel_rfl) (Fr.out.drew) (fun _=>?_)
 refine Kf (fuel:=1) (⟨0,6,[],Kind.val (.func (.func 92) #[] #[.pointer (some ⟨gt,0,none⟩),.pointer (some ⟨gm,0,none⟩)]),true⟩::⟨1,7,[],Kind.val (num X),false⟩::⟨2,8,[],Kind.val (num Y),false⟩::⟨3,9,[1,2],Kind.val (.tuple #[num low,num high]),false⟩::⟨4,10,[3],Kind.val (num low),true⟩::⟨5,11,[3],Kind.val (num high),true⟩::⟨6,12,[0,4,5,3],Kind.val (num r),false⟩::[]) _ _ W1 _ ?_ ?_ ?_ ?_ ?_ ?_ ?_ ?_ ?_ ?_ ?_
 ·rfl
 ·kernel_rfl
 ·exact of_decide_eq_true rfl
 ·(repeat refine all_cons ⟨_,rfl,rfl⟩ ?_);exact Jj
 ·exact fun _ hb=>Fr.out.on hb
 ·exact (Below.refl _ _).drew
 ·kernel_rfl
 ·exact fun _ _ _ _ _ h=>h
 ·(repeat (refine all_cons ?_ ?_;rotate_left));exact Jj
  all_goals try exact Jq _ (by rfl)
  ·exact Ul _ _ _ _ _ _ _ _ (by rfl) (by rfl) (ko 2) (fun ρ w hx hs=>loadF_run _ _ _ _ _ _ ρ w gr 0 _ hx (hs.cell 0))
  ·exact Uo _ _ 0 _ _ _ _ _ (by rfl) (by rfl) (kc 3 9) (by rfl)
  ·exact Uo _ _ 1 _ _ _ _ _ (by rfl) (by rfl) (kc 3 9) (by rfl)
 ·(repeat (refine all_cons ?_ ?_;rotate_left));exact Jj
  all_goals try exact sA
  ·exact fun _=>Uv _ _ _ _ _ ga _ _ _ _ (by rfl) (by rfl) (ko 3) Fa.out
  ·exact fun _=>Uv _ _ _ _ _ gb _ _ _ _ (by rfl) (by rfl) (ko 4) Fb.out
  ·exact fun _=>Um _ 76 _ _ [.tmp 7,.tmp 8] _ _ _ _ _ _ (by rfl) Try.func76 (by kernel_rfl) (by rfl) (by rfl) (.cons (kc 1 7) (.cons (kc 2 8) .nil)) (Hc1.out)
  ·exact fun _=>Xj _ 92 _ _ (.tmp 6) #[.pointer (some ⟨gt,0,none⟩),.pointer (some ⟨gm,0,none⟩)] [.tmp 10,.tmp 11] _ _ _ _ _ _ _ (by rfl) Try.func92 (by kernel_rfl) (by rfl) (by rfl) (kc 0 6) (.cons (kc 4 10) (.cons (kc 5 11) .nil)) (by rfl) (fun w hb=>Hc2.out _ _ _ (Ft.out.on hb) (Fm.out.on hb))
 intro vs y2 hc
 obtain ⟨vv0,vv1,vv2,vv3,vv4,vv5,vv6,rfl⟩:=Jgi vs hc.lv
 have qq0:=okv hc 0
 have qq1:=okv hc 1
 have qq2:=okv hc 2
 have qq3:=okv hc 3
 have qq4:=okv hc 4
 have qq5:=okv hc 5
 have qq6:=okv hc 6
 have BZ:=hc.bel
 clear hc
 have Nt:=Ft.out.on BZ
 have Nm:=Fm.out.on BZ
 have Nr:=Fr.out.on BZ
 have Na:=Fa.out.on BZ
 have Nb:=Fb.out.on BZ
 have No:=Fo.out.on BZ
 have HSZ2:=BW.out.size
 have NB:=Jw BW.out BZ
 clear BW BZ Ft Fm Fr Fa Fb Fo
 subst qq0 qq1 qq2 qq3 qq4 qq5 qq6
 simp only [List.map_cons,List.map_nil,over,Act.put,List.setIfInBounds_toArray,List.set_cons_zero,List.set_cons_succ]
 have OLD:=No
 replace Nt:=p4f Nt Dto r
 replace Nm:=p4f Nm Dmo r
 replace Nr:=p4f Nr Dro r
 replace Na:=p4f Na Dao r
 replace Nb:=p4f Nb Dbo r
 replace No:=p4a No r
 replace NB:=p4b NB Eo r
 refine Uu (i:=7) _ _ _ _ _ go _ _ _ _ _ _ _ _ (by kernel_rfl) (by rfl) (by rfl) (by rfl) OLD (Nr) ?_
 clear OLD
 generalize (put4 y2 go (.int .u64 (wd r 0)) (.int .u64 (wd r 1)) (.int .u64 (wd r 2)) (.int .u64 (wd r 3)))=y2_7 at *
 refine wpAnyH_done (by kernel_rfl) ?_ _
 refine NoPanic.normal ?_
 have Ft:=Jgm Nt
 have Fm:=Jgm Nm
 have Fr:=Jgm Nr
 have Fa:=Jgm Na
 have Fb:=Jgm Nb
 have Fo:=Jgm No
 have BW:=Jgm NB
 clear NB Nt Nm Nr Na Nb No
 clear HSZ2
 have Lo:=Fo.out.lt
 have co0:=Fo.out.c0;have co1:=Fo.out.c1;have co2:=Fo.out.c2;have co3:=Fo.out.c3
 go_wp2_with fail
 refine bodyPost_ret (v:=num r) (by simp [results,Try.results95,go_sem, *]) rfl ⟨rfl,BW.out⟩

theorem same_any (X:Nat) (w:World):Calls Try.prog 96 #[num X] w fun e w'=>e=.returned (num X)∧Below w.heap.size w w':=by
 go_enter Try.func96,Try.ntmps96
 go_wp2_with fail
 refine bodyPost_ret (v:=num X) (by simp [results,Try.results96,go_sem, *]) rfl ⟨rfl,?_⟩
 repeat (first | exact Below.refl _ _ | refine Jb ?_ _ | refine Below.setCell ?_ (by simp) _ | refine Below.setCell ?_ (by simp;omega) _)

theorem ptimes_walk (gm M X Y r:Nat)
  (c1:∀ w,Calls Try.prog 68 #[num X,num Y,num M] w fun e w'=>e=.returned (.tuple #[num r,.int .i64 0])∧Below w.heap.size w w')
  (w:World) (Pm:At w gm 24 (ncs M)):Calls Try.prog 97 #[num X,num Y,.pointer (some ⟨gm,0,none⟩)] w fun e w'=>e=.returned (num r)∧Below w.heap.size w w':=by
 have Hc1:=Jgm c1
 clear c1
 have Fm:=Jgm Pm
 clear Pm
 have Lm:=Fm.out.lt
 obtain ⟨cm0,cm1,cm2,cm3⟩:=Ku Fm.out
 have Lm_1:gm<w.heap.size+1:=by omega
 have Lm_2:gm<w.heap.size+1+1:=by omega
 go_enter Try.func97,Try.ntmps97
 go_wp2_with fail
 clear Lm cm0 cm1 cm2 cm3 Lm_1 Lm_2
 have BW:=Jgm (Below.refl w.heap.size w)
 have Eo:w.heap.size≤w.heap.size+1+1:=by have:=BW.out.size;omega
 have Dmo:gm≠w.heap.size+1+1:=by have:=Fm.out.lt;omega
 have Dao:w.heap.size≠w.heap.size+1+1:=by omega
 have Dbo:w.heap.size+1≠w.heap.size+1+1:=by omega
 generalize hW1:(((w.alloc (.cells (ncs X) 24)).alloc (.cells (ncs Y) 24)).alloc (.cells #[.int .u64 0,.int .u64 0,.int .u64 0,.int .u64 0] 24))=W1 at *
 have Na:At W1 (w.heap.size) _ _:=Jd hW1 (((At.at_ _ _ _ _ (by simp)).alloc _).alloc _)
 have Nb:At W1 (w.heap.size+1) _ _:=Jd hW1 ((At.at_ _ _ _ _ (by simp)).alloc _)
 have No:At W1 (w.heap.size+1+1) _ _:=Jd hW1 (At.at_ _ _ _ _ (by simp))
 have Nm:=Jd hW1 (((Fm.out.alloc _).alloc _).alloc _)
 have NB:=Ke hW1 (Jb (Jb (Jb BW.out _) _) _)
 clear hW1 BW Fm
 generalize w.heap.size+1+1=go at *
 generalize w.heap.size+1=gb at *
 obtain ⟨ga,hg0⟩:∃ g,g=w.heap.size:=⟨_,rfl⟩
 rw [← hg0] at Na ⊢
 rw [← hg0] at Dao
 clear hg0
 have Fm:=Jgm Nm
 have Fa:=Jgm Na
 have Fb:=Jgm Nb
 have Fo:=Jgm No
 have BW:=Jgm NB
 clear NB Nm Na Nb No
 refine (Hc1.out _).mono ?_
 rintro e v2 ⟨rfl,z2⟩
 have Nm:=Jgm (Fm.out.on z2)
 have Na:=Jgm (Fa.out.on z2)
 have Nb:=Jgm (Fb.out.on z2)
 have No:=Jgm (Fo.out.on z2)
 have NB:=Jgm (Jw BW.out z2)
 clear BW z2 Fm Fa Fb Fo
 have Fm:=Nm
 have Fa:=Na
 have Fb:=Nb
 have Fo:=No
 have BW:=NB
 clear NB Nm Na Nb No
 have Lo:=Fo.out.lt
 have co0:=Fo.out.c0;have co1:=Fo.out.c1;have co2:=Fo.out.c2;have co3:=Fo.out.c3
 obtain ⟨fo0,fo1,fo2,fo3⟩:=Wc Fo.out
 go_wp2_with fail
 clear Lo co0 co1 co2 co3 fo0 fo1 fo2 fo3
 generalize hW3:((((v2.setCell ⟨go,0,none⟩ (.int .u64 (wd r 0))).setCell ⟨go,1,none⟩ (.int .u64 (wd r 1))).setCell ⟨go,2,none⟩ (.int .u64 (wd r 2))).setCell ⟨go,3,none⟩ (.int .u64 (wd r 3)))=W3 at *
 have Nm:=Jd hW3 ((Fm.out).far4 Dmo _ _ _ _)
 have Na:=Jd hW3 ((Fa.out).far4 Dao _ _ _ _)
 have Nb:=Jd hW3 ((Fb.out).far4 Dbo _ _ _ _)
 have No:=Jd hW3 ((Fo.out).put4 _ _ _ _)
 have NB:=Ke hW3 (((((BW.out).setCell Eo _).setCell Eo _).setCell Eo _).setCell Eo _)
 clear hW3 BW Fm Fa Fb Fo
 have Fm:=Jgm Nm
 have Fa:=Jgm Na
 have Fb:=Jgm Nb
 have Fo:=Jgm No
 have BW:=Jgm NB
 clear NB Nm Na Nb No
 have Dos:go≠W3.heap.size:=by have:=Fo.out.lt;omega
 generalize hW4:(W3.alloc (.cells (ncs r) 24))=W4 at *
 have Ns:At W4 (W3.heap.size) _ _:=Jd hW4 (At.at_ _ _ _ _ (by simp))
 have Nm:=Jd hW4 (Fm.out.alloc _)
 have Na:=Jd hW4 (Fa.out.alloc _)
 have Nb:=Jd hW4 (Fb.out.alloc _)
 have No:=Jd hW4 (Fo.out.alloc _)
 have NB:=Ke hW4 (Jb BW.out _)
 clear hW4 BW Fm Fa Fb Fo
 generalize W3.heap.size=gs at *
 have Fm:=Jgm Nm
 have Fa:=Jgm Na
 have Fb:=Jgm Nb
 have Fo:=Jgm No
 have Fs:=Jgm Ns
 have BW:=Jgm NB
 clear NB Nm Na Nb No Ns
 have Lo:=Fo.out.lt
 have co0:=Fo.out.c0;have co1:=Fo.out.c1;have co2:=Fo.out.c2;have co3:=Fo.out.c3
 refine bodyPost_ret (v:=num r) (by simp [results,Try.results97,go_sem, *]) rfl ⟨rfl,BW.out⟩

end Go.Proofs.Ytcbnmdkmfdjpiaa
