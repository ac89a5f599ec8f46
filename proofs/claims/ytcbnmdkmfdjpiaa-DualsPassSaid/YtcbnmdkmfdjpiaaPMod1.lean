import Derived.Test.YtcbnmdkmfdjpiaaPCell
import Derived.Test.YtcbnmdkmfdjpiaaPCommon
import Derived.Test.YtcbnmdkmfdjpiaaPModE
import Derived.Test.YtcbnmdkmfdjpiaaPShort
namespace Go.Proofs.Ytcbnmdkmfdjpiaa
set_option maxRecDepth 100000
set_option maxHeartbeats 8000000
open Go.RowKit
set_option linter.unusedSimpArgs false
set_option linter.unusedVariables false
attribute [local go_sem ↓] Go.wp_at_zero Go.wp_at_succ

theorem diff_none (A B M S:Nat)
  (cs:∀ w,Calls Try.prog 65 #[num A,num B] w fun e w'=>e=.returned (.tuple #[num S,.int .u64 0])∧Below w.heap.size w w')
  (w:World):Calls Try.prog 66 #[num A,num B,num M] w fun e w'=>e=.returned (.tuple #[num S,.int .i64 0])∧Below w.heap.size w w':=by
 have Hcs:=Jgm cs
 clear cs
 go_enter Try.func66,Try.ntmps66
 go_wp2_with fail
 have BW:=Jgm (Below.refl w.heap.size w)
 have Ex:w.heap.size≤w.heap.size+1+1+1:=by have:=BW.out.size;omega
 have Dax:w.heap.size≠w.heap.size+1+1+1:=by omega
 have Dbx:w.heap.size+1≠w.heap.size+1+1+1:=by omega
 have Dmx:w.heap.size+1+1≠w.heap.size+1+1+1:=by omega
 generalize hW1:((((w.alloc (.cells (ncs A) 24)).alloc (.cells (ncs B) 24)).alloc (.cells (ncs M) 24)).alloc (.cells #[.int .u64 0,.int .u64 0,.int .u64 0,.int .u64 0] 24))=W1 at *
 have Na:At W1 (w.heap.size) _ _:=Jd hW1 ((((At.at_ _ _ _ _ (by simp)).alloc _).alloc _).alloc _)
 have Nb:At W1 (w.heap.size+1) _ _:=Jd hW1 (((At.at_ _ _ _ _ (by simp)).alloc _).alloc _)
 have Nm:At W1 (w.heap.size+1+1) _ _:=Jd hW1 ((At.at_ _ _ _ _ (by simp)).alloc _)
 have Nx:At W1 (w.heap.size+1+1+1) _ _:=Jd hW1 (At.at_ _ _ _ _ (by simp))
 have NB:=Ke hW1 (Jb (Jb (Jb (Jb BW.out _) _) _) _)
 clear hW1 BW 
 generalize w.heap.size+1+1+1=gx at *
 generalize w.heap.size+1+1=gm at *
 generalize w.heap.size+1=gb at *
 obtain ⟨ga,hg0⟩:∃ g,g=w.heap.size:=⟨_,rfl⟩
 rw [← hg0] at Na ⊢
 rw [← hg0] at Dax
 clear hg0
 have Fa:=Jgm Na
 have Fb:=Jgm Nb
 have Fm:=Jgm Nm
 have Fx:=Jgm Nx
 have BW:=Jgm NB
 clear NB Na Nb Nm Nx
 refine (Hcs.out _).mono ?_
 rintro e v2 ⟨rfl,z2⟩
 have Na:=Jgm (Fa.out.on z2)
 have Nb:=Jgm (Fb.out.on z2)
 have Nm:=Jgm (Fm.out.on z2)
 have Nx:=Jgm (Fx.out.on z2)
 have NB:=Jgm (Jw BW.out z2)
 clear BW z2 Fa Fb Fm Fx
 have Fa:=Na
 have Fb:=Nb
 have Fm:=Nm
 have Fx:=Nx
 have BW:=NB
 clear NB Na Nb Nm Nx
 have Lx:=Fx.out.lt
 have cx0:=Fx.out.c0;have cx1:=Fx.out.c1;have cx2:=Fx.out.c2;have cx3:=Fx.out.c3
 obtain ⟨fx0,fx1,fx2,fx3⟩:=Wc Fx.out
 go_wp2_with fail
 clear Lx cx0 cx1 cx2 cx3 fx0 fx1 fx2 fx3
 generalize hW3:((((v2.setCell ⟨gx,0,none⟩ (.int .u64 (wd S 0))).setCell ⟨gx,1,none⟩ (.int .u64 (wd S 1))).setCell ⟨gx,2,none⟩ (.int .u64 (wd S 2))).setCell ⟨gx,3,none⟩ (.int .u64 (wd S 3)))=W3 at *
 have Na:=Jd hW3 ((Fa.out).far4 Dax _ _ _ _)
 have Nb:=Jd hW3 ((Fb.out).far4 Dbx _ _ _ _)
 have Nm:=Jd hW3 ((Fm.out).far4 Dmx _ _ _ _)
 have Nx:=Jd hW3 ((Fx.out).put4 _ _ _ _)
 have NB:=Ke hW3 (((((BW.out).setCell Ex _).setCell Ex _).setCell Ex _).setCell Ex _)
 clear hW3 BW Fa Fb Fm Fx
 have Fa:=Jgm Na
 have Fb:=Jgm Nb
 have Fm:=Jgm Nm
 have Fx:=Jgm Nx
 have BW:=Jgm NB
 clear NB Na Nb Nm Nx
 have Dxs:gx≠W3.heap.size:=by have:=Fx.out.lt;omega
 generalize hW4:(W3.alloc (.cells (ncs S) 24))=W4 at *
 have Ns:At W4 (W3.heap.size) _ _:=Jd hW4 (At.at_ _ _ _ _ (by simp))
 have Na:=Jd hW4 (Fa.out.alloc _)
 have Nb:=Jd hW4 (Fb.out.alloc _)
 have Nm:=Jd hW4 (Fm.out.alloc _)
 have Nx:=Jd hW4 (Fx.out.alloc _)
 have NB:=Ke hW4 (Jb BW.out _)
 clear hW4 BW Fa Fb Fm Fx
 generalize W3.heap.size=gs at *
 have Fa:=Jgm Na
 have Fb:=Jgm Nb
 have Fm:=Jgm Nm
 have Fx:=Jgm Nx
 have Fs:=Jgm Ns
 have BW:=Jgm NB
 clear NB Na Nb Nm Nx Ns
 have Lx:=Fx.out.lt
 have cx0:=Fx.out.c0;have cx1:=Fx.out.c1;have cx2:=Fx.out.c2;have cx3:=Fx.out.c3
 refine bodyPost_ret (v:=.tuple #[num S,.int .i64 0]) (by simp [results,Try.results66,go_sem, *]) rfl ⟨rfl,BW.out⟩

theorem diff_some (A B M S L c:Nat)
  (cs:∀ w,Calls Try.prog 65 #[num A,num B] w fun e w'=>e=.returned (.tuple #[num S,.int .u64 1])∧Below w.heap.size w w')
  (ct:∀ w,Calls Try.prog 63 #[num S,num M] w fun e w'=>e=.returned (.tuple #[num L,.int .u64 (c:Nat)])∧Below w.heap.size w w')
  (w:World):Calls Try.prog 66 #[num A,num B,num M] w fun e w'=>e=.returned (.tuple #[num L,.int .i64 0])∧Below w.heap.size w w':=by
 have Hcs:=Jgm cs
 have Hct:=Jgm ct
 clear cs ct
 go_enter Try.func66,Try.ntmps66
 go_wp2_with fail
 have BW:=Jgm (Below.refl w.heap.size w)
 have Ex:w.heap.size≤w.heap.size+1+1+1:=by have:=BW.out.size;omega
 have Dax:w.heap.size≠w.heap.size+1+1+1:=by omega
 have Dbx:w.heap.size+1≠w.heap.size+1+1+1:=by omega
 have Dmx:w.heap.size+1+1≠w.heap.size+1+1+1:=by omega
 generalize hW1:((((w.alloc (.cells (ncs A) 24)).alloc (.cells (ncs B) 24)).alloc (.cells (ncs M) 24)).alloc (.cells #[.int .u64 0,.int .u64 0,.int .u64 0,.int .u64 0] 24))=W1 at *
 have Na:At W1 (w.heap.size) _ _:=Jd hW1 ((((At.at_ _ _ _ _ (by simp)).alloc _).alloc _).alloc _)
 have Nb:At W1 (w.heap.size+1) _ _:=Jd hW1 (((At.at_ _ _ _ _ (by simp)).alloc _).alloc _)
 have Nm:At W1 (w.heap.size+1+1) _ _:=Jd hW1 ((At.at_ _ _ _ _ (by simp)).alloc _)
 have Nx:At W1 (w.heap.size+1+1+1) _ _:=Jd hW1 (At.at_ _ _ _ _ (by simp))
 have NB:=Ke hW1 (Jb (Jb (Jb (Jb BW.out _) _) _) _)
 clear hW1 BW 
 generalize w.heap.size+1+1+1=gx at *
 generalize w.heap.size+1+1=gm at *
 generalize w.heap.size+1=gb at *
 obtain ⟨ga,hg0⟩:∃ g,g=w.heap.size:=⟨_,rfl⟩
 rw [← hg0] at Na ⊢
 rw [← hg0] at Dax
 clear hg0
 have Fa:=Jgm Na
 have Fb:=Jgm Nb
 have Fm:=Jgm Nm
 have Fx:=Jgm Nx
 have BW:=Jgm NB
 clear NB Na Nb Nm Nx
 refine (Hcs.out _).mono ?_
 rintro e v2 ⟨rfl,z2⟩
 have Na:=Jgm (Fa.out.on z2)
 have Nb:=Jgm (Fb.out.on z2)
 have Nm:=Jgm (Fm.out.on z2)
 have Nx:=Jgm (Fx.out.on z2)
 have NB:=Jgm (Jw BW.out z2)
 clear BW z2 Fa Fb Fm Fx
 have Fa:=Na
 have Fb:=Nb
 have Fm:=Nm
 have Fx:=Nx
 have BW:=NB
 clear NB Na Nb Nm Nx
 have Lm:=Fm.out.lt
 have cm0:=Fm.out.c0;have cm1:=Fm.out.c1;have cm2:=Fm.out.c2;have cm3:=Fm.out.c3
 go_wp2_with fail
 clear Lm cm0 cm1 cm2 cm3
 have Es:w.heap.size≤v2.heap.size:=by have:=BW.out.size;omega
 have Das:ga≠v2.heap.size:=by have:=Fa.out.lt;omega
 have Dbs:gb≠v2.heap.size:=by have:=Fb.out.lt;omega
 have Dms:gm≠v2.heap.size:=by have:=Fm.out.lt;omega
 have Dxs:gx≠v2.heap.size:=by have:=Fx.out.lt;omega
 generalize hW3:(v2.alloc (.cells (ncs S) 24))=W3 at *
 have Ns:At W3 (v2.heap.size) _ _:=Jd hW3 (At.at_ _ _ _ _ (by simp))
 have Na:=Jd hW3 (Fa.out.alloc _)
 have Nb:=Jd hW3 (Fb.out.alloc _)
 have Nm:=Jd hW3 (Fm.out.alloc _)
 have Nx:=Jd hW3 (Fx.out.alloc _)
 have NB:=Ke hW3 (Jb BW.out _)
 clear hW3 BW Fa Fb Fm Fx
 generalize v2.heap.size=gs at *
 have Fa:=Jgm Na
 have Fb:=Jgm Nb
 have Fm:=Jgm Nm
 have Fx:=Jgm Nx
 have Fs:=Jgm Ns
 have BW:=Jgm NB
 clear NB Na Nb Nm Nx Ns
 refine (Hct.out _).mono ?_
 rintro e v4 ⟨rfl,z4⟩
 have Na:=Jgm (Fa.out.on z4)
 have Nb:=Jgm (Fb.out.on z4)
 have Nm:=Jgm (Fm.out.on z4)
 have Nx:=Jgm (Fx.out.on z4)
 have Ns:=Jgm (Fs.out.on z4)
 have NB:=Jgm (Jw BW.out z4)
 clear BW z4 Fa Fb Fm Fx Fs
 have Fa:=Na
 have Fb:=Nb
 have Fm:=Nm
 have Fx:=Nx
 have Fs:=Ns
 have BW:=NB
 clear NB Na Nb Nm Nx Ns
 have Ls:=Fs.out.lt
 have cs0:=Fs.out.c0;have cs1:=Fs.out.c1;have cs2:=Fs.out.c2;have cs3:=Fs.out.c3
 obtain ⟨fs0,fs1,fs2,fs3⟩:=Wc Fs.out
 have Lx:=Fx.out.lt
 have cx0:=Fx.out.c0;have cx1:=Fx.out.c1;have cx2:=Fx.out.c2;have cx3:=Fx.out.c3
 obtain ⟨fx0,fx1,fx2,fx3⟩:=Wc Fx.out
 go_wp2_with fail
 clear Ls cs0 cs1 cs2 cs3 fs0 fs1 fs2 fs3 Lx cx0 cx1 cx2 cx3 fx0 fx1 fx2 fx3
 generalize hW5:((((((((v4.setCell ⟨gs,0,none⟩ (.int .u64 (wd L 0))).setCell ⟨gs,1,none⟩ (.int .u64 (wd L 1))).setCell ⟨gs,2,none⟩ (.int .u64 (wd L 2))).setCell ⟨gs,3,none⟩ (.int .u64 (wd L 3))).setCell ⟨gx,0,none⟩ (.int .u64 (wd L 0))).setCell ⟨gx,1,none⟩ (.int .u64 (wd L 1))).setCell ⟨gx,2,none⟩ (.int .u64 (wd L 2))).setCell ⟨gx,3,none⟩ (.int .u64 (wd L 3)))=W5 at *
 have Na:=Jd hW5 (((Fa.out).far4 Das _ _ _ _).far4 Dax _ _ _ _)
 have Nb:=Jd hW5 (((Fb.out).far4 Dbs _ _ _ _).far4 Dbx _ _ _ _)
 have Nm:=Jd hW5 (((Fm.out).far4 Dms _ _ _ _).far4 Dmx _ _ _ _)
 have Nx:=Jd hW5 (((Fx.out).far4 Dxs _ _ _ _).put4 _ _ _ _)
 have Ns:=Jd hW5 (((Fs.out).put4 _ _ _ _).far4 Dxs.symm _ _ _ _)
 have NB:=Ke hW5 (((((((((BW.out).setCell Es _).setCell Es _).setCell Es _).setCell Es _).setCell Ex _).setCell Ex _).setCell Ex _).setCell Ex _)
 clear hW5 BW Fa Fb Fm Fx Fs
 have Fa:=Jgm Na
 have Fb:=Jgm Nb
 have Fm:=Jgm Nm
 have Fx:=Jgm Nx
 have Fs:=Jgm Ns
 have BW:=Jgm NB
 clear NB Na Nb Nm Nx Ns
 have Lx:=Fx.out.lt
 have cx0:=Fx.out.c0;have cx1:=Fx.out.c1;have cx2:=Fx.out.c2;have cx3:=Fx.out.c3
 refine bodyPost_ret (v:=.tuple #[num L,.int .i64 0]) (by simp [results,Try.results66,go_sem, *]) rfl ⟨rfl,BW.out⟩

theorem Jes (A B M:Nat) (hA:A<M) (hB:B<M) (hM:M<2^256):∃ L c:Nat,L<M∧c≤1∧A+M*c=L+B ∧
  ∀ w,Calls Try.prog 66 #[num A,num B,num M] w fun e w'=>e=.returned (.tuple #[num L,.int .i64 0])∧Below w.heap.size w w':=by
 obtain ⟨S,c,hS,hc,he,C⟩:=Jdx A B (by omega) (by omega)
 have h01:c=0∨c=1:=by omega
 rcases h01 with rfl | rfl
 ·exact ⟨S,0,by omega,by omega,by omega,fun w=>diff_none A B M S C w⟩
 ·obtain ⟨L,d,hL,hd,he2,C2⟩:=Jfs S M hS hM
  have:d=1:=by omega
  subst this
  exact ⟨L,1,by omega,by omega,by omega,fun w=>diff_some A B M S L 1 C C2 w⟩

theorem prod_some (A B M L H r:Nat)
  (cs:∀ w,Calls Try.prog 76 #[num A,num B] w fun e w'=>e=.returned (.tuple #[num L,num H])∧Below w.heap.size w w')
  (ct:∀ w,Calls Try.prog 77 #[num L,num H,num M] w fun e w'=>e=.returned (.tuple #[num r,.int .i64 0])∧Below w.heap.size w w')
  (w:World):Calls Try.prog 68 #[num A,num B,num M] w fun e w'=>e=.returned (.tuple #[num r,.int .i64 0])∧Below w.heap.size w w':=by
 have Hcs:=Jgm cs
 have Hct:=Jgm ct
 clear cs ct
 go_enter Try.func68,Try.ntmps68
 go_wp2_with fail
 have BW:=Jgm (Below.refl w.heap.size w)
 have Ex:w.heap.size≤w.heap.size+1+1+1:=by have:=BW.out.size;omega
 have Dax:w.heap.size≠w.heap.size+1+1+1:=by omega
 have Dbx:w.heap.size+1≠w.heap.size+1+1+1:=by omega
 have Dmx:w.heap.size+1+1≠w.heap.size+1+1+1:=by omega
 generalize hW1:((((w.alloc (.cells (ncs A) 24)).alloc (.cells (ncs B) 24)).alloc (.cells (ncs M) 24)).alloc (.cells #[.int .u64 0,.int .u64 0,.int .u64 0,.int .u64 0] 24))=W1 at *
 have Na:At W1 (w.heap.size) _ _:=Jd hW1 ((((At.at_ _ _ _ _ (by simp)).alloc _).alloc _).alloc _)
 have Nb:At W1 (w.heap.size+1) _ _:=Jd hW1 (((At.at_ _ _ _ _ (by simp)).alloc _).alloc _)
 have Nm:At W1 (w.heap.size+1+1) _ _:=Jd hW1 ((At.at_ _ _ _ _ (by simp)).alloc _)
 have Nx:At W1 (w.heap.size+1+1+1) _ _:=Jd hW1 (At.at_ _ _ _ _ (by simp))
 have NB:=Ke hW1 (Jb (Jb (Jb (Jb BW.out _) _) _) _)
 clear hW1 BW 
 generalize w.heap.size+1+1+1=gx at *
 generalize w.heap.size+1+1=gm at *
 generalize w.heap.size+1=gb at *
 obtain ⟨ga,hg0⟩:∃ g,g=w.heap.size:=⟨_,rfl⟩
 rw [← hg0] at Na ⊢
 rw [← hg0] at Dax
 clear hg0
 have Fa:=Jgm Na
 have Fb:=Jgm Nb
 have Fm:=Jgm Nm
 have Fx:=Jgm Nx
 have BW:=Jgm NB
 clear NB Na Nb Nm Nx
 refine (Hcs.out _).mono ?_
 rintro e v2 ⟨rfl,z2⟩
 have Na:=Jgm (Fa.out.on z2)
 have Nb:=Jgm (Fb.out.on z2)
 have Nm:=Jgm (Fm.out.on z2)
 have Nx:=Jgm (Fx.out.on z2)
 have NB:=Jgm (Jw BW.out z2)
 clear BW z2 Fa Fb Fm Fx
 have Fa:=Na
 have Fb:=Nb
 have Fm:=Nm
 have Fx:=Nx
 have BW:=NB
 clear NB Na Nb Nm Nx
 have Lm:=Fm.out.lt
 have cm0:=Fm.out.c0;have cm1:=Fm.out.c1;have cm2:=Fm.out.c2;have cm3:=Fm.out.c3
 go_wp2_with fail
 clear Lm cm0 cm1 cm2 cm3
 have Dxl:gx≠v2.heap.size:=by have:=Fx.out.lt;omega
 have Dxh:gx≠v2.heap.size+1:=by have:=Fx.out.lt;omega
 generalize hW3:((v2.alloc (.cells (ncs L) 24)).alloc (.cells (ncs H) 24))=W3 at *
 have Nl:At W3 (v2.heap.size) _ _:=Jd hW3 ((At.at_ _ _ _ _ (by simp)).alloc _)
 have Nh:At W3 (v2.heap.size+1) _ _:=Jd hW3 (At.at_ _ _ _ _ (by simp))
 have Na:=Jd hW3 ((Fa.out.alloc _).alloc _)
 have Nb:=Jd hW3 ((Fb.out.alloc _).alloc _)
 have Nm:=Jd hW3 ((Fm.out.alloc _).alloc _)
 have Nx:=Jd hW3 ((Fx.out.alloc _).alloc _)
 have NB:=Ke hW3 (Jb (Jb BW.out _) _)
 clear hW3 BW Fa Fb Fm Fx
 generalize v2.heap.size+1=gh at *
 generalize v2.heap.size=gl at *
 have Fa:=Jgm Na
 have Fb:=Jgm Nb
 have Fm:=Jgm Nm
 have Fx:=Jgm Nx
 have Fl:=Jgm Nl
 have Fh:=Jgm Nh
 have BW:=Jgm NB
 clear NB Na Nb Nm Nx Nl Nh
 refine (Hct.out _).mono ?_
 rintro e v4 ⟨rfl,z4⟩
 have Na:=Jgm (Fa.out.on z4)
 have Nb:=Jgm (Fb.out.on z4)
 have Nm:=Jgm (Fm.out.on z4)
 have Nx:=Jgm (Fx.out.on z4)
 have Nl:=Jgm (Fl.out.on z4)
 have Nh:=Jgm (Fh.out.on z4)
 have NB:=Jgm (Jw BW.out z4)
 clear BW z4 Fa Fb Fm Fx Fl Fh
 have Fa:=Na
 have Fb:=Nb
 have Fm:=Nm
 have Fx:=Nx
 have Fl:=Nl
 have Fh:=Nh
 have BW:=NB
 clear NB Na Nb Nm Nx Nl Nh
 have Lx:=Fx.out.lt
 have cx0:=Fx.out.c0;have cx1:=Fx.out.c1;have cx2:=Fx.out.c2;have cx3:=Fx.out.c3
 obtain ⟨fx0,fx1,fx2,fx3⟩:=Wc Fx.out
 go_wp2_with fail
 clear Lx cx0 cx1 cx2 cx3 fx0 fx1 fx2 fx3
 generalize hW5:((((v4.setCell ⟨gx,0,none⟩ (.int .u64 (wd r 0))).setCell ⟨gx,1,none⟩ (.int .u64 (wd r 1))).setCell ⟨gx,2,none⟩ (.int .u64 (wd r 2))).setCell ⟨gx,3,none⟩ (.int .u64 (wd r 3)))=W5 at *
 have Na:=Jd hW5 ((Fa.out).far4 Dax _ _ _ _)
 have Nb:=Jd hW5 ((Fb.out).far4 Dbx _ _ _ _)
 have Nm:=Jd hW5 ((Fm.out).far4 Dmx _ _ _ _)
 have Nx:=Jd hW5 ((Fx.out).put4 _ _ _ _)
 have Nl:=Jd hW5 ((Fl.out).far4 Dxl.symm _ _ _ _)
 have Nh:=Jd hW5 ((Fh.out).far4 Dxh.symm _ _ _ _)
 have NB:=Ke hW5 (((((BW.out).setCell Ex _).setCell Ex _).setCell Ex _).setCell Ex _)
 clear hW5 BW Fa Fb Fm Fx Fl Fh
 have Fa:=Jgm Na
 have Fb:=Jgm Nb
 have Fm:=Jgm Nm
 have Fx:=Jgm Nx
 have Fl:=Jgm Nl
 have Fh:=Jgm Nh
 have BW:=Jgm NB
 clear NB Na Nb Nm Nx Nl Nh
 have Lx:=Fx.out.lt
 have cx0:=Fx.out.c0;have cx1:=Fx.out.c1;have cx2:=Fx.out.c2;have cx3:=Fx.out.c3
 refine bodyPost_ret (v:=.tuple #[num r,.int .i64 0]) (by simp [results,Try.results68,go_sem, *]) rfl ⟨rfl,BW.out⟩

theorem Jdd (A B M:Nat) (hA:A<2^256) (hB:B<2^256) (hM:M<2^256) (h0:M≠0) :
  ∀ w,Calls Try.prog 68 #[num A,num B,num M] w fun e w'=>e=.returned (.tuple #[num (A*B%M),.int .i64 0])∧Below w.heap.size w w':=by
 obtain ⟨L,H,hL,hH,he,C⟩:=Jcu A B hA hB
 obtain ⟨r,hr,er,D⟩:=wide_ex L H M hL hH hM h0
 have:r=A*B%M:=by rw [er,he];unfold wide;rw [Nat.add_comm,Nat.mul_comm]
 subst this
 exact fun w=>prod_some A B M L H _ C D w

theorem sum_over (A B M S L c:Nat)
  (cs:∀ w,Calls Try.prog 63 #[num A,num B] w fun e w'=>e=.returned (.tuple #[num S,.int .u64 1])∧Below w.heap.size w w')
  (ct:∀ w,Calls Try.prog 65 #[num S,num M] w fun e w'=>e=.returned (.tuple #[num L,.int .u64 (c:Nat)])∧Below w.heap.size w w')
  (w:World):Calls Try.prog 45 #[num A,num B,num M] w fun e w'=>e=.returned (.tuple #[num L,.int .i64 0])∧Below w.heap.size w w':=by
 have Hcs:=Jgm cs
 have Hct:=Jgm ct
 clear cs ct
 go_enter Try.func45,Try.ntmps45
 go_wp2_with fail
 have BW:=Jgm (Below.refl w.heap.size w)
 have Ex:w.heap.size≤w.heap.size+1+1+1:=by have:=BW.out.size;omega
 have Dax:w.heap.size≠w.heap.size+1+1+1:=by omega
 have Dbx:w.heap.size+1≠w.heap.size+1+1+1:=by omega
 have Dmx:w.heap.size+1+1≠w.heap.size+1+1+1:=by omega
 generalize hW1:((((w.alloc (.cells (ncs A) 24)).alloc (.cells (ncs B) 24)).alloc (.cells (ncs M) 24)).alloc (.cells #[.int .u64 0,.int .u64 0,.int .u64 0,.int .u64 0] 24))=W1 at *
 have Na:At W1 (w.heap.size) _ _:=Jd hW1 ((((At.at_ _ _ _ _ (by simp)).alloc _).alloc _).alloc _)
 have Nb:At W1 (w.heap.size+1) _ _:=Jd hW1 (((At.at_ _ _ _ _ (by simp)).alloc _).alloc _)
 have Nm:At W1 (w.heap.size+1+1) _ _:=Jd hW1 ((At.at_ _ _ _ _ (by simp)).alloc _)
 have Nx:At W1 (w.heap.size+1+1+1) _ _:=Jd hW1 (At.at_ _ _ _ _ (by simp))
 have NB:=Ke hW1 (Jb (Jb (Jb (Jb BW.out _) _) _) _)
 clear hW1 BW 
 generalize w.heap.size+1+1+1=gx at *
 generalize w.heap.size+1+1=gm at *
 generalize w.heap.size+1=gb at *
 obtain ⟨ga,hg0⟩:∃ g,g=w.heap.size:=⟨_,rfl⟩
 rw [← hg0] at Na ⊢
 rw [← hg0] at Dax
 clear hg0
 have Fa:=Jgm Na
 have Fb:=Jgm Nb
 have Fm:=Jgm Nm
 have Fx:=Jgm Nx
 have BW:=Jgm NB
 clear NB Na Nb Nm Nx
 refine (Hcs.out _).mono ?_
 rintro e v2 ⟨rfl,z2⟩
 have Na:=Jgm (Fa.out.on z2)
 have Nb:=Jgm (Fb.out.on z2)
 have Nm:=Jgm (Fm.out.on z2)
 have Nx:=Jgm (Fx.out.on z2)
 have NB:=Jgm (Jw BW.out z2)
 clear BW z2 Fa Fb Fm Fx
 have Fa:=Na
 have Fb:=Nb
 have Fm:=Nm
 have Fx:=Nx
 have BW:=NB
 clear NB Na Nb Nm Nx
 have Lm:=Fm.out.lt
 have cm0:=Fm.out.c0;have cm1:=Fm.out.c1;have cm2:=Fm.out.c2;have cm3:=Fm.out.c3
 go_wp2_with fail
 clear Lm cm0 cm1 cm2 cm3
 have Es:w.heap.size≤v2.heap.size:=by have:=BW.out.size;omega
 have Das:ga≠v2.heap.size:=by have:=Fa.out.lt;omega
 have Dbs:gb≠v2.heap.size:=by have:=Fb.out.lt;omega
 have Dms:gm≠v2.heap.size:=by have:=Fm.out.lt;omega
 have Dxs:gx≠v2.heap.size:=by have:=Fx.out.lt;omega
 generalize hW3:(v2.alloc (.cells (ncs S) 24))=W3 at *
 have Ns:At W3 (v2.heap.size) _ _:=Jd hW3 (At.at_ _ _ _ _ (by simp))
 have Na:=Jd hW3 (Fa.out.alloc _)
 have Nb:=Jd hW3 (Fb.out.alloc _)
 have Nm:=Jd hW3 (Fm.out.alloc _)
 have Nx:=Jd hW3 (Fx.out.alloc _)
 have NB:=Ke hW3 (Jb BW.out _)
 clear hW3 BW Fa Fb Fm Fx
 generalize v2.heap.size=gs at *
 have Fa:=Jgm Na
 have Fb:=Jgm Nb
 have Fm:=Jgm Nm
 have Fx:=Jgm Nx
 have Fs:=Jgm Ns
 have BW:=Jgm NB
 clear NB Na Nb Nm Nx Ns
 refine (Hct.out _).mono ?_
 rintro e v4 ⟨rfl,z4⟩
 have Na:=Jgm (Fa.out.on z4)
 have Nb:=Jgm (Fb.out.on z4)
 have Nm:=Jgm (Fm.out.on z4)
 have Nx:=Jgm (Fx.out.on z4)
 have Ns:=Jgm (Fs.out.on z4)
 have NB:=Jgm (Jw BW.out z4)
 clear BW z4 Fa Fb Fm Fx Fs
 have Fa:=Na
 have Fb:=Nb
 have Fm:=Nm
 have Fx:=Nx
 have Fs:=Ns
 have BW:=NB
 clear NB Na Nb Nm Nx Ns
 have Ls:=Fs.out.lt
 have cs0:=Fs.out.c0;have cs1:=Fs.out.c1;have cs2:=Fs.out.c2;have cs3:=Fs.out.c3
 obtain ⟨fs0,fs1,fs2,fs3⟩:=Wc Fs.out
 have Lx:=Fx.out.lt
 have cx0:=Fx.out.c0;have cx1:=Fx.out.c1;have cx2:=Fx.out.c2;have cx3:=Fx.out.c3
 obtain ⟨fx0,fx1,fx2,fx3⟩:=Wc Fx.out
 go_wp2_with fail
 clear Ls cs0 cs1 cs2 cs3 fs0 fs1 fs2 fs3 Lx cx0 cx1 cx2 cx3 fx0 fx1 fx2 fx3
 generalize hW5:((((((((v4.setCell ⟨gs,0,none⟩ (.int .u64 (wd L 0))).setCell ⟨gs,1,none⟩ (.int .u64 (wd L 1))).setCell ⟨gs,2,none⟩ (.int .u64 (wd L 2))).setCell ⟨gs,3,none⟩ (.int .u64 (wd L 3))).setCell ⟨gx,0,none⟩ (.int .u64 (wd L 0))).setCell ⟨gx,1,none⟩ (.int .u64 (wd L 1))).setCell ⟨gx,2,none⟩ (.int .u64 (wd L 2))).setCell ⟨gx,3,none⟩ (.int .u64 (wd L 3)))=W5 at *
 have Na:=Jd hW5 (((Fa.out).far4 Das _ _ _ _).far4 Dax _ _ _ _)
 have Nb:=Jd hW5 (((Fb.out).far4 Dbs _ _ _ _).far4 Dbx _ _ _ _)
 have Nm:=Jd hW5 (((Fm.out).far4 Dms _ _ _ _).far4 Dmx _ _ _ _)
 have Nx:=Jd hW5 (((Fx.out).far4 Dxs _ _ _ _).put4 _ _ _ _)
 have Ns:=Jd hW5 (((Fs.out).put4 _ _ _ _).far4 Dxs.symm _ _ _ _)
 have NB:=Ke hW5 (((((((((BW.out).setCell Es _).setCell Es _).setCell Es _).setCell Es _).setCell Ex _).setCell Ex _).setCell Ex _).setCell Ex _)
 clear hW5 BW Fa Fb Fm Fx Fs
 have Fa:=Jgm Na
 have Fb:=Jgm Nb
 have Fm:=Jgm Nm
 have Fx:=Jgm Nx
 have Fs:=Jgm Ns
 have BW:=Jgm NB
 clear NB Na Nb Nm Nx Ns
 have Lx:=Fx.out.lt
 have cx0:=Fx.out.c0;have cx1:=Fx.out.c1;have cx2:=Fx.out.c2;have cx3:=Fx.out.c3
 refine bodyPost_ret (v:=.tuple #[num L,.int .i64 0]) (by simp [results,Try.results45,go_sem, *]) rfl ⟨rfl,BW.out⟩

theorem sum_gt (A B M S L c:Nat)
  (cs:∀ w,Calls Try.prog 63 #[num A,num B] w fun e w'=>e=.returned (.tuple #[num S,.int .u64 0])∧Below w.heap.size w w')
  (ck:∀ w,Calls Try.prog 64 #[num S,num M] w fun e w'=>e=.returned (.int .i64 1)∧Below w.heap.size w w')
  (ct:∀ w,Calls Try.prog 65 #[num S,num M] w fun e w'=>e=.returned (.tuple #[num L,.int .u64 (c:Nat)])∧Below w.heap.size w w')
  (w:World):Calls Try.prog 45 #[num A,num B,num M] w fun e w'=>e=.returned (.tuple #[num L,.int .i64 0])∧Below w.heap.size w w':=by
 have Hcs:=Jgm cs
 have Hck:=Jgm ck
 have Hct:=Jgm ct
 clear cs ck ct
 go_enter Try.func45,Try.ntmps45
 go_wp2_with fail
 have BW:=Jgm (Below.refl w.heap.size w)
 have Ex:w.heap.size≤w.heap.size+1+1+1:=by have:=BW.out.size;omega
 have Dax:w.heap.size≠w.heap.size+1+1+1:=by omega
 have Dbx:w.heap.size+1≠w.heap.size+1+1+1:=by omega
 have Dmx:w.heap.size+1+1≠w.heap.size+1+1+1:=by omega
 generalize hW1:((((w.alloc (.cells (ncs A) 24)).alloc (.cells (ncs B) 24)).alloc (.cells (ncs M) 24)).alloc (.cells #[.int .u64 0,.int .u64 0,.int .u64 0,.int .u64 0] 24))=W1 at *
 have Na:At W1 (w.heap.size) _ _:=Jd hW1 ((((At.at_ _ _ _ _ (by simp)).alloc _).alloc _).alloc _)
 have Nb:At W1 (w.heap.size+1) _ _:=Jd hW1 (((At.at_ _ _ _ _ (by simp)).alloc _).alloc _)
 have Nm:At W1 (w.heap.size+1+1) _ _:=Jd hW1 ((At.at_ _ _ _ _ (by simp)).alloc _)
 have Nx:At W1 (w.heap.size+1+1+1) _ _:=Jd hW1 (At.at_ _ _ _ _ (by simp))
 have NB:=Ke hW1 (Jb (Jb (Jb (Jb BW.out _) _) _) _)
 clear hW1 BW 
 generalize w.heap.size+1+1+1=gx at *
 generalize w.heap.size+1+1=gm at *
 generalize w.heap.size+1=gb at *
 obtain ⟨ga,hg0⟩:∃ g,g=w.heap.size:=⟨_,rfl⟩
 rw [← hg0] at Na ⊢
 rw [← hg0] at Dax
 clear hg0
 have Fa:=Jgm Na
 have Fb:=Jgm Nb
 have Fm:=Jgm Nm
 have Fx:=Jgm Nx
 have BW:=Jgm NB
 clear NB Na Nb Nm Nx
 refine (Hcs.out _).mono ?_
 rintro e v2 ⟨rfl,z2⟩
 have Na:=Jgm (Fa.out.on z2)
 have Nb:=Jgm (Fb.out.on z2)
 have Nm:=Jgm (Fm.out.on z2)
 have Nx:=Jgm (Fx.out.on z2)
 have NB:=Jgm (Jw BW.out z2)
 clear BW z2 Fa Fb Fm Fx
 have Fa:=Na
 have Fb:=Nb
 have Fm:=Nm
 have Fx:=Nx
 have BW:=NB
 clear NB Na Nb Nm Nx
 have Lm:=Fm.out.lt
 have cm0:=Fm.out.c0;have cm1:=Fm.out.c1;have cm2:=Fm.out.c2;have cm3:=Fm.out.c3
 go_wp2_with fail
 clear Lm cm0 cm1 cm2 cm3
 have Es:w.heap.size≤v2.heap.size:=by have:=BW.out.size;omega
 have Das:ga≠v2.heap.size:=by have:=Fa.out.lt;omega
 have Dbs:gb≠v2.heap.size:=by have:=Fb.out.lt;omega
 have Dms:gm≠v2.heap.size:=by have:=Fm.out.lt;omega
 have Dxs:gx≠v2.heap.size:=by have:=Fx.out.lt;omega
 generalize hW3:(v2.alloc (.cells (ncs S) 24))=W3 at *
 have Ns:At W3 (v2.heap.size) _ _:=Jd hW3 (At.at_ _ _ _ _ (by simp))
 have Na:=Jd hW3 (Fa.out.alloc _)
 have Nb:=Jd hW3 (Fb.out.alloc _)
 have Nm:=Jd hW3 (Fm.out.alloc _)
 have Nx:=Jd hW3 (Fx.out.alloc _)
 have NB:=Ke hW3 (Jb BW.out _)
 clear hW3 BW Fa Fb Fm Fx
 generalize v2.heap.size=gs at *
 have Fa:=Jgm Na
 have Fb:=Jgm Nb
 have Fm:=Jgm Nm
 have Fx:=Jgm Nx
 have Fs:=Jgm Ns
 have BW:=Jgm NB
 clear NB Na Nb Nm Nx Ns
 refine (Hck.out _).mono ?_
 rintro e v4 ⟨rfl,z4⟩
 have Na:=Jgm (Fa.out.on z4)
 have Nb:=Jgm (Fb.out.on z4)
 have Nm:=Jgm (Fm.out.on z4)
 have Nx:=Jgm (Fx.out.on z4)
 have Ns:=Jgm (Fs.out.on z4)
 have NB:=Jgm (Jw BW.out z4)
 clear BW z4 Fa Fb Fm Fx Fs
 have Fa:=Na
 have Fb:=Nb
 have Fm:=Nm
 have Fx:=Nx
 have Fs:=Ns
 have BW:=NB
 clear NB Na Nb Nm Nx Ns
 have Ls:=Fs.out.lt
 have cs0:=Fs.out.c0;have cs1:=Fs.out.c1;have cs2:=Fs.out.c2;have cs3:=Fs.out.c3
 have Lm:=Fm.out.lt
 have cm0:=Fm.out.c0;have cm1:=Fm.out.c1;have cm2:=Fm.out.c2;have cm3:=Fm.out.c3
 go_wp2_with fail
 clear Ls cs0 cs1 cs2 cs3 Lm cm0 cm1 cm2 cm3
 refine (Hct.out _).mono ?_
 rintro e v5 ⟨rfl,z5⟩
 have Na:=Jgm (Fa.out.on z5)
 have Nb:=Jgm (Fb.out.on z5)
 have Nm:=Jgm (Fm.out.on z5)
 have Nx:=Jgm (Fx.out.on z5)
 have Ns:=Jgm (Fs.out.on z5)
 have NB:=Jgm (Jw BW.out z5)
 clear BW z5 Fa Fb Fm Fx Fs
 have Fa:=Na
 have Fb:=Nb
 have Fm:=Nm
 have Fx:=Nx
 have Fs:=Ns
 have BW:=NB
 clear NB Na Nb Nm Nx Ns
 have Ls:=Fs.out.lt
 have cs0:=Fs.out.c0;have cs1:=Fs.out.c1;have cs2:=Fs.out.c2;have cs3:=Fs.out.c3
 obtain ⟨fs0,fs1,fs2,fs3⟩:=Wc Fs.out
 have Lx:=Fx.out.lt
 have cx0:=Fx.out.c0;have cx1:=Fx.out.c1;have cx2:=Fx.out.c2;have cx3:=Fx.out.c3
 obtain ⟨fx0,fx1,fx2,fx3⟩:=Wc Fx.out
 go_wp2_with fail
 clear Ls cs0 cs1 cs2 cs3 fs0 fs1 fs2 fs3 Lx cx0 cx1 cx2 cx3 fx0 fx1 fx2 fx3
 generalize hW6:((((((((v5.setCell ⟨gs,0,none⟩ (.int .u64 (wd L 0))).setCell ⟨gs,1,none⟩ (.int .u64 (wd L 1))).setCell ⟨gs,2,none⟩ (.int .u64 (wd L 2))).setCell ⟨gs,3,none⟩ (.int .u64 (wd L 3))).setCell ⟨gx,0,none⟩ (.int .u64 (wd L 0))).setCell ⟨gx,1,none⟩ (.int .u64 (wd L 1))).setCell ⟨gx,2,none⟩ (.int .u64 (wd L 2))).setCell ⟨gx,3,none⟩ (.int .u64 (wd L 3)))=W6 at *
 have Na:=Jd hW6 (((Fa.out).far4 Das _ _ _ _).far4 Dax _ _ _ _)
 have Nb:=Jd hW6 (((Fb.out).far4 Dbs _ _ _ _).far4 Dbx _ _ _ _)
 have Nm:=Jd hW6 (((Fm.out).far4 Dms _ _ _ _).far4 Dmx _ _ _ _)
 have Nx:=Jd hW6 (((Fx.out).far4 Dxs _ _ _ _).put4 _ _ _ _)
 have Ns:=Jd hW6 (((Fs.out).put4 _ _ _ _).far4 Dxs.symm _ _ _ _)
 have NB:=Ke hW6 (((((((((BW.out).setCell Es _).setCell Es _).setCell Es _).setCell Es _).setCell Ex _).setCell Ex _).setCell Ex _).setCell Ex _)
 clear hW6 BW Fa Fb Fm Fx Fs
 have Fa:=Jgm Na
 have Fb:=Jgm Nb
 have Fm:=Jgm Nm
 have Fx:=Jgm Nx
 have Fs:=Jgm Ns
 have BW:=Jgm NB
 clear NB Na Nb Nm Nx Ns
 have Lx:=Fx.out.lt
 have cx0:=Fx.out.c0;have cx1:=Fx.out.c1;have cx2:=Fx.out.c2;have cx3:=Fx.out.c3
 refine bodyPost_ret (v:=.tuple #[num L,.int .i64 0]) (by simp [results,Try.results45,go_sem, *]) rfl ⟨rfl,BW.out⟩

theorem sum_eq (A B M S L c:Nat)
  (cs:∀ w,Calls Try.prog 63 #[num A,num B] w fun e w'=>e=.returned (.tuple #[num S,.int .u64 0])∧Below w.heap.size w w')
  (ck:∀ w,Calls Try.prog 64 #[num S,num M] w fun e w'=>e=.returned (.int .i64 0)∧Below w.heap.size w w')
  (ct:∀ w,Calls Try.prog 65 #[num S,num M] w fun e w'=>e=.returned (.tuple #[num L,.int .u64 (c:Nat)])∧Below w.heap.size w w')
  (w:World):Calls Try.prog 45 #[num A,num B,num M] w fun e w'=>e=.returned (.tuple #[num L,.int .i64 0])∧Below w.heap.size w w':=by
 have Hcs:=Jgm cs
 have Hck:=Jgm ck
 have Hct:=Jgm ct
 clear cs ck ct
 go_enter Try.func45,Try.ntmps45
 go_wp2_with fail
 have BW:=Jgm (Below.refl w.heap.size w)
 have Ex:w.heap.size≤w.heap.size+1+1+1:=by have:=BW.out.size;omega
 have Dax:w.heap.size≠w.heap.size+1+1+1:=by omega
 have Dbx:w.heap.size+1≠w.heap.size+1+1+1:=by omega
 have Dmx:w.heap.size+1+1≠w.heap.size+1+1+1:=by omega
 generalize hW1:((((w.alloc (.cells (ncs A) 24)).alloc (.cells (ncs B) 24)).alloc (.cells (ncs M) 24)).alloc (.cells #[.int .u64 0,.int .u64 0,.int .u64 0,.int .u64 0] 24))=W1 at *
 have Na:At W1 (w.heap.size) _ _:=Jd hW1 ((((At.at_ _ _ _ _ (by simp)).alloc _).alloc _).alloc _)
 have Nb:At W1 (w.heap.size+1) _ _:=Jd hW1 (((At.at_ _ _ _ _ (by simp)).alloc _).alloc _)
 have Nm:At W1 (w.heap.size+1+1) _ _:=Jd hW1 ((At.at_ _ _ _ _ (by simp)).alloc _)
 have Nx:At W1 (w.heap.size+1+1+1) _ _:=Jd hW1 (At.at_ _ _ _ _ (by simp))
 have NB:=Ke hW1 (Jb (Jb (Jb (Jb BW.out _) _) _) _)
 clear hW1 BW 
 generalize w.heap.size+1+1+1=gx at *
 generalize w.heap.size+1+1=gm at *
 generalize w.heap.size+1=gb at *
 obtain ⟨ga,hg0⟩:∃ g,g=w.heap.size:=⟨_,rfl⟩
 rw [← hg0] at Na ⊢
 rw [← hg0] at Dax
 clear hg0
 have Fa:=Jgm Na
 have Fb:=Jgm Nb
 have Fm:=Jgm Nm
 have Fx:=Jgm Nx
 have BW:=Jgm NB
 clear NB Na Nb Nm Nx
 refine (Hcs.out _).mono ?_
 rintro e v2 ⟨rfl,z2⟩
 have Na:=Jgm (Fa.out.on z2)
 have Nb:=Jgm (Fb.out.on z2)
 have Nm:=Jgm (Fm.out.on z2)
 have Nx:=Jgm (Fx.out.on z2)
 have NB:=Jgm (Jw BW.out z2)
 clear BW z2 Fa Fb Fm Fx
 have Fa:=Na
 have Fb:=Nb
 have Fm:=Nm
 have Fx:=Nx
 have BW:=NB
 clear NB Na Nb Nm Nx
 have Lm:=Fm.out.lt
 have cm0:=Fm.out.c0;have cm1:=Fm.out.c1;have cm2:=Fm.out.c2;have cm3:=Fm.out.c3
 go_wp2_with fail
 clear Lm cm0 cm1 cm2 cm3
 have Es:w.heap.size≤v2.heap.size:=by have:=BW.out.size;omega
 have Das:ga≠v2.heap.size:=by have:=Fa.out.lt;omega
 have Dbs:gb≠v2.heap.size:=by have:=Fb.out.lt;omega
 have Dms:gm≠v2.heap.size:=by have:=Fm.out.lt;omega
 have Dxs:gx≠v2.heap.size:=by have:=Fx.out.lt;omega
 generalize hW3:(v2.alloc (.cells (ncs S) 24))=W3 at *
 have Ns:At W3 (v2.heap.size) _ _:=Jd hW3 (At.at_ _ _ _ _ (by simp))
 have Na:=Jd hW3 (Fa.out.alloc _)
 have Nb:=Jd hW3 (Fb.out.alloc _)
 have Nm:=Jd hW3 (Fm.out.alloc _)
 have Nx:=Jd hW3 (Fx.out.alloc _)
 have NB:=Ke hW3 (Jb BW.out _)
 clear hW3 BW Fa Fb Fm Fx
 generalize v2.heap.size=gs at *
 have Fa:=Jgm Na
 have Fb:=Jgm Nb
 have Fm:=Jgm Nm
 have Fx:=Jgm Nx
 have Fs:=Jgm Ns
 have BW:=Jgm NB
 clear NB Na Nb Nm Nx Ns
 refine (Hck.out _).mono ?_
 rintro e v4 ⟨rfl,z4⟩
 have Na:=Jgm (Fa.out.on z4)
 have Nb:=Jgm (Fb.out.on z4)
 have Nm:=Jgm (Fm.out.on z4)
 have Nx:=Jgm (Fx.out.on z4)
 have Ns:=Jgm (Fs.out.on z4)
 have NB:=Jgm (Jw BW.out z4)
 clear BW z4 Fa Fb Fm Fx Fs
 have Fa:=Na
 have Fb:=Nb
 have Fm:=Nm
 have Fx:=Nx
 have Fs:=Ns
 have BW:=NB
 clear NB Na Nb Nm Nx Ns
 have Ls:=Fs.out.lt
 have cs0:=Fs.out.c0;have cs1:=Fs.out.c1;have cs2:=Fs.out.c2;have cs3:=Fs.out.c3
 have Lm:=Fm.out.lt
 have cm0:=Fm.out.c0;have cm1:=Fm.out.c1;have cm2:=Fm.out.c2;have cm3:=Fm.out.c3
 go_wp2_with fail
 clear Ls cs0 cs1 cs2 cs3 Lm cm0 cm1 cm2 cm3
 refine (Hct.out _).mono ?_
 rintro e v5 ⟨rfl,z5⟩
 have Na:=Jgm (Fa.out.on z5)
 have Nb:=Jgm (Fb.out.on z5)
 have Nm:=Jgm (Fm.out.on z5)
 have Nx:=Jgm (Fx.out.on z5)
 have Ns:=Jgm (Fs.out.on z5)
 have NB:=Jgm (Jw BW.out z5)
 clear BW z5 Fa Fb Fm Fx Fs
 have Fa:=Na
 have Fb:=Nb
 have Fm:=Nm
 have Fx:=Nx
 have Fs:=Ns
 have BW:=NB
 clear NB Na Nb Nm Nx Ns
 have Ls:=Fs.out.lt
 have cs0:=Fs.out.c0;have cs1:=Fs.out.c1;have cs2:=Fs.out.c2;have cs3:=Fs.out.c3
 obtain ⟨fs0,fs1,fs2,fs3⟩:=Wc Fs.out
 have Lx:=Fx.out.lt
 have cx0:=Fx.out.c0;have cx1:=Fx.out.c1;have cx2:=Fx.out.c2;have cx3:=Fx.out.c3
 obtain ⟨fx0,fx1,fx2,fx3⟩:=Wc Fx.out
 go_wp2_with fail
 clear Ls cs0 cs1 cs2 cs3 fs0 fs1 fs2 fs3 Lx cx0 cx1 cx2 cx3 fx0 fx1 fx2 fx3
 generalize hW6:((((((((v5.setCell ⟨gs,0,none⟩ (.int .u64 (wd L 0))).setCell ⟨gs,1,none⟩ (.int .u64 (wd L 1))).setCell ⟨gs,2,none⟩ (.int .u64 (wd L 2))).setCell ⟨gs,3,none⟩ (.int .u64 (wd L 3))).setCell ⟨gx,0,none⟩ (.int .u64 (wd L 0))).setCell ⟨gx,1,none⟩ (.int .u64 (wd L 1))).setCell ⟨gx,2,none⟩ (.int .u64 (wd L 2))).setCell ⟨gx,3,none⟩ (.int .u64 (wd L 3)))=W6 at *
 have Na:=Jd hW6 (((Fa.out).far4 Das _ _ _ _).far4 Dax _ _ _ _)
 have Nb:=Jd hW6 (((Fb.out).far4 Dbs _ _ _ _).far4 Dbx _ _ _ _)
 have Nm:=Jd hW6 (((Fm.out).far4 Dms _ _ _ _).far4 Dmx _ _ _ _)
 have Nx:=Jd hW6 (((Fx.out).far4 Dxs _ _ _ _).put4 _ _ _ _)
 have Ns:=Jd hW6 (((Fs.out).put4 _ _ _ _).far4 Dxs.symm _ _ _ _)
 have NB:=Ke hW6 (((((((((BW.out).setCell Es _).setCell Es _).setCell Es _).setCell Es _).setCell Ex _).setCell Ex _).setCell Ex _).setCell Ex _)
 clear hW6 BW Fa Fb Fm Fx Fs
 have Fa:=Jgm Na
 have Fb:=Jgm Nb
 have Fm:=Jgm Nm
 have Fx:=Jgm Nx
 have Fs:=Jgm Ns
 have BW:=Jgm NB
 clear NB Na Nb Nm Nx Ns
 have Lx:=Fx.out.lt
 have cx0:=Fx.out.c0;have cx1:=Fx.out.c1;have cx2:=Fx.out.c2;have cx3:=Fx.out.c3
 refine bodyPost_ret (v:=.tuple #[num L,.int .i64 0]) (by simp [results,Try.results45,go_sem, *]) rfl ⟨rfl,BW.out⟩

theorem sum_lt (A B M S:Nat)
  (cs:∀ w,Calls Try.prog 63 #[num A,num B] w fun e w'=>e=.returned (.tuple #[num S,.int .u64 0])∧Below w.heap.size w w')
  (ck:∀ w,Calls Try.prog 64 #[num S,num M] w fun e w'=>e=.returned (.int .i64 (-1))∧Below w.heap.size w w')
  (w:World):Calls Try.prog 45 #[num A,num B,num M] w fun e w'=>e=.returned (.tuple #[num S,.int .i64 0])∧Below w.heap.size w w':=by
 have Hcs:=Jgm cs
 have Hck:=Jgm ck
 clear cs ck
 go_enter Try.func45,Try.ntmps45
 go_wp2_with fail
 have BW:=Jgm (Below.refl w.heap.size w)
 have Ex:w.heap.size≤w.heap.size+1+1+1:=by have:=BW.out.size;omega
 have Dax:w.heap.size≠w.heap.size+1+1+1:=by omega
 have Dbx:w.heap.size+1≠w.heap.size+1+1+1:=by omega
 have Dmx:w.heap.size+1+1≠w.heap.size+1+1+1:=by omega
 generalize hW1:((((w.alloc (.cells (ncs A) 24)).alloc (.cells (ncs B) 24)).alloc (.cells (ncs M) 24)).alloc (.cells #[.int .u64 0,.int .u64 0,.int .u64 0,.int .u64 0] 24))=W1 at *
 have Na:At W1 (w.heap.size) _ _:=Jd hW1 ((((At.at_ _ _ _ _ (by simp)).alloc _).alloc _).alloc _)
 have Nb:At W1 (w.heap.size+1) _ _:=Jd hW1 (((At.at_ _ _ _ _ (by simp)).alloc _).alloc _)
 have Nm:At W1 (w.heap.size+1+1) _ _:=Jd hW1 ((At.at_ _ _ _ _ (by simp)).alloc _)
 have Nx:At W1 (w.heap.size+1+1+1) _ _:=Jd hW1 (At.at_ _ _ _ _ (by simp))
 have NB:=Ke hW1 (Jb (Jb (Jb (Jb BW.out _) _) _) _)
 clear hW1 BW 
 generalize w.heap.size+1+1+1=gx at *
 generalize w.heap.size+1+1=gm at *
 generalize w.heap.size+1=gb at *
 obtain ⟨ga,hg0⟩:∃ g,g=w.heap.size:=⟨_,rfl⟩
 rw [← hg0] at Na ⊢
 rw [← hg0] at Dax
 clear hg0
 have Fa:=Jgm Na
 have Fb:=Jgm Nb
 have Fm:=Jgm Nm
 have Fx:=Jgm Nx
 have BW:=Jgm NB
 clear NB Na Nb Nm Nx
 refine (Hcs.out _).mono ?_
 rintro e v2 ⟨rfl,z2⟩
 have Na:=Jgm (Fa.out.on z2)
 have Nb:=Jgm (Fb.out.on z2)
 have Nm:=Jgm (Fm.out.on z2)
 have Nx:=Jgm (Fx.out.on z2)
 have NB:=Jgm (Jw BW.out z2)
 clear BW z2 Fa Fb Fm Fx
 have Fa:=Na
 have Fb:=Nb
 have Fm:=Nm
 have Fx:=Nx
 have BW:=NB
 clear NB Na Nb Nm Nx
 have Lm:=Fm.out.lt
 have cm0:=Fm.out.c0;have cm1:=Fm.out.c1;have cm2:=Fm.out.c2;have cm3:=Fm.out.c3
 go_wp2_with fail
 clear Lm cm0 cm1 cm2 cm3
 have Es:w.heap.size≤v2.heap.size:=by have:=BW.out.size;omega
 have Das:ga≠v2.heap.size:=by have:=Fa.out.lt;omega
 have Dbs:gb≠v2.heap.size:=by have:=Fb.out.lt;omega
 have Dms:gm≠v2.heap.size:=by have:=Fm.out.lt;omega
 have Dxs:gx≠v2.heap.size:=by have:=Fx.out.lt;omega
 generalize hW3:(v2.alloc (.cells (ncs S) 24))=W3 at *
 have Ns:At W3 (v2.heap.size) _ _:=Jd hW3 (At.at_ _ _ _ _ (by simp))
 have Na:=Jd hW3 (Fa.out.alloc _)
 have Nb:=Jd hW3 (Fb.out.alloc _)
 have Nm:=Jd hW3 (Fm.out.alloc _)
 have Nx:=Jd hW3 (Fx.out.alloc _)
 have NB:=Ke hW3 (Jb BW.out _)
 clear hW3 BW Fa Fb Fm Fx
 generalize v2.heap.size=gs at *
 have Fa:=Jgm Na
 have Fb:=Jgm Nb
 have Fm:=Jgm Nm
 have Fx:=Jgm Nx
 have Fs:=Jgm Ns
 have BW:=Jgm NB
 clear NB Na Nb Nm Nx Ns
 refine (Hck.out _).mono ?_
 rintro e v4 ⟨rfl,z4⟩
 have Na:=Jgm (Fa.out.on z4)
 have Nb:=Jgm (Fb.out.on z4)
 have Nm:=Jgm (Fm.out.on z4)
 have Nx:=Jgm (Fx.out.on z4)
 have Ns:=Jgm (Fs.out.on z4)
 have NB:=Jgm (Jw BW.out z4)
 clear BW z4 Fa Fb Fm Fx Fs
 have Fa:=Na
 have Fb:=Nb
 have Fm:=Nm
 have Fx:=Nx
 have Fs:=Ns
 have BW:=NB
 clear NB Na Nb Nm Nx Ns
 have Ls:=Fs.out.lt
 have cs0:=Fs.out.c0;have cs1:=Fs.out.c1;have cs2:=Fs.out.c2;have cs3:=Fs.out.c3
 have Lx:=Fx.out.lt
 have cx0:=Fx.out.c0;have cx1:=Fx.out.c1;have cx2:=Fx.out.c2;have cx3:=Fx.out.c3
 obtain ⟨fx0,fx1,fx2,fx3⟩:=Wc Fx.out
 go_wp2_with fail
 clear Ls cs0 cs1 cs2 cs3 Lx cx0 cx1 cx2 cx3 fx0 fx1 fx2 fx3
 generalize hW5:((((v4.setCell ⟨gx,0,none⟩ (.int .u64 (wd S 0))).setCell ⟨gx,1,none⟩ (.int .u64 (wd S 1))).setCell ⟨gx,2,none⟩ (.int .u64 (wd S 2))).setCell ⟨gx,3,none⟩ (.int .u64 (wd S 3)))=W5 at *
 have Na:=Jd hW5 ((Fa.out).far4 Dax _ _ _ _)
 have Nb:=Jd hW5 ((Fb.out).far4 Dbx _ _ _ _)
 have Nm:=Jd hW5 ((Fm.out).far4 Dmx _ _ _ _)
 have Nx:=Jd hW5 ((Fx.out).put4 _ _ _ _)
 have Ns:=Jd hW5 ((Fs.out).far4 Dxs.symm _ _ _ _)
 have NB:=Ke hW5 (((((BW.out).setCell Ex _).setCell Ex _).setCell Ex _).setCell Ex _)
 clear hW5 BW Fa Fb Fm Fx Fs
 have Fa:=Jgm Na
 have Fb:=Jgm Nb
 have Fm:=Jgm Nm
 have Fx:=Jgm Nx
 have Fs:=Jgm Ns
 have BW:=Jgm NB
 clear NB Na Nb Nm Nx Ns
 have Lx:=Fx.out.lt
 have cx0:=Fx.out.c0;have cx1:=Fx.out.c1;have cx2:=Fx.out.c2;have cx3:=Fx.out.c3
 refine bodyPost_ret (v:=.tuple #[num S,.int .i64 0]) (by simp [results,Try.results45,go_sem, *]) rfl ⟨rfl,BW.out⟩

theorem sum_any (A B M:Nat) (hA:A<M) (hB:B<M) (hM:M<2^256) :
  ∀ w,Calls Try.prog 45 #[num A,num B,num M] w fun e w'=>e=.returned (.tuple #[num ((A+B)%M),.int .i64 0])∧Below w.heap.size w w':=by
 obtain ⟨S,c,hS,hc,he,C⟩:=Jfs A B (by omega) (by omega)
 have h01:c=0∨c=1:=by omega
 rcases h01 with rfl | rfl
 ·have K:=Uh S M hS hM
  obtain ⟨L,d,hL,hd,he2,C2⟩:=Jdx S M hS hM
  rcases Nat.lt_trichotomy S M with h | h | h
  ·rw [Jdo h] at K
   rw [show (A+B)%M=S by rw [show A+B=S by omega,Nat.mod_eq_of_lt h]]
   exact fun w=>sum_lt A B M S C K w
  ·subst h
   rw [cmpN_eq] at K
   rw [show (A+B)%S=L by rw [show A+B=S by omega,Nat.mod_self];omega]
   exact fun w=>sum_eq A B S S L d C K C2 w
  ·rw [Jdp h] at K
   rw [show (A+B)%M=L by rw [show A+B=L+M by omega,Nat.add_mod_right,Nat.mod_eq_of_lt (by omega)]]
   exact fun w=>sum_gt A B M S L d C K C2 w
 ·obtain ⟨L,d,hL,hd,he2,C2⟩:=Jdx S M hS hM
  rw [show (A+B)%M=L by rw [show A+B=L+M by omega,Nat.add_mod_right,Nat.mod_eq_of_lt (by omega)]]
  exact fun w=>sum_over A B M S L d C C2 w

end Go.Proofs.Ytcbnmdkmfdjpiaa
