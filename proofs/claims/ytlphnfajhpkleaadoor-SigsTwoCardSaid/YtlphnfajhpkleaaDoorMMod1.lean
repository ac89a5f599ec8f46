/-
 mods: sums,differences,products of numbers that may.
-/
import Derived.Test.YtlphnfajhpkleaaDoorMByNumber
import Derived.Test.YtlphnfajhpkleaaDoorMCell
import Derived.Test.YtlphnfajhpkleaaDoorMModE
import Derived.Test.YtlphnfajhpkleaaDoorMSmall
namespace Go.Proofs.YtlphnfajhpkleaaDoor
open Go.RowKit
set_option linter.unusedSimpArgs false
set_option linter.unusedVariables false
attribute [local go_sem ↓] Go.wp_at_zero Go.wp_at_succ

set_option maxRecDepth 100000 in
set_option maxHeartbeats 8000000 in
theorem diff_none (A B M S:Nat)
  (cs:∀ w,Calls Tryd.prog 26 #[num A,num B] w fun e w'=>e=.returned (.tuple #[num S,.int .u64 0])∧Below w.heap.size w w')
  (w:World):Calls Tryd.prog 43 #[num A,num B,num M] w fun e w'=>e=.returned (.tuple #[num S,.int .i64 0])∧Below w.heap.size w w':=by
 have Hcs:=Lib.hid cs
 clear cs
 go_enter Tryd.func43,Tryd.ntmps43
 go_wp2_with fail
 have BW:=Lib.hid (Below.refl w.heap.size w)
 have Ex:w.heap.size≤w.heap.size+1+1+1:=by have:=BW.out.size;omega
 have Dax:w.heap.size≠w.heap.size+1+1+1:=by omega
 have Dbx:w.heap.size+1≠w.heap.size+1+1+1:=by omega
 have Dmx:w.heap.size+1+1≠w.heap.size+1+1+1:=by omega
 generalize hW1:((((w.alloc (.cells #[.int .u64 (wd A 0:Nat),.int .u64 (wd A 1:Nat),.int .u64 (wd A 2:Nat),.int .u64 (wd A 3:Nat)] 24)).alloc (.cells #[.int .u64 (wd B 0:Nat),.int .u64 (wd B 1:Nat),.int .u64 (wd B 2:Nat),.int .u64 (wd B 3:Nat)] 24)).alloc (.cells #[.int .u64 (wd M 0:Nat),.int .u64 (wd M 1:Nat),.int .u64 (wd M 2:Nat),.int .u64 (wd M 3:Nat)] 24)).alloc (.cells #[.int .u64 0,.int .u64 0,.int .u64 0,.int .u64 0] 24))=W1 at *
 have Na:At W1 (w.heap.size) _ _:=at_of hW1 ((((At.at_ _ _ _ _ (by simp)).alloc _).alloc _).alloc _)
 have Nb:At W1 (w.heap.size+1) _ _:=at_of hW1 (((At.at_ _ _ _ _ (by simp)).alloc _).alloc _)
 have Nm:At W1 (w.heap.size+1+1) _ _:=at_of hW1 ((At.at_ _ _ _ _ (by simp)).alloc _)
 have Nx:At W1 (w.heap.size+1+1+1) _ _:=at_of hW1 (At.at_ _ _ _ _ (by simp))
 have NB:=gr_of hW1 (gr_alloc (gr_alloc (gr_alloc (gr_alloc BW.out _) _) _) _)
 clear hW1 BW 
 generalize w.heap.size+1+1+1=gx at *
 generalize w.heap.size+1+1=gm at *
 generalize w.heap.size+1=gb at *
 obtain ⟨ga,hg0⟩:∃ g,g=w.heap.size:=⟨_,rfl⟩
 rw [← hg0] at Na ⊢
 rw [← hg0] at Dax
 clear hg0
 have Fa:=Lib.hid Na
 have Fb:=Lib.hid Nb
 have Fm:=Lib.hid Nm
 have Fx:=Lib.hid Nx
 have BW:=Lib.hid NB
 clear NB Na Nb Nm Nx
 refine (Hcs.out _).mono ?_
 rintro e v2 ⟨rfl,z2⟩
 have Na:=Lib.hid (Fa.out.on z2)
 have Nb:=Lib.hid (Fb.out.on z2)
 have Nm:=Lib.hid (Fm.out.on z2)
 have Nx:=Lib.hid (Fx.out.on z2)
 have NB:=Lib.hid (bel_tr BW.out z2)
 clear BW z2 Fa Fb Fm Fx
 have Fa:=Na
 have Fb:=Nb
 have Fm:=Nm
 have Fx:=Nx
 have BW:=NB
 clear NB Na Nb Nm Nx
 have Lx:=Fx.out.lt
 have cx0:=Fx.out.c0
 have cx1:=Fx.out.c1
 have cx2:=Fx.out.c2
 have cx3:=Fx.out.c3
 have fx0:v2.frozen? ⟨gx,0,none⟩=false:=Fx.out.frozen 0
 have fx1:v2.frozen? ⟨gx,1,none⟩=false:=Fx.out.frozen 1
 have fx2:v2.frozen? ⟨gx,2,none⟩=false:=Fx.out.frozen 2
 have fx3:v2.frozen? ⟨gx,3,none⟩=false:=Fx.out.frozen 3
 go_wp2_with fail
 clear Lx cx0 cx1 cx2 cx3 fx0 fx1 fx2 fx3
 generalize hW3:((((v2.setCell ⟨gx,0,none⟩ (.int .u64 (wd S 0:Nat))).setCell ⟨gx,1,none⟩ (.int .u64 (wd S 1:Nat))).setCell ⟨gx,2,none⟩ (.int .u64 (wd S 2:Nat))).setCell ⟨gx,3,none⟩ (.int .u64 (wd S 3:Nat)))=W3 at *
 have Na:=at_of hW3 ((Fa.out).far4 Dax _ _ _ _)
 have Nb:=at_of hW3 ((Fb.out).far4 Dbx _ _ _ _)
 have Nm:=at_of hW3 ((Fm.out).far4 Dmx _ _ _ _)
 have Nx:=at_of hW3 ((Fx.out).put4 _ _ _ _)
 have NB:=gr_of hW3 (((((BW.out).setCell Ex _).setCell Ex _).setCell Ex _).setCell Ex _)
 clear hW3 BW Fa Fb Fm Fx
 have Fa:=Lib.hid Na
 have Fb:=Lib.hid Nb
 have Fm:=Lib.hid Nm
 have Fx:=Lib.hid Nx
 have BW:=Lib.hid NB
 clear NB Na Nb Nm Nx
 have Dxs:gx≠W3.heap.size:=by have:=Fx.out.lt;omega
 generalize hW4:(W3.alloc (.cells #[.int .u64 (wd S 0:Nat),.int .u64 (wd S 1:Nat),.int .u64 (wd S 2:Nat),.int .u64 (wd S 3:Nat)] 24))=W4 at *
 have Ns:At W4 (W3.heap.size) _ _:=at_of hW4 (At.at_ _ _ _ _ (by simp))
 have Na:=at_of hW4 (Fa.out.alloc _)
 have Nb:=at_of hW4 (Fb.out.alloc _)
 have Nm:=at_of hW4 (Fm.out.alloc _)
 have Nx:=at_of hW4 (Fx.out.alloc _)
 have NB:=gr_of hW4 (gr_alloc BW.out _)
 clear hW4 BW Fa Fb Fm Fx
 generalize W3.heap.size=gs at *
 have Fa:=Lib.hid Na
 have Fb:=Lib.hid Nb
 have Fm:=Lib.hid Nm
 have Fx:=Lib.hid Nx
 have Fs:=Lib.hid Ns
 have BW:=Lib.hid NB
 clear NB Na Nb Nm Nx Ns
 have Lx:=Fx.out.lt
 have cx0:=Fx.out.c0
 have cx1:=Fx.out.c1
 have cx2:=Fx.out.c2
 have cx3:=Fx.out.c3
 refine bodyPost_ret (v:=.tuple #[num S,.int .i64 0]) (by simp [results,Tryd.results43,go_sem, *]) rfl ⟨rfl,BW.out⟩

set_option maxRecDepth 100000 in
set_option maxHeartbeats 8000000 in
theorem diff_some (A B M S L c:Nat)
  (cs:∀ w,Calls Tryd.prog 26 #[num A,num B] w fun e w'=>e=.returned (.tuple #[num S,.int .u64 1])∧Below w.heap.size w w')
  (ct:∀ w,Calls Tryd.prog 59 #[num S,num M] w fun e w'=>e=.returned (.tuple #[num L,.int .u64 (c:Nat)])∧Below w.heap.size w w')
  (w:World):Calls Tryd.prog 43 #[num A,num B,num M] w fun e w'=>e=.returned (.tuple #[num L,.int .i64 0])∧Below w.heap.size w w':=by
 have Hcs:=Lib.hid cs
 have Hct:=Lib.hid ct
 clear cs ct
 go_enter Tryd.func43,Tryd.ntmps43
 go_wp2_with fail
 have BW:=Lib.hid (Below.refl w.heap.size w)
 have Ex:w.heap.size≤w.heap.size+1+1+1:=by have:=BW.out.size;omega
 have Dax:w.heap.size≠w.heap.size+1+1+1:=by omega
 have Dbx:w.heap.size+1≠w.heap.size+1+1+1:=by omega
 have Dmx:w.heap.size+1+1≠w.heap.size+1+1+1:=by omega
 generalize hW1:((((w.alloc (.cells #[.int .u64 (wd A 0:Nat),.int .u64 (wd A 1:Nat),.int .u64 (wd A 2:Nat),.int .u64 (wd A 3:Nat)] 24)).alloc (.cells #[.int .u64 (wd B 0:Nat),.int .u64 (wd B 1:Nat),.int .u64 (wd B 2:Nat),.int .u64 (wd B 3:Nat)] 24)).alloc (.cells #[.int .u64 (wd M 0:Nat),.int .u64 (wd M 1:Nat),.int .u64 (wd M 2:Nat),.int .u64 (wd M 3:Nat)] 24)).alloc (.cells #[.int .u64 0,.int .u64 0,.int .u64 0,.int .u64 0] 24))=W1 at *
 have Na:At W1 (w.heap.size) _ _:=at_of hW1 ((((At.at_ _ _ _ _ (by simp)).alloc _).alloc _).alloc _)
 have Nb:At W1 (w.heap.size+1) _ _:=at_of hW1 (((At.at_ _ _ _ _ (by simp)).alloc _).alloc _)
 have Nm:At W1 (w.heap.size+1+1) _ _:=at_of hW1 ((At.at_ _ _ _ _ (by simp)).alloc _)
 have Nx:At W1 (w.heap.size+1+1+1) _ _:=at_of hW1 (At.at_ _ _ _ _ (by simp))
 have NB:=gr_of hW1 (gr_alloc (gr_alloc (gr_alloc (gr_alloc BW.out _) _) _) _)
 clear hW1 BW 
 generalize w.heap.size+1+1+1=gx at *
 generalize w.heap.size+1+1=gm at *
 generalize w.heap.size+1=gb at *
 obtain ⟨ga,hg0⟩:∃ g,g=w.heap.size:=⟨_,rfl⟩
 rw [← hg0] at Na ⊢
 rw [← hg0] at Dax
 clear hg0
 have Fa:=Lib.hid Na
 have Fb:=Lib.hid Nb
 have Fm:=Lib.hid Nm
 have Fx:=Lib.hid Nx
 have BW:=Lib.hid NB
 clear NB Na Nb Nm Nx
 refine (Hcs.out _).mono ?_
 rintro e v2 ⟨rfl,z2⟩
 have Na:=Lib.hid (Fa.out.on z2)
 have Nb:=Lib.hid (Fb.out.on z2)
 have Nm:=Lib.hid (Fm.out.on z2)
 have Nx:=Lib.hid (Fx.out.on z2)
 have NB:=Lib.hid (bel_tr BW.out z2)
 clear BW z2 Fa Fb Fm Fx
 have Fa:=Na
 have Fb:=Nb
 have Fm:=Nm
 have Fx:=Nx
 have BW:=NB
 clear NB Na Nb Nm Nx
 have Lm:=Fm.out.lt
 have cm0:=Fm.out.c0
 have cm1:=Fm.out.c1
 have cm2:=Fm.out.c2
 have cm3:=Fm.out.c3
 go_wp2_with fail
 clear Lm cm0 cm1 cm2 cm3
 have Es:w.heap.size≤v2.heap.size:=by have:=BW.out.size;omega
 have Das:ga≠v2.heap.size:=by have:=Fa.out.lt;omega
 have Dbs:gb≠v2.heap.size:=by have:=Fb.out.lt;omega
 have Dms:gm≠v2.heap.size:=by have:=Fm.out.lt;omega
 have Dxs:gx≠v2.heap.size:=by have:=Fx.out.lt;omega
 generalize hW3:(v2.alloc (.cells #[.int .u64 (wd S 0:Nat),.int .u64 (wd S 1:Nat),.int .u64 (wd S 2:Nat),.int .u64 (wd S 3:Nat)] 24))=W3 at *
 have Ns:At W3 (v2.heap.size) _ _:=at_of hW3 (At.at_ _ _ _ _ (by simp))
 have Na:=at_of hW3 (Fa.out.alloc _)
 have Nb:=at_of hW3 (Fb.out.alloc _)
 have Nm:=at_of hW3 (Fm.out.alloc _)
 have Nx:=at_of hW3 (Fx.out.alloc _)
 have NB:=gr_of hW3 (gr_alloc BW.out _)
 clear hW3 BW Fa Fb Fm Fx
 generalize v2.heap.size=gs at *
 have Fa:=Lib.hid Na
 have Fb:=Lib.hid Nb
 have Fm:=Lib.hid Nm
 have Fx:=Lib.hid Nx
 have Fs:=Lib.hid Ns
 have BW:=Lib.hid NB
 clear NB Na Nb Nm Nx Ns
 refine (Hct.out _).mono ?_
 rintro e v4 ⟨rfl,z4⟩
 have Na:=Lib.hid (Fa.out.on z4)
 have Nb:=Lib.hid (Fb.out.on z4)
 have Nm:=Lib.hid (Fm.out.on z4)
 have Nx:=Lib.hid (Fx.out.on z4)
 have Ns:=Lib.hid (Fs.out.on z4)
 have NB:=Lib.hid (bel_tr BW.out z4)
 clear BW z4 Fa Fb Fm Fx Fs
 have Fa:=Na
 have Fb:=Nb
 have Fm:=Nm
 have Fx:=Nx
 have Fs:=Ns
 have BW:=NB
 clear NB Na Nb Nm Nx Ns
 have Ls:=Fs.out.lt
 have cs0:=Fs.out.c0
 have cs1:=Fs.out.c1
 have cs2:=Fs.out.c2
 have cs3:=Fs.out.c3
 have fs0:v4.frozen? ⟨gs,0,none⟩=false:=Fs.out.frozen 0
 have fs1:v4.frozen? ⟨gs,1,none⟩=false:=Fs.out.frozen 1
 have fs2:v4.frozen? ⟨gs,2,none⟩=false:=Fs.out.frozen 2
 have fs3:v4.frozen? ⟨gs,3,none⟩=false:=Fs.out.frozen 3
 have Lx:=Fx.out.lt
 have cx0:=Fx.out.c0
 have cx1:=Fx.out.c1
 have cx2:=Fx.out.c2
 have cx3:=Fx.out.c3
 have fx0:v4.frozen? ⟨gx,0,none⟩=false:=Fx.out.frozen 0
 have fx1:v4.frozen? ⟨gx,1,none⟩=false:=Fx.out.frozen 1
 have fx2:v4.frozen? ⟨gx,2,none⟩=false:=Fx.out.frozen 2
 have fx3:v4.frozen? ⟨gx,3,none⟩=false:=Fx.out.frozen 3
 go_wp2_with fail
 clear Ls cs0 cs1 cs2 cs3 fs0 fs1 fs2 fs3 Lx cx0 cx1 cx2 cx3 fx0 fx1 fx2 fx3
 generalize hW5:((((((((v4.setCell ⟨gs,0,none⟩ (.int .u64 (wd L 0:Nat))).setCell ⟨gs,1,none⟩ (.int .u64 (wd L 1:Nat))).setCell ⟨gs,2,none⟩ (.int .u64 (wd L 2:Nat))).setCell ⟨gs,3,none⟩ (.int .u64 (wd L 3:Nat))).setCell ⟨gx,0,none⟩ (.int .u64 (wd L 0:Nat))).setCell ⟨gx,1,none⟩ (.int .u64 (wd L 1:Nat))).setCell ⟨gx,2,none⟩ (.int .u64 (wd L 2:Nat))).setCell ⟨gx,3,none⟩ (.int .u64 (wd L 3:Nat)))=W5 at *
 have Na:=at_of hW5 (((Fa.out).far4 Das _ _ _ _).far4 Dax _ _ _ _)
 have Nb:=at_of hW5 (((Fb.out).far4 Dbs _ _ _ _).far4 Dbx _ _ _ _)
 have Nm:=at_of hW5 (((Fm.out).far4 Dms _ _ _ _).far4 Dmx _ _ _ _)
 have Nx:=at_of hW5 (((Fx.out).far4 Dxs _ _ _ _).put4 _ _ _ _)
 have Ns:=at_of hW5 (((Fs.out).put4 _ _ _ _).far4 Dxs.symm _ _ _ _)
 have NB:=gr_of hW5 (((((((((BW.out).setCell Es _).setCell Es _).setCell Es _).setCell Es _).setCell Ex _).setCell Ex _).setCell Ex _).setCell Ex _)
 clear hW5 BW Fa Fb Fm Fx Fs
 have Fa:=Lib.hid Na
 have Fb:=Lib.hid Nb
 have Fm:=Lib.hid Nm
 have Fx:=Lib.hid Nx
 have Fs:=Lib.hid Ns
 have BW:=Lib.hid NB
 clear NB Na Nb Nm Nx Ns
 have Lx:=Fx.out.lt
 have cx0:=Fx.out.c0
 have cx1:=Fx.out.c1
 have cx2:=Fx.out.c2
 have cx3:=Fx.out.c3
 refine bodyPost_ret (v:=.tuple #[num L,.int .i64 0]) (by simp [results,Tryd.results43,go_sem, *]) rfl ⟨rfl,BW.out⟩

/-- mods.difference: of numbers below M -/
theorem diff_ex (A B M:Nat) (hA:A<M) (hB:B<M) (hM:M<2^256):∃ L c:Nat,L<M∧c≤1∧A+M*c=L+B ∧
  ∀ w,Calls Tryd.prog 43 #[num A,num B,num M] w fun e w'=>e=.returned (.tuple #[num L,.int .i64 0])∧Below w.heap.size w w':=by
 obtain ⟨S,c,hS,hc,he,C⟩:=sub_ex A B (by omega) (by omega)
 have h01:c=0∨c=1:=by omega
 rcases h01 with rfl | rfl
 ·exact ⟨S,0,by omega,by omega,by omega,fun w=>diff_none A B M S C w⟩
 ·obtain ⟨L,d,hL,hd,he2,C2⟩:=add_ex S M hS hM
  have:d=1:=by omega
  subst this
  exact ⟨L,1,by omega,by omega,by omega,fun w=>diff_some A B M S L 1 C C2 w⟩

set_option maxRecDepth 100000 in
set_option maxHeartbeats 8000000 in
theorem prod_some (A B M L H r:Nat)
  (cs:∀ w,Calls Tryd.prog 61 #[num A,num B] w fun e w'=>e=.returned (.tuple #[num L,num H])∧Below w.heap.size w w')
  (ct:∀ w,Calls Tryd.prog 56 #[num L,num H,num M] w fun e w'=>e=.returned (.tuple #[num r,.int .i64 0])∧Below w.heap.size w w')
  (w:World):Calls Tryd.prog 45 #[num A,num B,num M] w fun e w'=>e=.returned (.tuple #[num r,.int .i64 0])∧Below w.heap.size w w':=by
 have Hcs:=Lib.hid cs
 have Hct:=Lib.hid ct
 clear cs ct
 go_enter Tryd.func45,Tryd.ntmps45
 go_wp2_with fail
 have BW:=Lib.hid (Below.refl w.heap.size w)
 have Ex:w.heap.size≤w.heap.size+1+1+1:=by have:=BW.out.size;omega
 have Dax:w.heap.size≠w.heap.size+1+1+1:=by omega
 have Dbx:w.heap.size+1≠w.heap.size+1+1+1:=by omega
 have Dmx:w.heap.size+1+1≠w.heap.size+1+1+1:=by omega
 generalize hW1:((((w.alloc (.cells #[.int .u64 (wd A 0:Nat),.int .u64 (wd A 1:Nat),.int .u64 (wd A 2:Nat),.int .u64 (wd A 3:Nat)] 24)).alloc (.cells #[.int .u64 (wd B 0:Nat),.int .u64 (wd B 1:Nat),.int .u64 (wd B 2:Nat),.int .u64 (wd B 3:Nat)] 24)).alloc (.cells #[.int .u64 (wd M 0:Nat),.int .u64 (wd M 1:Nat),.int .u64 (wd M 2:Nat),.int .u64 (wd M 3:Nat)] 24)).alloc (.cells #[.int .u64 0,.int .u64 0,.int .u64 0,.int .u64 0] 24))=W1 at *
 have Na:At W1 (w.heap.size) _ _:=at_of hW1 ((((At.at_ _ _ _ _ (by simp)).alloc _).alloc _).alloc _)
 have Nb:At W1 (w.heap.size+1) _ _:=at_of hW1 (((At.at_ _ _ _ _ (by simp)).alloc _).alloc _)
 have Nm:At W1 (w.heap.size+1+1) _ _:=at_of hW1 ((At.at_ _ _ _ _ (by simp)).alloc _)
 have Nx:At W1 (w.heap.size+1+1+1) _ _:=at_of hW1 (At.at_ _ _ _ _ (by simp))
 have NB:=gr_of hW1 (gr_alloc (gr_alloc (gr_alloc (gr_alloc BW.out _) _) _) _)
 clear hW1 BW 
 generalize w.heap.size+1+1+1=gx at *
 generalize w.heap.size+1+1=gm at *
 generalize w.heap.size+1=gb at *
 obtain ⟨ga,hg0⟩:∃ g,g=w.heap.size:=⟨_,rfl⟩
 rw [← hg0] at Na ⊢
 rw [← hg0] at Dax
 clear hg0
 have Fa:=Lib.hid Na
 have Fb:=Lib.hid Nb
 have Fm:=Lib.hid Nm
 have Fx:=Lib.hid Nx
 have BW:=Lib.hid NB
 clear NB Na Nb Nm Nx
 refine (Hcs.out _).mono ?_
 rintro e v2 ⟨rfl,z2⟩
 have Na:=Lib.hid (Fa.out.on z2)
 have Nb:=Lib.hid (Fb.out.on z2)
 have Nm:=Lib.hid (Fm.out.on z2)
 have Nx:=Lib.hid (Fx.out.on z2)
 have NB:=Lib.hid (bel_tr BW.out z2)
 clear BW z2 Fa Fb Fm Fx
 have Fa:=Na
 have Fb:=Nb
 have Fm:=Nm
 have Fx:=Nx
 have BW:=NB
 clear NB Na Nb Nm Nx
 have Lm:=Fm.out.lt
 have cm0:=Fm.out.c0
 have cm1:=Fm.out.c1
 have cm2:=Fm.out.c2
 have cm3:=Fm.out.c3
 go_wp2_with fail
 clear Lm cm0 cm1 cm2 cm3
 have Dxl:gx≠v2.heap.size:=by have:=Fx.out.lt;omega
 have Dxh:gx≠v2.heap.size+1:=by have:=Fx.out.lt;omega
 generalize hW3:((v2.alloc (.cells #[.int .u64 (wd L 0:Nat),.int .u64 (wd L 1:Nat),.int .u64 (wd L 2:Nat),.int .u64 (wd L 3:Nat)] 24)).alloc (.cells #[.int .u64 (wd H 0:Nat),.int .u64 (wd H 1:Nat),.int .u64 (wd H 2:Nat),.int .u64 (wd H 3:Nat)] 24))=W3 at *
 have Nl:At W3 (v2.heap.size) _ _:=at_of hW3 ((At.at_ _ _ _ _ (by simp)).alloc _)
 have Nh:At W3 (v2.heap.size+1) _ _:=at_of hW3 (At.at_ _ _ _ _ (by simp))
 have Na:=at_of hW3 ((Fa.out.alloc _).alloc _)
 have Nb:=at_of hW3 ((Fb.out.alloc _).alloc _)
 have Nm:=at_of hW3 ((Fm.out.alloc _).alloc _)
 have Nx:=at_of hW3 ((Fx.out.alloc _).alloc _)
 have NB:=gr_of hW3 (gr_alloc (gr_alloc BW.out _) _)
 clear hW3 BW Fa Fb Fm Fx
 generalize v2.heap.size+1=gh at *
 generalize v2.heap.size=gl at *
 have Fa:=Lib.hid Na
 have Fb:=Lib.hid Nb
 have Fm:=Lib.hid Nm
 have Fx:=Lib.hid Nx
 have Fl:=Lib.hid Nl
 have Fh:=Lib.hid Nh
 have BW:=Lib.hid NB
 clear NB Na Nb Nm Nx Nl Nh
 refine (Hct.out _).mono ?_
 rintro e v4 ⟨rfl,z4⟩
 have Na:=Lib.hid (Fa.out.on z4)
 have Nb:=Lib.hid (Fb.out.on z4)
 have Nm:=Lib.hid (Fm.out.on z4)
 have Nx:=Lib.hid (Fx.out.on z4)
 have Nl:=Lib.hid (Fl.out.on z4)
 have Nh:=Lib.hid (Fh.out.on z4)
 have NB:=Lib.hid (bel_tr BW.out z4)
 clear BW z4 Fa Fb Fm Fx Fl Fh
 have Fa:=Na
 have Fb:=Nb
 have Fm:=Nm
 have Fx:=Nx
 have Fl:=Nl
 have Fh:=Nh
 have BW:=NB
 clear NB Na Nb Nm Nx Nl Nh
 have Lx:=Fx.out.lt
 have cx0:=Fx.out.c0
 have cx1:=Fx.out.c1
 have cx2:=Fx.out.c2
 have cx3:=Fx.out.c3
 have fx0:v4.frozen? ⟨gx,0,none⟩=false:=Fx.out.frozen 0
 have fx1:v4.frozen? ⟨gx,1,none⟩=false:=Fx.out.frozen 1
 have fx2:v4.frozen? ⟨gx,2,none⟩=false:=Fx.out.frozen 2
 have fx3:v4.frozen? ⟨gx,3,none⟩=false:=Fx.out.frozen 3
 go_wp2_with fail
 clear Lx cx0 cx1 cx2 cx3 fx0 fx1 fx2 fx3
 generalize hW5:((((v4.setCell ⟨gx,0,none⟩ (.int .u64 (wd r 0:Nat))).setCell ⟨gx,1,none⟩ (.int .u64 (wd r 1:Nat))).setCell ⟨gx,2,none⟩ (.int .u64 (wd r 2:Nat))).setCell ⟨gx,3,none⟩ (.int .u64 (wd r 3:Nat)))=W5 at *
 have Na:=at_of hW5 ((Fa.out).far4 Dax _ _ _ _)
 have Nb:=at_of hW5 ((Fb.out).far4 Dbx _ _ _ _)
 have Nm:=at_of hW5 ((Fm.out).far4 Dmx _ _ _ _)
 have Nx:=at_of hW5 ((Fx.out).put4 _ _ _ _)
 have Nl:=at_of hW5 ((Fl.out).far4 Dxl.symm _ _ _ _)
 have Nh:=at_of hW5 ((Fh.out).far4 Dxh.symm _ _ _ _)
 have NB:=gr_of hW5 (((((BW.out).setCell Ex _).setCell Ex _).setCell Ex _).setCell Ex _)
 clear hW5 BW Fa Fb Fm Fx Fl Fh
 have Fa:=Lib.hid Na
 have Fb:=Lib.hid Nb
 have Fm:=Lib.hid Nm
 have Fx:=Lib.hid Nx
 have Fl:=Lib.hid Nl
 have Fh:=Lib.hid Nh
 have BW:=Lib.hid NB
 clear NB Na Nb Nm Nx Nl Nh
 have Lx:=Fx.out.lt
 have cx0:=Fx.out.c0
 have cx1:=Fx.out.c1
 have cx2:=Fx.out.c2
 have cx3:=Fx.out.c3
 refine bodyPost_ret (v:=.tuple #[num r,.int .i64 0]) (by simp [results,Tryd.results45,go_sem, *]) rfl ⟨rfl,BW.out⟩

/-- mods.product: of any two numbers -/
theorem prod_any (A B M:Nat) (hA:A<2^256) (hB:B<2^256) (hM:M<2^256) (h0:M≠0) :
  ∀ w,Calls Tryd.prog 45 #[num A,num B,num M] w fun e w'=>e=.returned (.tuple #[num (A*B%M),.int .i64 0])∧Below w.heap.size w w':=by
 obtain ⟨L,H,hL,hH,he,C⟩:=mul_ex A B hA hB
 obtain ⟨r,hr,er,D⟩:=wide_ex L H M hL hH hM h0
 have:r=A*B%M:=by rw [er,he];unfold wide;rw [Nat.add_comm,Nat.mul_comm]
 subst this
 exact fun w=>prod_some A B M L H _ C D w

set_option maxRecDepth 100000 in
set_option maxHeartbeats 8000000 in
theorem sum_over (A B M S L c:Nat)
  (cs:∀ w,Calls Tryd.prog 59 #[num A,num B] w fun e w'=>e=.returned (.tuple #[num S,.int .u64 1])∧Below w.heap.size w w')
  (ct:∀ w,Calls Tryd.prog 26 #[num S,num M] w fun e w'=>e=.returned (.tuple #[num L,.int .u64 (c:Nat)])∧Below w.heap.size w w')
  (w:World):Calls Tryd.prog 46 #[num A,num B,num M] w fun e w'=>e=.returned (.tuple #[num L,.int .i64 0])∧Below w.heap.size w w':=by
 have Hcs:=Lib.hid cs
 have Hct:=Lib.hid ct
 clear cs ct
 go_enter Tryd.func46,Tryd.ntmps46
 go_wp2_with fail
 have BW:=Lib.hid (Below.refl w.heap.size w)
 have Ex:w.heap.size≤w.heap.size+1+1+1:=by have:=BW.out.size;omega
 have Dax:w.heap.size≠w.heap.size+1+1+1:=by omega
 have Dbx:w.heap.size+1≠w.heap.size+1+1+1:=by omega
 have Dmx:w.heap.size+1+1≠w.heap.size+1+1+1:=by omega
 generalize hW1:((((w.alloc (.cells #[.int .u64 (wd A 0:Nat),.int .u64 (wd A 1:Nat),.int .u64 (wd A 2:Nat),.int .u64 (wd A 3:Nat)] 24)).alloc (.cells #[.int .u64 (wd B 0:Nat),.int .u64 (wd B 1:Nat),.int .u64 (wd B 2:Nat),.int .u64 (wd B 3:Nat)] 24)).alloc (.cells #[.int .u64 (wd M 0:Nat),.int .u64 (wd M 1:Nat),.int .u64 (wd M 2:Nat),.int .u64 (wd M 3:Nat)] 24)).alloc (.cells #[.int .u64 0,.int .u64 0,.int .u64 0,.int .u64 0] 24))=W1 at *
 have Na:At W1 (w.heap.size) _ _:=at_of hW1 ((((At.at_ _ _ _ _ (by simp)).alloc _).alloc _).alloc _)
 have Nb:At W1 (w.heap.size+1) _ _:=at_of hW1 (((At.at_ _ _ _ _ (by simp)).alloc _).alloc _)
 have Nm:At W1 (w.heap.size+1+1) _ _:=at_of hW1 ((At.at_ _ _ _ _ (by simp)).alloc _)
 have Nx:At W1 (w.heap.size+1+1+1) _ _:=at_of hW1 (At.at_ _ _ _ _ (by simp))
 have NB:=gr_of hW1 (gr_alloc (gr_alloc (gr_alloc (gr_alloc BW.out _) _) _) _)
 clear hW1 BW 
 generalize w.heap.size+1+1+1=gx at *
 generalize w.heap.size+1+1=gm at *
 generalize w.heap.size+1=gb at *
 obtain ⟨ga,hg0⟩:∃ g,g=w.heap.size:=⟨_,rfl⟩
 rw [← hg0] at Na ⊢
 rw [← hg0] at Dax
 clear hg0
 have Fa:=Lib.hid Na
 have Fb:=Lib.hid Nb
 have Fm:=Lib.hid Nm
 have Fx:=Lib.hid Nx
 have BW:=Lib.hid NB
 clear NB Na Nb Nm Nx
 refine (Hcs.out _).mono ?_
 rintro e v2 ⟨rfl,z2⟩
 have Na:=Lib.hid (Fa.out.on z2)
 have Nb:=Lib.hid (Fb.out.on z2)
 have Nm:=Lib.hid (Fm.out.on z2)
 have Nx:=Lib.hid (Fx.out.on z2)
 have NB:=Lib.hid (bel_tr BW.out z2)
 clear BW z2 Fa Fb Fm Fx
 have Fa:=Na
 have Fb:=Nb
 have Fm:=Nm
 have Fx:=Nx
 have BW:=NB
 clear NB Na Nb Nm Nx
 have Lm:=Fm.out.lt
 have cm0:=Fm.out.c0
 have cm1:=Fm.out.c1
 have cm2:=Fm.out.c2
 have cm3:=Fm.out.c3
 go_wp2_with fail
 clear Lm cm0 cm1 cm2 cm3
 have Es:w.heap.size≤v2.heap.size:=by have:=BW.out.size;omega
 have Das:ga≠v2.heap.size:=by have:=Fa.out.lt;omega
 have Dbs:gb≠v2.heap.size:=by have:=Fb.out.lt;omega
 have Dms:gm≠v2.heap.size:=by have:=Fm.out.lt;omega
 have Dxs:gx≠v2.heap.size:=by have:=Fx.out.lt;omega
 generalize hW3:(v2.alloc (.cells #[.int .u64 (wd S 0:Nat),.int .u64 (wd S 1:Nat),.int .u64 (wd S 2:Nat),.int .u64 (wd S 3:Nat)] 24))=W3 at *
 have Ns:At W3 (v2.heap.size) _ _:=at_of hW3 (At.at_ _ _ _ _ (by simp))
 have Na:=at_of hW3 (Fa.out.alloc _)
 have Nb:=at_of hW3 (Fb.out.alloc _)
 have Nm:=at_of hW3 (Fm.out.alloc _)
 have Nx:=at_of hW3 (Fx.out.alloc _)
 have NB:=gr_of hW3 (gr_alloc BW.out _)
 clear hW3 BW Fa Fb Fm Fx
 generalize v2.heap.size=gs at *
 have Fa:=Lib.hid Na
 have Fb:=Lib.hid Nb
 have Fm:=Lib.hid Nm
 have Fx:=Lib.hid Nx
 have Fs:=Lib.hid Ns
 have BW:=Lib.hid NB
 clear NB Na Nb Nm Nx Ns
 refine (Hct.out _).mono ?_
 rintro e v4 ⟨rfl,z4⟩
 have Na:=Lib.hid (Fa.out.on z4)
 have Nb:=Lib.hid (Fb.out.on z4)
 have Nm:=Lib.hid (Fm.out.on z4)
 have Nx:=Lib.hid (Fx.out.on z4)
 have Ns:=Lib.hid (Fs.out.on z4)
 have NB:=Lib.hid (bel_tr BW.out z4)
 clear BW z4 Fa Fb Fm Fx Fs
 have Fa:=Na
 have Fb:=Nb
 have Fm:=Nm
 have Fx:=Nx
 have Fs:=Ns
 have BW:=NB
 clear NB Na Nb Nm Nx Ns
 have Ls:=Fs.out.lt
 have cs0:=Fs.out.c0
 have cs1:=Fs.out.c1
 have cs2:=Fs.out.c2
 have cs3:=Fs.out.c3
 have fs0:v4.frozen? ⟨gs,0,none⟩=false:=Fs.out.frozen 0
 have fs1:v4.frozen? ⟨gs,1,none⟩=false:=Fs.out.frozen 1
 have fs2:v4.frozen? ⟨gs,2,none⟩=false:=Fs.out.frozen 2
 have fs3:v4.frozen? ⟨gs,3,none⟩=false:=Fs.out.frozen 3
 have Lx:=Fx.out.lt
 have cx0:=Fx.out.c0
 have cx1:=Fx.out.c1
 have cx2:=Fx.out.c2
 have cx3:=Fx.out.c3
 have fx0:v4.frozen? ⟨gx,0,none⟩=false:=Fx.out.frozen 0
 have fx1:v4.frozen? ⟨gx,1,none⟩=false:=Fx.out.frozen 1
 have fx2:v4.frozen? ⟨gx,2,none⟩=false:=Fx.out.frozen 2
 have fx3:v4.frozen? ⟨gx,3,none⟩=false:=Fx.out.frozen 3
 go_wp2_with fail
 clear Ls cs0 cs1 cs2 cs3 fs0 fs1 fs2 fs3 Lx cx0 cx1 cx2 cx3 fx0 fx1 fx2 fx3
 generalize hW5:((((((((v4.setCell ⟨gs,0,none⟩ (.int .u64 (wd L 0:Nat))).setCell ⟨gs,1,none⟩ (.int .u64 (wd L 1:Nat))).setCell ⟨gs,2,none⟩ (.int .u64 (wd L 2:Nat))).setCell ⟨gs,3,none⟩ (.int .u64 (wd L 3:Nat))).setCell ⟨gx,0,none⟩ (.int .u64 (wd L 0:Nat))).setCell ⟨gx,1,none⟩ (.int .u64 (wd L 1:Nat))).setCell ⟨gx,2,none⟩ (.int .u64 (wd L 2:Nat))).setCell ⟨gx,3,none⟩ (.int .u64 (wd L 3:Nat)))=W5 at *
 have Na:=at_of hW5 (((Fa.out).far4 Das _ _ _ _).far4 Dax _ _ _ _)
 have Nb:=at_of hW5 (((Fb.out).far4 Dbs _ _ _ _).far4 Dbx _ _ _ _)
 have Nm:=at_of hW5 (((Fm.out).far4 Dms _ _ _ _).far4 Dmx _ _ _ _)
 have Nx:=at_of hW5 (((Fx.out).far4 Dxs _ _ _ _).put4 _ _ _ _)
 have Ns:=at_of hW5 (((Fs.out).put4 _ _ _ _).far4 Dxs.symm _ _ _ _)
 have NB:=gr_of hW5 (((((((((BW.out).setCell Es _).setCell Es _).setCell Es _).setCell Es _).setCell Ex _).setCell Ex _).setCell Ex _).setCell Ex _)
 clear hW5 BW Fa Fb Fm Fx Fs
 have Fa:=Lib.hid Na
 have Fb:=Lib.hid Nb
 have Fm:=Lib.hid Nm
 have Fx:=Lib.hid Nx
 have Fs:=Lib.hid Ns
 have BW:=Lib.hid NB
 clear NB Na Nb Nm Nx Ns
 have Lx:=Fx.out.lt
 have cx0:=Fx.out.c0
 have cx1:=Fx.out.c1
 have cx2:=Fx.out.c2
 have cx3:=Fx.out.c3
 refine bodyPost_ret (v:=.tuple #[num L,.int .i64 0]) (by simp [results,Tryd.results46,go_sem, *]) rfl ⟨rfl,BW.out⟩

set_option maxRecDepth 100000 in
set_option maxHeartbeats 8000000 in
theorem sum_gt (A B M S L c:Nat)
  (cs:∀ w,Calls Tryd.prog 59 #[num A,num B] w fun e w'=>e=.returned (.tuple #[num S,.int .u64 0])∧Below w.heap.size w w')
  (ck:∀ w,Calls Tryd.prog 12 #[num S,num M] w fun e w'=>e=.returned (.int .i64 1)∧Below w.heap.size w w')
  (ct:∀ w,Calls Tryd.prog 26 #[num S,num M] w fun e w'=>e=.returned (.tuple #[num L,.int .u64 (c:Nat)])∧Below w.heap.size w w')
  (w:World):Calls Tryd.prog 46 #[num A,num B,num M] w fun e w'=>e=.returned (.tuple #[num L,.int .i64 0])∧Below w.heap.size w w':=by
 have Hcs:=Lib.hid cs
 have Hck:=Lib.hid ck
 have Hct:=Lib.hid ct
 clear cs ck ct
 go_enter Tryd.func46,Tryd.ntmps46
 go_wp2_with fail
 have BW:=Lib.hid (Below.refl w.heap.size w)
 have Ex:w.heap.size≤w.heap.size+1+1+1:=by have:=BW.out.size;omega
 have Dax:w.heap.size≠w.heap.size+1+1+1:=by omega
 have Dbx:w.heap.size+1≠w.heap.size+1+1+1:=by omega
 have Dmx:w.heap.size+1+1≠w.heap.size+1+1+1:=by omega
 generalize hW1:((((w.alloc (.cells #[.int .u64 (wd A 0:Nat),.int .u64 (wd A 1:Nat),.int .u64 (wd A 2:Nat),.int .u64 (wd A 3:Nat)] 24)).alloc (.cells #[.int .u64 (wd B 0:Nat),.int .u64 (wd B 1:Nat),.int .u64 (wd B 2:Nat),.int .u64 (wd B 3:Nat)] 24)).alloc (.cells #[.int .u64 (wd M 0:Nat),.int .u64 (wd M 1:Nat),.int .u64 (wd M 2:Nat),.int .u64 (wd M 3:Nat)] 24)).alloc (.cells #[.int .u64 0,.int .u64 0,.int .u64 0,.int .u64 0] 24))=W1 at *
 have Na:At W1 (w.heap.size) _ _:=at_of hW1 ((((At.at_ _ _ _ _ (by simp)).alloc _).alloc _).alloc _)
 have Nb:At W1 (w.heap.size+1) _ _:=at_of hW1 (((At.at_ _ _ _ _ (by simp)).alloc _).alloc _)
 have Nm:At W1 (w.heap.size+1+1) _ _:=at_of hW1 ((At.at_ _ _ _ _ (by simp)).alloc _)
 have Nx:At W1 (w.heap.size+1+1+1) _ _:=at_of hW1 (At.at_ _ _ _ _ (by simp))
 have NB:=gr_of hW1 (gr_alloc (gr_alloc (gr_alloc (gr_alloc BW.out _) _) _) _)
 clear hW1 BW 
 generalize w.heap.size+1+1+1=gx at *
 generalize w.heap.size+1+1=gm at *
 generalize w.heap.size+1=gb at *
 obtain ⟨ga,hg0⟩:∃ g,g=w.heap.size:=⟨_,rfl⟩
 rw [← hg0] at Na ⊢
 rw [← hg0] at Dax
 clear hg0
 have Fa:=Lib.hid Na
 have Fb:=Lib.hid Nb
 have Fm:=Lib.hid Nm
 have Fx:=Lib.hid Nx
 have BW:=Lib.hid NB
 clear NB Na Nb Nm Nx
 refine (Hcs.out _).mono ?_
 rintro e v2 ⟨rfl,z2⟩
 have Na:=Lib.hid (Fa.out.on z2)
 have Nb:=Lib.hid (Fb.out.on z2)
 have Nm:=Lib.hid (Fm.out.on z2)
 have Nx:=Lib.hid (Fx.out.on z2)
 have NB:=Lib.hid (bel_tr BW.out z2)
 clear BW z2 Fa Fb Fm Fx
 have Fa:=Na
 have Fb:=Nb
 have Fm:=Nm
 have Fx:=Nx
 have BW:=NB
 clear NB Na Nb Nm Nx
 have Lm:=Fm.out.lt
 have cm0:=Fm.out.c0
 have cm1:=Fm.out.c1
 have cm2:=Fm.out.c2
 have cm3:=Fm.out.c3
 go_wp2_with fail
 clear Lm cm0 cm1 cm2 cm3
 have Es:w.heap.size≤v2.heap.size:=by have:=BW.out.size;omega
 have Das:ga≠v2.heap.size:=by have:=Fa.out.lt;omega
 have Dbs:gb≠v2.heap.size:=by have:=Fb.out.lt;omega
 have Dms:gm≠v2.heap.size:=by have:=Fm.out.lt;omega
 have Dxs:gx≠v2.heap.size:=by have:=Fx.out.lt;omega
 generalize hW3:(v2.alloc (.cells #[.int .u64 (wd S 0:Nat),.int .u64 (wd S 1:Nat),.int .u64 (wd S 2:Nat),.int .u64 (wd S 3:Nat)] 24))=W3 at *
 have Ns:At W3 (v2.heap.size) _ _:=at_of hW3 (At.at_ _ _ _ _ (by simp))
 have Na:=at_of hW3 (Fa.out.alloc _)
 have Nb:=at_of hW3 (Fb.out.alloc _)
 have Nm:=at_of hW3 (Fm.out.alloc _)
 have Nx:=at_of hW3 (Fx.out.alloc _)
 have NB:=gr_of hW3 (gr_alloc BW.out _)
 clear hW3 BW Fa Fb Fm Fx
 generalize v2.heap.size=gs at *
 have Fa:=Lib.hid Na
 have Fb:=Lib.hid Nb
 have Fm:=Lib.hid Nm
 have Fx:=Lib.hid Nx
 have Fs:=Lib.hid Ns
 have BW:=Lib.hid NB
 clear NB Na Nb Nm Nx Ns
 refine (Hck.out _).mono ?_
 rintro e v4 ⟨rfl,z4⟩
 have Na:=Lib.hid (Fa.out.on z4)
 have Nb:=Lib.hid (Fb.out.on z4)
 have Nm:=Lib.hid (Fm.out.on z4)
 have Nx:=Lib.hid (Fx.out.on z4)
 have Ns:=Lib.hid (Fs.out.on z4)
 have NB:=Lib.hid (bel_tr BW.out z4)
 clear BW z4 Fa Fb Fm Fx Fs
 have Fa:=Na
 have Fb:=Nb
 have Fm:=Nm
 have Fx:=Nx
 have Fs:=Ns
 have BW:=NB
 clear NB Na Nb Nm Nx Ns
 have Ls:=Fs.out.lt
 have cs0:=Fs.out.c0
 have cs1:=Fs.out.c1
 have cs2:=Fs.out.c2
 have cs3:=Fs.out.c3
 have Lm:=Fm.out.lt
 have cm0:=Fm.out.c0
 have cm1:=Fm.out.c1
 have cm2:=Fm.out.c2
 have cm3:=Fm.out.c3
 go_wp2_with fail
 clear Ls cs0 cs1 cs2 cs3 Lm cm0 cm1 cm2 cm3
 refine (Hct.out _).mono ?_
 rintro e v5 ⟨rfl,z5⟩
 have Na:=Lib.hid (Fa.out.on z5)
 have Nb:=Lib.hid (Fb.out.on z5)
 have Nm:=Lib.hid (Fm.out.on z5)
 have Nx:=Lib.hid (Fx.out.on z5)
 have Ns:=Lib.hid (Fs.out.on z5)
 have NB:=Lib.hid (bel_tr BW.out z5)
 clear BW z5 Fa Fb Fm Fx Fs
 have Fa:=Na
 have Fb:=Nb
 have Fm:=Nm
 have Fx:=Nx
 have Fs:=Ns
 have BW:=NB
 clear NB Na Nb Nm Nx Ns
 have Ls:=Fs.out.lt
 have cs0:=Fs.out.c0
 have cs1:=Fs.out.c1
 have cs2:=Fs.out.c2
 have cs3:=Fs.out.c3
 have fs0:v5.frozen? ⟨gs,0,none⟩=false:=Fs.out.frozen 0
 have fs1:v5.frozen? ⟨gs,1,none⟩=false:=Fs.out.frozen 1
 have fs2:v5.frozen? ⟨gs,2,none⟩=false:=Fs.out.frozen 2
 have fs3:v5.frozen? ⟨gs,3,none⟩=false:=Fs.out.frozen 3
 have Lx:=Fx.out.lt
 have cx0:=Fx.out.c0
 have cx1:=Fx.out.c1
 have cx2:=Fx.out.c2
 have cx3:=Fx.out.c3
 have fx0:v5.frozen? ⟨gx,0,none⟩=false:=Fx.out.frozen 0
 have fx1:v5.frozen? ⟨gx,1,none⟩=false:=Fx.out.frozen 1
 have fx2:v5.frozen? ⟨gx,2,none⟩=false:=Fx.out.frozen 2
 have fx3:v5.frozen? ⟨gx,3,none⟩=false:=Fx.out.frozen 3
 go_wp2_with fail
 clear Ls cs0 cs1 cs2 cs3 fs0 fs1 fs2 fs3 Lx cx0 cx1 cx2 cx3 fx0 fx1 fx2 fx3
 generalize hW6:((((((((v5.setCell ⟨gs,0,none⟩ (.int .u64 (wd L 0:Nat))).setCell ⟨gs,1,none⟩ (.int .u64 (wd L 1:Nat))).setCell ⟨gs,2,none⟩ (.int .u64 (wd L 2:Nat))).setCell ⟨gs,3,none⟩ (.int .u64 (wd L 3:Nat))).setCell ⟨gx,0,none⟩ (.int .u64 (wd L 0:Nat))).setCell ⟨gx,1,none⟩ (.int .u64 (wd L 1:Nat))).setCell ⟨gx,2,none⟩ (.int .u64 (wd L 2:Nat))).setCell ⟨gx,3,none⟩ (.int .u64 (wd L 3:Nat)))=W6 at *
 have Na:=at_of hW6 (((Fa.out).far4 Das _ _ _ _).far4 Dax _ _ _ _)
 have Nb:=at_of hW6 (((Fb.out).far4 Dbs _ _ _ _).far4 Dbx _ _ _ _)
 have Nm:=at_of hW6 (((Fm.out).far4 Dms _ _ _ _).far4 Dmx _ _ _ _)
 have Nx:=at_of hW6 (((Fx.out).far4 Dxs _ _ _ _).put4 _ _ _ _)
 have Ns:=at_of hW6 (((Fs.out).put4 _ _ _ _).far4 Dxs.symm _ _ _ _)
 have NB:=gr_of hW6 (((((((((BW.out).setCell Es _).setCell Es _).setCell Es _).setCell Es _).setCell Ex _).setCell Ex _).setCell Ex _).setCell Ex _)
 clear hW6 BW Fa Fb Fm Fx Fs
 have Fa:=Lib.hid Na
 have Fb:=Lib.hid Nb
 have Fm:=Lib.hid Nm
 have Fx:=Lib.hid Nx
 have Fs:=Lib.hid Ns
 have BW:=Lib.hid NB
 clear NB Na Nb Nm Nx Ns
 have Lx:=Fx.out.lt
 have cx0:=Fx.out.c0
 have cx1:=Fx.out.c1
 have cx2:=Fx.out.c2
 have cx3:=Fx.out.c3
 refine bodyPost_ret (v:=.tuple #[num L,.int .i64 0]) (by simp [results,Tryd.results46,go_sem, *]) rfl ⟨rfl,BW.out⟩

set_option maxRecDepth 100000 in
set_option maxHeartbeats 8000000 in
theorem sum_eq (A B M S L c:Nat)
  (cs:∀ w,Calls Tryd.prog 59 #[num A,num B] w fun e w'=>e=.returned (.tuple #[num S,.int .u64 0])∧Below w.heap.size w w')
  (ck:∀ w,Calls Tryd.prog 12 #[num S,num M] w fun e w'=>e=.returned (.int .i64 0)∧Below w.heap.size w w')
  (ct:∀ w,Calls Tryd.prog 26 #[num S,num M] w fun e w'=>e=.returned (.tuple #[num L,.int .u64 (c:Nat)])∧Below w.heap.size w w')
  (w:World):Calls Tryd.prog 46 #[num A,num B,num M] w fun e w'=>e=.returned (.tuple #[num L,.int .i64 0])∧Below w.heap.size w w':=by
 have Hcs:=Lib.hid cs
 have Hck:=Lib.hid ck
 have Hct:=Lib.hid ct
 clear cs ck ct
 go_enter Tryd.func46,Tryd.ntmps46
 go_wp2_with fail
 have BW:=Lib.hid (Below.refl w.heap.size w)
 have Ex:w.heap.size≤w.heap.size+1+1+1:=by have:=BW.out.size;omega
 have Dax:w.heap.size≠w.heap.size+1+1+1:=by omega
 have Dbx:w.heap.size+1≠w.heap.size+1+1+1:=by omega
 have Dmx:w.heap.size+1+1≠w.heap.size+1+1+1:=by omega
 generalize hW1:((((w.alloc (.cells #[.int .u64 (wd A 0:Nat),.int .u64 (wd A 1:Nat),.int .u64 (wd A 2:Nat),.int .u64 (wd A 3:Nat)] 24)).alloc (.cells #[.int .u64 (wd B 0:Nat),.int .u64 (wd B 1:Nat),.int .u64 (wd B 2:Nat),.int .u64 (wd B 3:Nat)] 24)).alloc (.cells #[.int .u64 (wd M 0:Nat),.int .u64 (wd M 1:Nat),.int .u64 (wd M 2:Nat),.int .u64 (wd M 3:Nat)] 24)).alloc (.cells #[.int .u64 0,.int .u64 0,.int .u64 0,.int .u64 0] 24))=W1 at *
 have Na:At W1 (w.heap.size) _ _:=at_of hW1 ((((At.at_ _ _ _ _ (by simp)).alloc _).alloc _).alloc _)
 have Nb:At W1 (w.heap.size+1) _ _:=at_of hW1 (((At.at_ _ _ _ _ (by simp)).alloc _).alloc _)
 have Nm:At W1 (w.heap.size+1+1) _ _:=at_of hW1 ((At.at_ _ _ _ _ (by simp)).alloc _)
 have Nx:At W1 (w.heap.size+1+1+1) _ _:=at_of hW1 (At.at_ _ _ _ _ (by simp))
 have NB:=gr_of hW1 (gr_alloc (gr_alloc (gr_alloc (gr_alloc BW.out _) _) _) _)
 clear hW1 BW 
 generalize w.heap.size+1+1+1=gx at *
 generalize w.heap.size+1+1=gm at *
 generalize w.heap.size+1=gb at *
 obtain ⟨ga,hg0⟩:∃ g,g=w.heap.size:=⟨_,rfl⟩
 rw [← hg0] at Na ⊢
 rw [← hg0] at Dax
 clear hg0
 have Fa:=Lib.hid Na
 have Fb:=Lib.hid Nb
 have Fm:=Lib.hid Nm
 have Fx:=Lib.hid Nx
 have BW:=Lib.hid NB
 clear NB Na Nb Nm Nx
 refine (Hcs.out _).mono ?_
 rintro e v2 ⟨rfl,z2⟩
 have Na:=Lib.hid (Fa.out.on z2)
 have Nb:=Lib.hid (Fb.out.on z2)
 have Nm:=Lib.hid (Fm.out.on z2)
 have Nx:=Lib.hid (Fx.out.on z2)
 have NB:=Lib.hid (bel_tr BW.out z2)
 clear BW z2 Fa Fb Fm Fx
 have Fa:=Na
 have Fb:=Nb
 have Fm:=Nm
 have Fx:=Nx
 have BW:=NB
 clear NB Na Nb Nm Nx
 have Lm:=Fm.out.lt
 have cm0:=Fm.out.c0
 have cm1:=Fm.out.c1
 have cm2:=Fm.out.c2
 have cm3:=Fm.out.c3
 go_wp2_with fail
 clear Lm cm0 cm1 cm2 cm3
 have Es:w.heap.size≤v2.heap.size:=by have:=BW.out.size;omega
 have Das:ga≠v2.heap.size:=by have:=Fa.out.lt;omega
 have Dbs:gb≠v2.heap.size:=by have:=Fb.out.lt;omega
 have Dms:gm≠v2.heap.size:=by have:=Fm.out.lt;omega
 have Dxs:gx≠v2.heap.size:=by have:=Fx.out.lt;omega
 generalize hW3:(v2.alloc (.cells #[.int .u64 (wd S 0:Nat),.int .u64 (wd S 1:Nat),.int .u64 (wd S 2:Nat),.int .u64 (wd S 3:Nat)] 24))=W3 at *
 have Ns:At W3 (v2.heap.size) _ _:=at_of hW3 (At.at_ _ _ _ _ (by simp))
 have Na:=at_of hW3 (Fa.out.alloc _)
 have Nb:=at_of hW3 (Fb.out.alloc _)
 have Nm:=at_of hW3 (Fm.out.alloc _)
 have Nx:=at_of hW3 (Fx.out.alloc _)
 have NB:=gr_of hW3 (gr_alloc BW.out _)
 clear hW3 BW Fa Fb Fm Fx
 generalize v2.heap.size=gs at *
 have Fa:=Lib.hid Na
 have Fb:=Lib.hid Nb
 have Fm:=Lib.hid Nm
 have Fx:=Lib.hid Nx
 have Fs:=Lib.hid Ns
 have BW:=Lib.hid NB
 clear NB Na Nb Nm Nx Ns
 refine (Hck.out _).mono ?_
 rintro e v4 ⟨rfl,z4⟩
 have Na:=Lib.hid (Fa.out.on z4)
 have Nb:=Lib.hid (Fb.out.on z4)
 have Nm:=Lib.hid (Fm.out.on z4)
 have Nx:=Lib.hid (Fx.out.on z4)
 have Ns:=Lib.hid (Fs.out.on z4)
 have NB:=Lib.hid (bel_tr BW.out z4)
 clear BW z4 Fa Fb Fm Fx Fs
 have Fa:=Na
 have Fb:=Nb
 have Fm:=Nm
 have Fx:=Nx
 have Fs:=Ns
 have BW:=NB
 clear NB Na Nb Nm Nx Ns
 have Ls:=Fs.out.lt
 have cs0:=Fs.out.c0
 have cs1:=Fs.out.c1
 have cs2:=Fs.out.c2
 have cs3:=Fs.out.c3
 have Lm:=Fm.out.lt
 have cm0:=Fm.out.c0
 have cm1:=Fm.out.c1
 have cm2:=Fm.out.c2
 have cm3:=Fm.out.c3
 go_wp2_with fail
 clear Ls cs0 cs1 cs2 cs3 Lm cm0 cm1 cm2 cm3
 refine (Hct.out _).mono ?_
 rintro e v5 ⟨rfl,z5⟩
 have Na:=Lib.hid (Fa.out.on z5)
 have Nb:=Lib.hid (Fb.out.on z5)
 have Nm:=Lib.hid (Fm.out.on z5)
 have Nx:=Lib.hid (Fx.out.on z5)
 have Ns:=Lib.hid (Fs.out.on z5)
 have NB:=Lib.hid (bel_tr BW.out z5)
 clear BW z5 Fa Fb Fm Fx Fs
 have Fa:=Na
 have Fb:=Nb
 have Fm:=Nm
 have Fx:=Nx
 have Fs:=Ns
 have BW:=NB
 clear NB Na Nb Nm Nx Ns
 have Ls:=Fs.out.lt
 have cs0:=Fs.out.c0
 have cs1:=Fs.out.c1
 have cs2:=Fs.out.c2
 have cs3:=Fs.out.c3
 have fs0:v5.frozen? ⟨gs,0,none⟩=false:=Fs.out.frozen 0
 have fs1:v5.frozen? ⟨gs,1,none⟩=false:=Fs.out.frozen 1
 have fs2:v5.frozen? ⟨gs,2,none⟩=false:=Fs.out.frozen 2
 have fs3:v5.frozen? ⟨gs,3,none⟩=false:=Fs.out.frozen 3
 have Lx:=Fx.out.lt
 have cx0:=Fx.out.c0
 have cx1:=Fx.out.c1
 have cx2:=Fx.out.c2
 have cx3:=Fx.out.c3
 have fx0:v5.frozen? ⟨gx,0,none⟩=false:=Fx.out.frozen 0
 have fx1:v5.frozen? ⟨gx,1,none⟩=false:=Fx.out.frozen 1
 have fx2:v5.frozen? ⟨gx,2,none⟩=false:=Fx.out.frozen 2
 have fx3:v5.frozen? ⟨gx,3,none⟩=false:=Fx.out.frozen 3
 go_wp2_with fail
 clear Ls cs0 cs1 cs2 cs3 fs0 fs1 fs2 fs3 Lx cx0 cx1 cx2 cx3 fx0 fx1 fx2 fx3
 generalize hW6:((((((((v5.setCell ⟨gs,0,none⟩ (.int .u64 (wd L 0:Nat))).setCell ⟨gs,1,none⟩ (.int .u64 (wd L 1:Nat))).setCell ⟨gs,2,none⟩ (.int .u64 (wd L 2:Nat))).setCell ⟨gs,3,none⟩ (.int .u64 (wd L 3:Nat))).setCell ⟨gx,0,none⟩ (.int .u64 (wd L 0:Nat))).setCell ⟨gx,1,none⟩ (.int .u64 (wd L 1:Nat))).setCell ⟨gx,2,none⟩ (.int .u64 (wd L 2:Nat))).setCell ⟨gx,3,none⟩ (.int .u64 (wd L 3:Nat)))=W6 at *
 have Na:=at_of hW6 (((Fa.out).far4 Das _ _ _ _).far4 Dax _ _ _ _)
 have Nb:=at_of hW6 (((Fb.out).far4 Dbs _ _ _ _).far4 Dbx _ _ _ _)
 have Nm:=at_of hW6 (((Fm.out).far4 Dms _ _ _ _).far4 Dmx _ _ _ _)
 have Nx:=at_of hW6 (((Fx.out).far4 Dxs _ _ _ _).put4 _ _ _ _)
 have Ns:=at_of hW6 (((Fs.out).put4 _ _ _ _).far4 Dxs.symm _ _ _ _)
 have NB:=gr_of hW6 (((((((((BW.out).setCell Es _).setCell Es _).setCell Es _).setCell Es _).setCell Ex _).setCell Ex _).setCell Ex _).setCell Ex _)
 clear hW6 BW Fa Fb Fm Fx Fs
 have Fa:=Lib.hid Na
 have Fb:=Lib.hid Nb
 have Fm:=Lib.hid Nm
 have Fx:=Lib.hid Nx
 have Fs:=Lib.hid Ns
 have BW:=Lib.hid NB
 clear NB Na Nb Nm Nx Ns
 have Lx:=Fx.out.lt
 have cx0:=Fx.out.c0
 have cx1:=Fx.out.c1
 have cx2:=Fx.out.c2
 have cx3:=Fx.out.c3
 refine bodyPost_ret (v:=.tuple #[num L,.int .i64 0]) (by simp [results,Tryd.results46,go_sem, *]) rfl ⟨rfl,BW.out⟩

set_option maxRecDepth 100000 in
set_option maxHeartbeats 8000000 in
theorem sum_lt (A B M S:Nat)
  (cs:∀ w,Calls Tryd.prog 59 #[num A,num B] w fun e w'=>e=.returned (.tuple #[num S,.int .u64 0])∧Below w.heap.size w w')
  (ck:∀ w,Calls Tryd.prog 12 #[num S,num M] w fun e w'=>e=.returned (.int .i64 (-1))∧Below w.heap.size w w')
  (w:World):Calls Tryd.prog 46 #[num A,num B,num M] w fun e w'=>e=.returned (.tuple #[num S,.int .i64 0])∧Below w.heap.size w w':=by
 have Hcs:=Lib.hid cs
 have Hck:=Lib.hid ck
 clear cs ck
 go_enter Tryd.func46,Tryd.ntmps46
 go_wp2_with fail
 have BW:=Lib.hid (Below.refl w.heap.size w)
 have Ex:w.heap.size≤w.heap.size+1+1+1:=by have:=BW.out.size;omega
 have Dax:w.heap.size≠w.heap.size+1+1+1:=by omega
 have Dbx:w.heap.size+1≠w.heap.size+1+1+1:=by omega
 have Dmx:w.heap.size+1+1≠w.heap.size+1+1+1:=by omega
 generalize hW1:((((w.alloc (.cells #[.int .u64 (wd A 0:Nat),.int .u64 (wd A 1:Nat),.int .u64 (wd A 2:Nat),.int .u64 (wd A 3:Nat)] 24)).alloc (.cells #[.int .u64 (wd B 0:Nat),.int .u64 (wd B 1:Nat),.int .u64 (wd B 2:Nat),.int .u64 (wd B 3:Nat)] 24)).alloc (.cells #[.int .u64 (wd M 0:Nat),.int .u64 (wd M 1:Nat),.int .u64 (wd M 2:Nat),.int .u64 (wd M 3:Nat)] 24)).alloc (.cells #[.int .u64 0,.int .u64 0,.int .u64 0,.int .u64 0] 24))=W1 at *
 have Na:At W1 (w.heap.size) _ _:=at_of hW1 ((((At.at_ _ _ _ _ (by simp)).alloc _).alloc _).alloc _)
 have Nb:At W1 (w.heap.size+1) _ _:=at_of hW1 (((At.at_ _ _ _ _ (by simp)).alloc _).alloc _)
 have Nm:At W1 (w.heap.size+1+1) _ _:=at_of hW1 ((At.at_ _ _ _ _ (by simp)).alloc _)
 have Nx:At W1 (w.heap.size+1+1+1) _ _:=at_of hW1 (At.at_ _ _ _ _ (by simp))
 have NB:=gr_of hW1 (gr_alloc (gr_alloc (gr_alloc (gr_alloc BW.out _) _) _) _)
 clear hW1 BW 
 generalize w.heap.size+1+1+1=gx at *
 generalize w.heap.size+1+1=gm at *
 generalize w.heap.size+1=gb at *
 obtain ⟨ga,hg0⟩:∃ g,g=w.heap.size:=⟨_,rfl⟩
 rw [← hg0] at Na ⊢
 rw [← hg0] at Dax
 clear hg0
 have Fa:=Lib.hid Na
 have Fb:=Lib.hid Nb
 have Fm:=Lib.hid Nm
 have Fx:=Lib.hid Nx
 have BW:=Lib.hid NB
 clear NB Na Nb Nm Nx
 refine (Hcs.out _).mono ?_
 rintro e v2 ⟨rfl,z2⟩
 have Na:=Lib.hid (Fa.out.on z2)
 have Nb:=Lib.hid (Fb.out.on z2)
 have Nm:=Lib.hid (Fm.out.on z2)
 have Nx:=Lib.hid (Fx.out.on z2)
 have NB:=Lib.hid (bel_tr BW.out z2)
 clear BW z2 Fa Fb Fm Fx
 have Fa:=Na
 have Fb:=Nb
 have Fm:=Nm
 have Fx:=Nx
 have BW:=NB
 clear NB Na Nb Nm Nx
 have Lm:=Fm.out.lt
 have cm0:=Fm.out.c0
 have cm1:=Fm.out.c1
 have cm2:=Fm.out.c2
 have cm3:=Fm.out.c3
 go_wp2_with fail
 clear Lm cm0 cm1 cm2 cm3
 have Es:w.heap.size≤v2.heap.size:=by have:=BW.out.size;omega
 have Das:ga≠v2.heap.size:=by have:=Fa.out.lt;omega
 have Dbs:gb≠v2.heap.size:=by have:=Fb.out.lt;omega
 have Dms:gm≠v2.heap.size:=by have:=Fm.out.lt;omega
 have Dxs:gx≠v2.heap.size:=by have:=Fx.out.lt;omega
 generalize hW3:(v2.alloc (.cells #[.int .u64 (wd S 0:Nat),.int .u64 (wd S 1:Nat),.int .u64 (wd S 2:Nat),.int .u64 (wd S 3:Nat)] 24))=W3 at *
 have Ns:At W3 (v2.heap.size) _ _:=at_of hW3 (At.at_ _ _ _ _ (by simp))
 have Na:=at_of hW3 (Fa.out.alloc _)
 have Nb:=at_of hW3 (Fb.out.alloc _)
 have Nm:=at_of hW3 (Fm.out.alloc _)
 have Nx:=at_of hW3 (Fx.out.alloc _)
 have NB:=gr_of hW3 (gr_alloc BW.out _)
 clear hW3 BW Fa Fb Fm Fx
 generalize v2.heap.size=gs at *
 have Fa:=Lib.hid Na
 have Fb:=Lib.hid Nb
 have Fm:=Lib.hid Nm
 have Fx:=Lib.hid Nx
 have Fs:=Lib.hid Ns
 have BW:=Lib.hid NB
 clear NB Na Nb Nm Nx Ns
 refine (Hck.out _).mono ?_
 rintro e v4 ⟨rfl,z4⟩
 have Na:=Lib.hid (Fa.out.on z4)
 have Nb:=Lib.hid (Fb.out.on z4)
 have Nm:=Lib.hid (Fm.out.on z4)
 have Nx:=Lib.hid (Fx.out.on z4)
 have Ns:=Lib.hid (Fs.out.on z4)
 have NB:=Lib.hid (bel_tr BW.out z4)
 clear BW z4 Fa Fb Fm Fx Fs
 have Fa:=Na
 have Fb:=Nb
 have Fm:=Nm
 have Fx:=Nx
 have Fs:=Ns
 have BW:=NB
 clear NB Na Nb Nm Nx Ns
 have Ls:=Fs.out.lt
 have cs0:=Fs.out.c0
 have cs1:=Fs.out.c1
 have cs2:=Fs.out.c2
 have cs3:=Fs.out.c3
 have Lx:=Fx.out.lt
 have cx0:=Fx.out.c0
 have cx1:=Fx.out.c1
 have cx2:=Fx.out.c2
 have cx3:=Fx.out.c3
 have fx0:v4.frozen? ⟨gx,0,none⟩=false:=Fx.out.frozen 0
 have fx1:v4.frozen? ⟨gx,1,none⟩=false:=Fx.out.frozen 1
 have fx2:v4.frozen? ⟨gx,2,none⟩=false:=Fx.out.frozen 2
 have fx3:v4.frozen? ⟨gx,3,none⟩=false:=Fx.out.frozen 3
 go_wp2_with fail
 clear Ls cs0 cs1 cs2 cs3 Lx cx0 cx1 cx2 cx3 fx0 fx1 fx2 fx3
 generalize hW5:((((v4.setCell ⟨gx,0,none⟩ (.int .u64 (wd S 0:Nat))).setCell ⟨gx,1,none⟩ (.int .u64 (wd S 1:Nat))).setCell ⟨gx,2,none⟩ (.int .u64 (wd S 2:Nat))).setCell ⟨gx,3,none⟩ (.int .u64 (wd S 3:Nat)))=W5 at *
 have Na:=at_of hW5 ((Fa.out).far4 Dax _ _ _ _)
 have Nb:=at_of hW5 ((Fb.out).far4 Dbx _ _ _ _)
 have Nm:=at_of hW5 ((Fm.out).far4 Dmx _ _ _ _)
 have Nx:=at_of hW5 ((Fx.out).put4 _ _ _ _)
 have Ns:=at_of hW5 ((Fs.out).far4 Dxs.symm _ _ _ _)
 have NB:=gr_of hW5 (((((BW.out).setCell Ex _).setCell Ex _).setCell Ex _).setCell Ex _)
 clear hW5 BW Fa Fb Fm Fx Fs
 have Fa:=Lib.hid Na
 have Fb:=Lib.hid Nb
 have Fm:=Lib.hid Nm
 have Fx:=Lib.hid Nx
 have Fs:=Lib.hid Ns
 have BW:=Lib.hid NB
 clear NB Na Nb Nm Nx Ns
 have Lx:=Fx.out.lt
 have cx0:=Fx.out.c0
 have cx1:=Fx.out.c1
 have cx2:=Fx.out.c2
 have cx3:=Fx.out.c3
 refine bodyPost_ret (v:=.tuple #[num S,.int .i64 0]) (by simp [results,Tryd.results46,go_sem, *]) rfl ⟨rfl,BW.out⟩

/-- mods.sum: of numbers below M -/
theorem sum_any (A B M:Nat) (hA:A<M) (hB:B<M) (hM:M<2^256) :
  ∀ w,Calls Tryd.prog 46 #[num A,num B,num M] w fun e w'=>e=.returned (.tuple #[num ((A+B)%M),.int .i64 0])∧Below w.heap.size w w':=by
 obtain ⟨S,c,hS,hc,he,C⟩:=add_ex A B (by omega) (by omega)
 have h01:c=0∨c=1:=by omega
 rcases h01 with rfl | rfl
 ·have K:=cmp_any S M hS hM
  obtain ⟨L,d,hL,hd,he2,C2⟩:=sub_ex S M hS hM
  rcases Nat.lt_trichotomy S M with h | h | h
  ·rw [cmpN_lt h] at K
   rw [show (A+B)%M=S by rw [show A+B=S by omega,Nat.mod_eq_of_lt h]]
   exact fun w=>sum_lt A B M S C K w
  ·subst h
   rw [cmpN_eq] at K
   rw [show (A+B)%S=L by rw [show A+B=S by omega,Nat.mod_self];omega]
   exact fun w=>sum_eq A B S S L d C K C2 w
  ·rw [cmpN_gt h] at K
   rw [show (A+B)%M=L by rw [show A+B=L+M by omega,Nat.add_mod_right,Nat.mod_eq_of_lt (by omega)]]
   exact fun w=>sum_gt A B M S L d C K C2 w
 ·obtain ⟨L,d,hL,hd,he2,C2⟩:=sub_ex S M hS hM
  rw [show (A+B)%M=L by rw [show A+B=L+M by omega,Nat.add_mod_right,Nat.mod_eq_of_lt (by omega)]]
  exact fun w=>sum_over A B M S L d C C2 w

end Go.Proofs.YtlphnfajhpkleaaDoor
