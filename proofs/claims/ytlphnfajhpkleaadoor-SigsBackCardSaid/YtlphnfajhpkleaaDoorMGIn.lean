/-
 groups: what is answered,walked.
-/
import Derived.Deep.Cut
import Derived.Test.YtlphnfajhpkleaaDoorMGInvT
import Derived.Test.YtlphnfajhpkleaaDoorMSmall
namespace Go.Proofs.YtlphnfajhpkleaaDoor
set_option maxRecDepth 100000
open Go.RowKit
set_option linter.unusedSimpArgs false
set_option linter.unusedVariables false
attribute [local go_sem ↓] Go.wp_at_zero Go.wp_at_succ

set_option maxRecDepth 100000 in
set_option maxHeartbeats 8000000 in
theorem gexp_bad (P Q G H A B:Nat)
  (c1:∀ w,Calls Tryd.prog 20 #[grp P Q G H,num A] w fun e w'=>e=.returned (.bool false)∧Below w.heap.size w w')
  (w:World):Calls Tryd.prog 9 #[grp P Q G H,num A,num B] w fun e w'=>e=.returned (.tuple #[num 0,.int .i64 1])∧Below w.heap.size w w':=by
 have Hc1:=Lib.hid c1
 clear c1
 go_enter Tryd.func9,Tryd.ntmps9
 go_wp2_with fail
 have BW:=Lib.hid (Below.refl w.heap.size w)
 have Eo:w.heap.size≤w.heap.size+1+1+1:=by have:=BW.out.size;omega
 have Dro:w.heap.size≠w.heap.size+1+1+1:=by omega
 have Dao:w.heap.size+1≠w.heap.size+1+1+1:=by omega
 have Dbo:w.heap.size+1+1≠w.heap.size+1+1+1:=by omega
 generalize hW1:((((w.alloc (.cells #[.int .u64 (wd P 0:Nat),.int .u64 (wd P 1:Nat),.int .u64 (wd P 2:Nat),.int .u64 (wd P 3:Nat),.int .u64 (wd Q 0:Nat),.int .u64 (wd Q 1:Nat),.int .u64 (wd Q 2:Nat),.int .u64 (wd Q 3:Nat),.int .u64 (wd G 0:Nat),.int .u64 (wd G 1:Nat),.int .u64 (wd G 2:Nat),.int .u64 (wd G 3:Nat),.int .u64 (wd H 0:Nat),.int .u64 (wd H 1:Nat),.int .u64 (wd H 2:Nat),.int .u64 (wd H 3:Nat)] 26)).alloc (.cells #[.int .u64 (wd A 0:Nat),.int .u64 (wd A 1:Nat),.int .u64 (wd A 2:Nat),.int .u64 (wd A 3:Nat)] 24)).alloc (.cells #[.int .u64 (wd B 0:Nat),.int .u64 (wd B 1:Nat),.int .u64 (wd B 2:Nat),.int .u64 (wd B 3:Nat)] 24)).alloc (.cells #[.int .u64 0,.int .u64 0,.int .u64 0,.int .u64 0] 24))=W1 at *
 have Nr:At W1 (w.heap.size) _ _:=at_of hW1 ((((At.at_ _ _ _ _ (by simp)).alloc _).alloc _).alloc _)
 have Na:At W1 (w.heap.size+1) _ _:=at_of hW1 (((At.at_ _ _ _ _ (by simp)).alloc _).alloc _)
 have Nb:At W1 (w.heap.size+1+1) _ _:=at_of hW1 ((At.at_ _ _ _ _ (by simp)).alloc _)
 have No:At W1 (w.heap.size+1+1+1) _ _:=at_of hW1 (At.at_ _ _ _ _ (by simp))
 have NB:=gr_of hW1 (gr_alloc (gr_alloc (gr_alloc (gr_alloc BW.out _) _) _) _)
 clear hW1 BW 
 generalize w.heap.size+1+1+1=go at *
 generalize w.heap.size+1+1=gb at *
 generalize w.heap.size+1=ga at *
 obtain ⟨gr,hg0⟩:∃ g,g=w.heap.size:=⟨_,rfl⟩
 rw [← hg0] at Nr ⊢
 rw [← hg0] at Dro
 clear hg0
 have Fr:=Lib.hid Nr
 have Fa:=Lib.hid Na
 have Fb:=Lib.hid Nb
 have Fo:=Lib.hid No
 have BW:=Lib.hid NB
 clear NB Nr Na Nb No
 refine (Hc1.out _).mono ?_
 rintro e v2 ⟨rfl,z2⟩
 have Nr:=Lib.hid (Fr.out.on z2)
 have Na:=Lib.hid (Fa.out.on z2)
 have Nb:=Lib.hid (Fb.out.on z2)
 have No:=Lib.hid (Fo.out.on z2)
 have NB:=Lib.hid (bel_tr BW.out z2)
 clear BW z2 Fr Fa Fb Fo
 have Fr:=Nr
 have Fa:=Na
 have Fb:=Nb
 have Fo:=No
 have BW:=NB
 clear NB Nr Na Nb No
 have Lo:=Fo.out.lt
 have co0:=Fo.out.c0
 have co1:=Fo.out.c1
 have co2:=Fo.out.c2
 have co3:=Fo.out.c3
 have fo0:v2.frozen? ⟨go,0,none⟩=false:=Fo.out.frozen 0
 have fo1:v2.frozen? ⟨go,1,none⟩=false:=Fo.out.frozen 1
 have fo2:v2.frozen? ⟨go,2,none⟩=false:=Fo.out.frozen 2
 have fo3:v2.frozen? ⟨go,3,none⟩=false:=Fo.out.frozen 3
 go_wp2_with fail
 clear Lo co0 co1 co2 co3 fo0 fo1 fo2 fo3
 generalize hW3:((((v2.setCell ⟨go,0,none⟩ (.int .u64 0)).setCell ⟨go,1,none⟩ (.int .u64 0)).setCell ⟨go,2,none⟩ (.int .u64 0)).setCell ⟨go,3,none⟩ (.int .u64 0))=W3 at *
 have Nr:=at_of hW3 ((Fr.out).far4 Dro _ _ _ _)
 have Na:=at_of hW3 ((Fa.out).far4 Dao _ _ _ _)
 have Nb:=at_of hW3 ((Fb.out).far4 Dbo _ _ _ _)
 have No:=at_of hW3 ((Fo.out).put4 _ _ _ _)
 have NB:=gr_of hW3 (((((BW.out).setCell Eo _).setCell Eo _).setCell Eo _).setCell Eo _)
 clear hW3 BW Fr Fa Fb Fo
 have Fr:=Lib.hid Nr
 have Fa:=Lib.hid Na
 have Fb:=Lib.hid Nb
 have Fo:=Lib.hid No
 have BW:=Lib.hid NB
 clear NB Nr Na Nb No
 have Lo:=Fo.out.lt
 have co0:=Fo.out.c0
 have co1:=Fo.out.c1
 have co2:=Fo.out.c2
 have co3:=Fo.out.c3
 refine bodyPost_ret (v:=.tuple #[.agg #[.int .u64 0,.int .u64 0,.int .u64 0,.int .u64 0],.int .i64 1]) (by simp [results,Tryd.results9,go_sem, *]) rfl ⟨rfl,BW.out⟩

set_option maxRecDepth 100000 in
set_option maxHeartbeats 8000000 in
theorem gexp_good (P Q G H A B V:Nat) (er:Int)
  (c1:∀ w,Calls Tryd.prog 20 #[grp P Q G H,num A] w fun e w'=>e=.returned (.bool true)∧Below w.heap.size w w')
  (c3:∀ w,Calls Tryd.prog 21 #[num A,num B,num P] w fun e w'=>e=.returned (.tuple #[num V,.int .i64 er])∧Below w.heap.size w w')
  (w:World):Calls Tryd.prog 9 #[grp P Q G H,num A,num B] w fun e w'=>e=.returned (.tuple #[num V,.int .i64 er])∧Below w.heap.size w w':=by
 have Hc1:=Lib.hid c1
 have Hc3:=Lib.hid c3
 clear c1 c3
 go_enter Tryd.func9,Tryd.ntmps9
 go_wp2_with fail
 have BW:=Lib.hid (Below.refl w.heap.size w)
 have Eo:w.heap.size≤w.heap.size+1+1+1:=by have:=BW.out.size;omega
 have Dro:w.heap.size≠w.heap.size+1+1+1:=by omega
 have Dao:w.heap.size+1≠w.heap.size+1+1+1:=by omega
 have Dbo:w.heap.size+1+1≠w.heap.size+1+1+1:=by omega
 generalize hW1:((((w.alloc (.cells #[.int .u64 (wd P 0:Nat),.int .u64 (wd P 1:Nat),.int .u64 (wd P 2:Nat),.int .u64 (wd P 3:Nat),.int .u64 (wd Q 0:Nat),.int .u64 (wd Q 1:Nat),.int .u64 (wd Q 2:Nat),.int .u64 (wd Q 3:Nat),.int .u64 (wd G 0:Nat),.int .u64 (wd G 1:Nat),.int .u64 (wd G 2:Nat),.int .u64 (wd G 3:Nat),.int .u64 (wd H 0:Nat),.int .u64 (wd H 1:Nat),.int .u64 (wd H 2:Nat),.int .u64 (wd H 3:Nat)] 26)).alloc (.cells #[.int .u64 (wd A 0:Nat),.int .u64 (wd A 1:Nat),.int .u64 (wd A 2:Nat),.int .u64 (wd A 3:Nat)] 24)).alloc (.cells #[.int .u64 (wd B 0:Nat),.int .u64 (wd B 1:Nat),.int .u64 (wd B 2:Nat),.int .u64 (wd B 3:Nat)] 24)).alloc (.cells #[.int .u64 0,.int .u64 0,.int .u64 0,.int .u64 0] 24))=W1 at *
 have Nr:At W1 (w.heap.size) _ _:=at_of hW1 ((((At.at_ _ _ _ _ (by simp)).alloc _).alloc _).alloc _)
 have Na:At W1 (w.heap.size+1) _ _:=at_of hW1 (((At.at_ _ _ _ _ (by simp)).alloc _).alloc _)
 have Nb:At W1 (w.heap.size+1+1) _ _:=at_of hW1 ((At.at_ _ _ _ _ (by simp)).alloc _)
 have No:At W1 (w.heap.size+1+1+1) _ _:=at_of hW1 (At.at_ _ _ _ _ (by simp))
 have NB:=gr_of hW1 (gr_alloc (gr_alloc (gr_alloc (gr_alloc BW.out _) _) _) _)
 clear hW1 BW 
 generalize w.heap.size+1+1+1=go at *
 generalize w.heap.size+1+1=gb at *
 generalize w.heap.size+1=ga at *
 obtain ⟨gr,hg0⟩:∃ g,g=w.heap.size:=⟨_,rfl⟩
 rw [← hg0] at Nr ⊢
 rw [← hg0] at Dro
 clear hg0
 have Fr:=Lib.hid Nr
 have Fa:=Lib.hid Na
 have Fb:=Lib.hid Nb
 have Fo:=Lib.hid No
 have BW:=Lib.hid NB
 clear NB Nr Na Nb No
 refine (Hc1.out _).mono ?_
 rintro e v2 ⟨rfl,z2⟩
 have Nr:=Lib.hid (Fr.out.on z2)
 have Na:=Lib.hid (Fa.out.on z2)
 have Nb:=Lib.hid (Fb.out.on z2)
 have No:=Lib.hid (Fo.out.on z2)
 have NB:=Lib.hid (bel_tr BW.out z2)
 clear BW z2 Fr Fa Fb Fo
 have Fr:=Nr
 have Fa:=Na
 have Fb:=Nb
 have Fo:=No
 have BW:=NB
 clear NB Nr Na Nb No
 have La:=Fa.out.lt
 have ca0:=Fa.out.c0
 have ca1:=Fa.out.c1
 have ca2:=Fa.out.c2
 have ca3:=Fa.out.c3
 have Lb:=Fb.out.lt
 have cb0:=Fb.out.c0
 have cb1:=Fb.out.c1
 have cb2:=Fb.out.c2
 have cb3:=Fb.out.c3
 have Lr:=Fr.out.lt
 have cr0:v2.cell? ⟨gr,0,none⟩=some (.int .u64 (wd P 0:Nat)):=Fr.out.cell 0
 have cr1:v2.cell? ⟨gr,1,none⟩=some (.int .u64 (wd P 1:Nat)):=Fr.out.cell 1
 have cr2:v2.cell? ⟨gr,2,none⟩=some (.int .u64 (wd P 2:Nat)):=Fr.out.cell 2
 have cr3:v2.cell? ⟨gr,3,none⟩=some (.int .u64 (wd P 3:Nat)):=Fr.out.cell 3
 have cr4:v2.cell? ⟨gr,4,none⟩=some (.int .u64 (wd Q 0:Nat)):=Fr.out.cell 4
 have cr5:v2.cell? ⟨gr,5,none⟩=some (.int .u64 (wd Q 1:Nat)):=Fr.out.cell 5
 have cr6:v2.cell? ⟨gr,6,none⟩=some (.int .u64 (wd Q 2:Nat)):=Fr.out.cell 6
 have cr7:v2.cell? ⟨gr,7,none⟩=some (.int .u64 (wd Q 3:Nat)):=Fr.out.cell 7
 have cr8:v2.cell? ⟨gr,8,none⟩=some (.int .u64 (wd G 0:Nat)):=Fr.out.cell 8
 have cr9:v2.cell? ⟨gr,9,none⟩=some (.int .u64 (wd G 1:Nat)):=Fr.out.cell 9
 have cr10:v2.cell? ⟨gr,10,none⟩=some (.int .u64 (wd G 2:Nat)):=Fr.out.cell 10
 have cr11:v2.cell? ⟨gr,11,none⟩=some (.int .u64 (wd G 3:Nat)):=Fr.out.cell 11
 have cr12:v2.cell? ⟨gr,12,none⟩=some (.int .u64 (wd H 0:Nat)):=Fr.out.cell 12
 have cr13:v2.cell? ⟨gr,13,none⟩=some (.int .u64 (wd H 1:Nat)):=Fr.out.cell 13
 have cr14:v2.cell? ⟨gr,14,none⟩=some (.int .u64 (wd H 2:Nat)):=Fr.out.cell 14
 have cr15:v2.cell? ⟨gr,15,none⟩=some (.int .u64 (wd H 3:Nat)):=Fr.out.cell 15
 go_wp2_with fail
 clear La ca0 ca1 ca2 ca3 Lb cb0 cb1 cb2 cb3 Lr cr0 cr1 cr2 cr3 cr4 cr5 cr6 cr7 cr8 cr9 cr10 cr11 cr12 cr13 cr14 cr15
 refine (Hc3.out _).mono ?_
 rintro e v3 ⟨rfl,z3⟩
 have Nr:=Lib.hid (Fr.out.on z3)
 have Na:=Lib.hid (Fa.out.on z3)
 have Nb:=Lib.hid (Fb.out.on z3)
 have No:=Lib.hid (Fo.out.on z3)
 have NB:=Lib.hid (bel_tr BW.out z3)
 clear BW z3 Fr Fa Fb Fo
 have Fr:=Nr
 have Fa:=Na
 have Fb:=Nb
 have Fo:=No
 have BW:=NB
 clear NB Nr Na Nb No
 have Lo:=Fo.out.lt
 have co0:=Fo.out.c0
 have co1:=Fo.out.c1
 have co2:=Fo.out.c2
 have co3:=Fo.out.c3
 have fo0:v3.frozen? ⟨go,0,none⟩=false:=Fo.out.frozen 0
 have fo1:v3.frozen? ⟨go,1,none⟩=false:=Fo.out.frozen 1
 have fo2:v3.frozen? ⟨go,2,none⟩=false:=Fo.out.frozen 2
 have fo3:v3.frozen? ⟨go,3,none⟩=false:=Fo.out.frozen 3
 go_wp2_with fail
 clear Lo co0 co1 co2 co3 fo0 fo1 fo2 fo3
 generalize hW4:((((v3.setCell ⟨go,0,none⟩ (.int .u64 (wd V 0:Nat))).setCell ⟨go,1,none⟩ (.int .u64 (wd V 1:Nat))).setCell ⟨go,2,none⟩ (.int .u64 (wd V 2:Nat))).setCell ⟨go,3,none⟩ (.int .u64 (wd V 3:Nat)))=W4 at *
 have Nr:=at_of hW4 ((Fr.out).far4 Dro _ _ _ _)
 have Na:=at_of hW4 ((Fa.out).far4 Dao _ _ _ _)
 have Nb:=at_of hW4 ((Fb.out).far4 Dbo _ _ _ _)
 have No:=at_of hW4 ((Fo.out).put4 _ _ _ _)
 have NB:=gr_of hW4 (((((BW.out).setCell Eo _).setCell Eo _).setCell Eo _).setCell Eo _)
 clear hW4 BW Fr Fa Fb Fo
 have Fr:=Lib.hid Nr
 have Fa:=Lib.hid Na
 have Fb:=Lib.hid Nb
 have Fo:=Lib.hid No
 have BW:=Lib.hid NB
 clear NB Nr Na Nb No
 have Lo:=Fo.out.lt
 have co0:=Fo.out.c0
 have co1:=Fo.out.c1
 have co2:=Fo.out.c2
 have co3:=Fo.out.c3
 refine bodyPost_ret (v:=.tuple #[num V,.int .i64 er]) (by simp [results,Tryd.results9,go_sem, *]) rfl ⟨rfl,BW.out⟩

end Go.Proofs.YtlphnfajhpkleaaDoor

/-
 groups: Mul,Inv,Exp by what they answer;In.
-/
namespace Go.Proofs.YtlphnfajhpkleaaDoor
set_option maxRecDepth 100000
open Go.RowKit
set_option linter.unusedSimpArgs false
set_option linter.unusedVariables false
attribute [local go_sem ↓] Go.wp_at_zero Go.wp_at_succ

theorem gexp_yes (P Q G H A N:Nat) (hP:P<2^256) (hA:A<2^256) (hN:N<2^256) (hm:mayB P A=true):∀ w,Calls Tryd.prog 9 #[grp P Q G H,num A,num N] w fun e w'=>e=.returned (.tuple #[num (A^N%P),.int .i64 0])∧Below w.heap.size w w':=fun w=>by
 obtain ⟨h0,h1⟩:=mayB_iff.mp hm
 exact gexp_good P Q G H A N _ _ (fun w=>hm ▸ gmay_any P Q G H A hP hA w) (fun w=>mexp_yes A N P hP hN (by omega) h1 w) w
theorem gexp_no (P Q G H A N:Nat) (hP:P<2^256) (hA:A<2^256) (hm:mayB P A=false):∀ w,Calls Tryd.prog 9 #[grp P Q G H,num A,num N] w fun e w'=>e=.returned (.tuple #[num 0,.int .i64 1])∧Below w.heap.size w w':=fun w=>
 gexp_bad P Q G H A N (fun w=>hm ▸ gmay_any P Q G H A hP hA w) w
/-- is a number of the group? -/
def inB (P Q A:Nat):Bool:=mayB P A && decide (A^Q%P=1)
theorem inB_iff {P Q A:Nat}:inB P Q A=true ↔ (A≠0∧A<P)∧A^Q%P=1:=by simp [inB,mayB]
set_option maxRecDepth 100000 in
set_option maxHeartbeats 8000000 in
theorem gin_no (P Q G H A X:Nat)
  (c1:∀ w,Calls Tryd.prog 9 #[grp P Q G H,num A,num Q] w fun e w'=>e=.returned (.tuple #[num X,.int .i64 1])∧Below w.heap.size w w')
  (w:World):Calls Tryd.prog 16 #[grp P Q G H,num A] w fun e w'=>e=.returned (.bool false)∧Below w.heap.size w w':=by
 have Hc1:=Lib.hid c1
 clear c1
 go_enter Tryd.func16,Tryd.ntmps16
 go_wp2_with fail
 have BW:=Lib.hid (Below.refl w.heap.size w)
 generalize hW1:((w.alloc (.cells #[.int .u64 (wd P 0:Nat),.int .u64 (wd P 1:Nat),.int .u64 (wd P 2:Nat),.int .u64 (wd P 3:Nat),.int .u64 (wd Q 0:Nat),.int .u64 (wd Q 1:Nat),.int .u64 (wd Q 2:Nat),.int .u64 (wd Q 3:Nat),.int .u64 (wd G 0:Nat),.int .u64 (wd G 1:Nat),.int .u64 (wd G 2:Nat),.int .u64 (wd G 3:Nat),.int .u64 (wd H 0:Nat),.int .u64 (wd H 1:Nat),.int .u64 (wd H 2:Nat),.int .u64 (wd H 3:Nat)] 26)).alloc (.cells #[.int .u64 (wd A 0:Nat),.int .u64 (wd A 1:Nat),.int .u64 (wd A 2:Nat),.int .u64 (wd A 3:Nat)] 24))=W1 at *
 have Nr:At W1 (w.heap.size) _ _:=at_of hW1 ((At.at_ _ _ _ _ (by simp)).alloc _)
 have Na:At W1 (w.heap.size+1) _ _:=at_of hW1 (At.at_ _ _ _ _ (by simp))
 have NB:=gr_of hW1 (gr_alloc (gr_alloc BW.out _) _)
 clear hW1 BW 
 generalize w.heap.size+1=ga at *
 obtain ⟨gr,hg0⟩:∃ g,g=w.heap.size:=⟨_,rfl⟩
 rw [← hg0] at Nr ⊢
 clear hg0
 have Fr:=Lib.hid Nr
 have Fa:=Lib.hid Na
 have BW:=Lib.hid NB
 clear NB Nr Na
 refine (Hc1.out _).mono ?_
 rintro e v2 ⟨rfl,z2⟩
 have Nr:=Lib.hid (Fr.out.on z2)
 have Na:=Lib.hid (Fa.out.on z2)
 have NB:=Lib.hid (bel_tr BW.out z2)
 clear BW z2 Fr Fa
 have Fr:=Nr
 have Fa:=Na
 have BW:=NB
 clear NB Nr Na
 go_upto_region 2 with fail
 generalize hW3:(v2.alloc (.cells #[.int .u64 (wd X 0:Nat),.int .u64 (wd X 1:Nat),.int .u64 (wd X 2:Nat),.int .u64 (wd X 3:Nat)] 24))=W3 at *
 have Nx:At W3 (v2.heap.size) _ _:=at_of hW3 (At.at_ _ _ _ _ (by simp))
 have Nr:=at_of hW3 (Fr.out.alloc _)
 have Na:=at_of hW3 (Fa.out.alloc _)
 have NB:=gr_of hW3 (gr_alloc BW.out _)
 clear hW3 BW Fr Fa
 generalize v2.heap.size=gx at *
 have Fr:=Lib.hid Nr
 have Fa:=Lib.hid Na
 have Fx:=Lib.hid Nx
 have BW:=Lib.hid NB
 clear NB Nr Na Nx
 try simp only [List.append_eq,List.cons_append,List.nil_append]
 refine wp_region_noPanic ?_
 refine wp_region_held_drew (S:=fun w'=>At w' gx 24 #[.int .u64 (wd X 0:Nat),.int .u64 (wd X 1:Nat),.int .u64 (wd X 2:Nat),.int .u64 (wd X 3:Nat)]) (by kernel_rfl) (Fx.out.drew) (fun _=>?_)
 refine wpAnyH_cores (fuel:=1) (⟨0,15,[],Kind.val (.int .i64 1),true⟩::⟨1,16,[0],Kind.val (.bool false),true⟩::⟨2,17,[1],Kind.val (.bool false),true⟩::⟨3,18,[2],Kind.val (undef),true⟩::⟨4,19,[2,3],Kind.val (undef),true⟩::⟨5,20,[2,3,4],Kind.val (undef),true⟩::⟨6,21,[2,5],Kind.val (.bool false),true⟩::[]) _ _ W3 _ ?_ ?_ ?_ ?_ ?_ ?_ ?_ ?_ ?_ ?_ ?_
 ·rfl
 ·kernel_rfl
 ·exact of_decide_eq_true (by kernel_rfl)
 ·(repeat refine all_cons ⟨_,by rfl,by rfl⟩ ?_);exact all_nil
 ·exact fun _ hb=>Fx.out.on hb
 ·exact (Below.refl _ _).drew
 ·kernel_rfl
 ·exact fun _ _ _ _ _ h=>h
 ·(repeat (refine all_cons ?_ ?_;rotate_left));exact all_nil
  ·exact coreG_move _ _ _ _ _ _ _ (by rfl) (by rfl) (wants_none) (ko 6)
  ·exact coreG_bin _ _ _ _ _ _ _ _ _ _ _ _ _ (by rfl) (by rfl) (wants_none) (kc 0 15) (known_const _) ((fun ρ w hx hy=>by simp only [execOp,hx,hy];simp [go_sem]))
  ·exact coreG_move _ _ _ _ _ _ _ (by rfl) (by rfl) (wants_none) (kc 1 16)
  ·exact coreG_skip _ _ _ _ _ _ (by rfl) (by rfl) (wc 2 17 2 (kc 2 17))
  ·exact coreG_skip _ _ _ _ _ _ (by rfl) (by rfl) (wc 2 17 2 (kc 2 17))
  ·exact coreG_skip _ _ _ _ _ _ (by rfl) (by rfl) (wc 2 17 2 (kc 2 17))
  ·exact coreG_pick _ _ _ _ _ _ _ _ _ _ _ _ (by rfl) (by rfl) (wants_none) (kc 2 17) (kc 5 20) (known_const _) (by rfl)
 ·(repeat (refine all_cons ?_ ?_;rotate_left));exact all_nil
  ·exact sA
  ·exact sA
  ·exact sA
  ·exact sA
  ·exact sA
  ·exact sA
  ·exact sA
 intro vs y4 hc
 have BZ:=bel_tr BW.out hc.bel
 refine assign_one (i:=7) (.tmp 21) 4 _ _ _ (.bool false) (by kernel_rfl) (by rfl) (hc.at_ (of_decide_eq_true (by kernel_rfl)) (by rfl) 6 21 _ (.bool false) (by rfl) (by rfl) (by rfl)) (Fx.out.on hc.bel) ?_
 refine wpAnyH_done (by kernel_rfl) ?_ _
 refine NoPanic.normal ?_
 generalize hA:Act.put (over _ _ vs) (some 4) (.bool false)=A
 have hA0:A.tmps.getD 4 undef=.bool false:=by rw [← hA];exact put_at _ _ _ (by rw [over_size];exact Nat.le_of_ble_eq_true rfl)
 have hAd:A.defers=[]:=by rw [← hA,put_defers,over_defers]
 clear hA hc
 go_wp2_with fail
 refine bodyPost_ret (v:=.bool false) (by simp [results,Tryd.results16,go_sem] at hA0 ⊢;simp [hA0]) hAd ⟨rfl,BZ⟩

set_option maxRecDepth 100000 in
set_option maxHeartbeats 8000000 in
theorem gin_true (P Q G H A X:Nat)
  (c1:∀ w,Calls Tryd.prog 9 #[grp P Q G H,num A,num Q] w fun e w'=>e=.returned (.tuple #[num X,.int .i64 0])∧Below w.heap.size w w')
  (c2:∀ w,Calls Tryd.prog 30 #[.int .u64 1] w fun e w'=>e=.returned (num 1)∧Below w.heap.size w w')
  (e:∀ w:World,(Op.equalIn 10000 24 (num X) (num 1)).run Tryd.prog w=.ok true w)
  (w:World):Calls Tryd.prog 16 #[grp P Q G H,num A] w fun e w'=>e=.returned (.bool true)∧Below w.heap.size w w':=by
 have Hc1:=Lib.hid c1
 have Hc2:=Lib.hid c2
 have He:=Lib.hid e
 clear c1 c2 e
 go_enter Tryd.func16,Tryd.ntmps16
 go_wp2_with fail
 have BW:=Lib.hid (Below.refl w.heap.size w)
 generalize hW1:((w.alloc (.cells #[.int .u64 (wd P 0:Nat),.int .u64 (wd P 1:Nat),.int .u64 (wd P 2:Nat),.int .u64 (wd P 3:Nat),.int .u64 (wd Q 0:Nat),.int .u64 (wd Q 1:Nat),.int .u64 (wd Q 2:Nat),.int .u64 (wd Q 3:Nat),.int .u64 (wd G 0:Nat),.int .u64 (wd G 1:Nat),.int .u64 (wd G 2:Nat),.int .u64 (wd G 3:Nat),.int .u64 (wd H 0:Nat),.int .u64 (wd H 1:Nat),.int .u64 (wd H 2:Nat),.int .u64 (wd H 3:Nat)] 26)).alloc (.cells #[.int .u64 (wd A 0:Nat),.int .u64 (wd A 1:Nat),.int .u64 (wd A 2:Nat),.int .u64 (wd A 3:Nat)] 24))=W1 at *
 have Nr:At W1 (w.heap.size) _ _:=at_of hW1 ((At.at_ _ _ _ _ (by simp)).alloc _)
 have Na:At W1 (w.heap.size+1) _ _:=at_of hW1 (At.at_ _ _ _ _ (by simp))
 have NB:=gr_of hW1 (gr_alloc (gr_alloc BW.out _) _)
 clear hW1 BW 
 generalize w.heap.size+1=ga at *
 obtain ⟨gr,hg0⟩:∃ g,g=w.heap.size:=⟨_,rfl⟩
 rw [← hg0] at Nr ⊢
 clear hg0
 have Fr:=Lib.hid Nr
 have Fa:=Lib.hid Na
 have BW:=Lib.hid NB
 clear NB Nr Na
 refine (Hc1.out _).mono ?_
 rintro e v2 ⟨rfl,z2⟩
 have Nr:=Lib.hid (Fr.out.on z2)
 have Na:=Lib.hid (Fa.out.on z2)
 have NB:=Lib.hid (bel_tr BW.out z2)
 clear BW z2 Fr Fa
 have Fr:=Nr
 have Fa:=Na
 have BW:=NB
 clear NB Nr Na
 go_upto_region 2 with fail
 generalize hW3:(v2.alloc (.cells #[.int .u64 (wd X 0:Nat),.int .u64 (wd X 1:Nat),.int .u64 (wd X 2:Nat),.int .u64 (wd X 3:Nat)] 24))=W3 at *
 have Nx:At W3 (v2.heap.size) _ _:=at_of hW3 (At.at_ _ _ _ _ (by simp))
 have Nr:=at_of hW3 (Fr.out.alloc _)
 have Na:=at_of hW3 (Fa.out.alloc _)
 have NB:=gr_of hW3 (gr_alloc BW.out _)
 clear hW3 BW Fr Fa
 generalize v2.heap.size=gx at *
 have Fr:=Lib.hid Nr
 have Fa:=Lib.hid Na
 have Fx:=Lib.hid Nx
 have BW:=Lib.hid NB
 clear NB Nr Na Nx
 try simp only [List.append_eq,List.cons_append,List.nil_append]
 refine wp_region_noPanic ?_
 refine wp_region_held_drew (S:=fun w'=>At w' gx 24 #[.int .u64 (wd X 0:Nat),.int .u64 (wd X 1:Nat),.int .u64 (wd X 2:Nat),.int .u64 (wd X 3:Nat)]) (by kernel_rfl) (Fx.out.drew) (fun _=>?_)
 refine wpAnyH_cores (fuel:=1) (⟨0,15,[],Kind.val (.int .i64 0),true⟩::⟨1,16,[0],Kind.val (.bool true),true⟩::⟨2,17,[1],Kind.val (.bool true),true⟩::⟨3,18,[2],Kind.val (.agg #[.int .u64 (wd X 0:Nat),.int .u64 (wd X 1:Nat),.int .u64 (wd X 2:Nat),.int .u64 (wd X 3:Nat)]),true⟩::⟨4,19,[2,3],Kind.val (.agg #[.int .u64 (wd 1 0:Nat),.int .u64 (wd 1 1:Nat),.int .u64 (wd 1 2:Nat),.int .u64 (wd 1 3:Nat)]),false⟩::⟨5,20,[2,3,4],Kind.val (.bool true),true⟩::⟨6,21,[2,5],Kind.val (.bool true),true⟩::[]) _ _ W3 _ ?_ ?_ ?_ ?_ ?_ ?_ ?_ ?_ ?_ ?_ ?_
 ·rfl
 ·kernel_rfl
 ·exact of_decide_eq_true (by kernel_rfl)
 ·(repeat refine all_cons ⟨_,by rfl,by rfl⟩ ?_);exact all_nil
 ·exact fun _ hb=>Fx.out.on hb
 ·exact (Below.refl _ _).drew
 ·kernel_rfl
 ·exact fun _ _ _ _ _ h=>h
 ·(repeat (refine all_cons ?_ ?_;rotate_left));exact all_nil
  ·exact coreG_move _ _ _ _ _ _ _ (by rfl) (by rfl) (wants_none) (ko 6)
  ·exact coreG_bin _ _ _ _ _ _ _ _ _ _ _ _ _ (by rfl) (by rfl) (wants_none) (kc 0 15) (known_const _) ((fun ρ w hx hy=>by simp only [execOp,hx,hy];simp [go_sem]))
  ·exact coreG_move _ _ _ _ _ _ _ (by rfl) (by rfl) (wants_none) (kc 1 16)
  ·exact coreG_loadP _ _ _ _ _ _ gx _ _ _ _ (by rfl) (by rfl) (wc 2 17 2 (kc 2 17)) (ko 5) (fun _ hs=>hs)
  ·exact core_pureAs _ (by rfl)
  ·exact coreG_bin _ _ _ _ _ _ _ _ _ _ _ _ _ (by rfl) (by rfl) (wc 2 17 2 (kc 2 17)) (kc 3 18) (kc 4 19) (eql_run true _ _ _ _ _ _ _ _ _ _ _ _ _ _ _ He.out)
  ·exact coreG_pick _ _ _ _ _ _ _ _ _ _ _ _ (by rfl) (by rfl) (wants_none) (kc 2 17) (kc 5 20) (known_const _) (by rfl)
 ·(repeat (refine all_cons ?_ ?_;rotate_left));exact all_nil
  ·exact sA
  ·exact sA
  ·exact sA
  ·exact sA
  ·exact fun _=>coreG_call _ 30 _ _ [.const (.int .u64 1)] _ _ _ _ _ _ _ (by rfl) Tryd.func30 (by kernel_rfl) (by rfl) (by rfl) (wc 2 17 2 (kc 2 17)) (.cons (known_const _) .nil) (Hc2.out)
  ·exact sA
  ·exact sA
 intro vs y4 hc
 have BZ:=bel_tr BW.out hc.bel
 refine assign_one (i:=7) (.tmp 21) 4 _ _ _ (.bool true) (by kernel_rfl) (by rfl) (hc.at_ (of_decide_eq_true (by kernel_rfl)) (by rfl) 6 21 _ (.bool true) (by rfl) (by rfl) (by rfl)) (Fx.out.on hc.bel) ?_
 refine wpAnyH_done (by kernel_rfl) ?_ _
 refine NoPanic.normal ?_
 generalize hA:Act.put (over _ _ vs) (some 4) (.bool true)=A
 have hA0:A.tmps.getD 4 undef=.bool true:=by rw [← hA];exact put_at _ _ _ (by rw [over_size];exact Nat.le_of_ble_eq_true rfl)
 have hAd:A.defers=[]:=by rw [← hA,put_defers,over_defers]
 clear hA hc
 go_wp2_with fail
 refine bodyPost_ret (v:=.bool true) (by simp [results,Tryd.results16,go_sem] at hA0 ⊢;simp [hA0]) hAd ⟨rfl,BZ⟩

set_option maxRecDepth 100000 in
set_option maxHeartbeats 8000000 in
theorem gin_false (P Q G H A X:Nat)
  (c1:∀ w,Calls Tryd.prog 9 #[grp P Q G H,num A,num Q] w fun e w'=>e=.returned (.tuple #[num X,.int .i64 0])∧Below w.heap.size w w')
  (c2:∀ w,Calls Tryd.prog 30 #[.int .u64 1] w fun e w'=>e=.returned (num 1)∧Below w.heap.size w w')
  (e:∀ w:World,(Op.equalIn 10000 24 (num X) (num 1)).run Tryd.prog w=.ok false w)
  (w:World):Calls Tryd.prog 16 #[grp P Q G H,num A] w fun e w'=>e=.returned (.bool false)∧Below w.heap.size w w':=by
 have Hc1:=Lib.hid c1
 have Hc2:=Lib.hid c2
 have He:=Lib.hid e
 clear c1 c2 e
 go_enter Tryd.func16,Tryd.ntmps16
 go_wp2_with fail
 have BW:=Lib.hid (Below.refl w.heap.size w)
 generalize hW1:((w.alloc (.cells #[.int .u64 (wd P 0:Nat),.int .u64 (wd P 1:Nat),.int .u64 (wd P 2:Nat),.int .u64 (wd P 3:Nat),.int .u64 (wd Q 0:Nat),.int .u64 (wd Q 1:Nat),.int .u64 (wd Q 2:Nat),.int .u64 (wd Q 3:Nat),.int .u64 (wd G 0:Nat),.int .u64 (wd G 1:Nat),.int .u64 (wd G 2:Nat),.int .u64 (wd G 3:Nat),.int .u64 (wd H 0:Nat),.int .u64 (wd H 1:Nat),.int .u64 (wd H 2:Nat),.int .u64 (wd H 3:Nat)] 26)).alloc (.cells #[.int .u64 (wd A 0:Nat),.int .u64 (wd A 1:Nat),.int .u64 (wd A 2:Nat),.int .u64 (wd A 3:Nat)] 24))=W1 at *
 have Nr:At W1 (w.heap.size) _ _:=at_of hW1 ((At.at_ _ _ _ _ (by simp)).alloc _)
 have Na:At W1 (w.heap.size+1) _ _:=at_of hW1 (At.at_ _ _ _ _ (by simp))
 have NB:=gr_of hW1 (gr_alloc (gr_alloc BW.out _) _)
 clear hW1 BW 
 generalize w.heap.size+1=ga at *
 obtain ⟨gr,hg0⟩:∃ g,g=w.heap.size:=⟨_,rfl⟩
 rw [← hg0] at Nr ⊢
 clear hg0
 have Fr:=Lib.hid Nr
 have Fa:=Lib.hid Na
 have BW:=Lib.hid NB
 clear NB Nr Na
 refine (Hc1.out _).mono ?_
 rintro e v2 ⟨rfl,z2⟩
 have Nr:=Lib.hid (Fr.out.on z2)
 have Na:=Lib.hid (Fa.out.on z2)
 have NB:=Lib.hid (bel_tr BW.out z2)
 clear BW z2 Fr Fa
 have Fr:=Nr
 have Fa:=Na
 have BW:=NB
 clear NB Nr Na
 go_upto_region 2 with fail
 generalize hW3:(v2.alloc (.cells #[.int .u64 (wd X 0:Nat),.int .u64 (wd X 1:Nat),.int .u64 (wd X 2:Nat),.int .u64 (wd X 3:Nat)] 24))=W3 at *
 have Nx:At W3 (v2.heap.size) _ _:=at_of hW3 (At.at_ _ _ _ _ (by simp))
 have Nr:=at_of hW3 (Fr.out.alloc _)
 have Na:=at_of hW3 (Fa.out.alloc _)
 have NB:=gr_of hW3 (gr_alloc BW.out _)
 clear hW3 BW Fr Fa
 generalize v2.heap.size=gx at *
 have Fr:=Lib.hid Nr
 have Fa:=Lib.hid Na
 have Fx:=Lib.hid Nx
 have BW:=Lib.hid NB
 clear NB Nr Na Nx
 try simp only [List.append_eq,List.cons_append,List.nil_append]
 refine wp_region_noPanic ?_
 refine wp_region_held_drew (S:=fun w'=>At w' gx 24 #[.int .u64 (wd X 0:Nat),.int .u64 (wd X 1:Nat),.int .u64 (wd X 2:Nat),.int .u64 (wd X 3:Nat)]) (by kernel_rfl) (Fx.out.drew) (fun _=>?_)
 refine wpAnyH_cores (fuel:=1) (⟨0,15,[],Kind.val (.int .i64 0),true⟩::⟨1,16,[0],Kind.val (.bool true),true⟩::⟨2,17,[1],Kind.val (.bool true),true⟩::⟨3,18,[2],Kind.val (.agg #[.int .u64 (wd X 0:Nat),.int .u64 (wd X 1:Nat),.int .u64 (wd X 2:Nat),.int .u64 (wd X 3:Nat)]),true⟩::⟨4,19,[2,3],Kind.val (.agg #[.int .u64 (wd 1 0:Nat),.int .u64 (wd 1 1:Nat),.int .u64 (wd 1 2:Nat),.int .u64 (wd 1 3:Nat)]),false⟩::⟨5,20,[2,3,4],Kind.val (.bool false),true⟩::⟨6,21,[2,5],Kind.val (.bool false),true⟩::[]) _ _ W3 _ ?_ ?_ ?_ ?_ ?_ ?_ ?_ ?_ ?_ ?_ ?_
 ·rfl
 ·kernel_rfl
 ·exact of_decide_eq_true (by kernel_rfl)
 ·(repeat refine all_cons ⟨_,by rfl,by rfl⟩ ?_);exact all_nil
 ·exact fun _ hb=>Fx.out.on hb
 ·exact (Below.refl _ _).drew
 ·kernel_rfl
 ·exact fun _ _ _ _ _ h=>h
 ·(repeat (refine all_cons ?_ ?_;rotate_left));exact all_nil
  ·exact coreG_move _ _ _ _ _ _ _ (by rfl) (by rfl) (wants_none) (ko 6)
  ·exact coreG_bin _ _ _ _ _ _ _ _ _ _ _ _ _ (by rfl) (by rfl) (wants_none) (kc 0 15) (known_const _) ((fun ρ w hx hy=>by simp only [execOp,hx,hy];simp [go_sem]))
  ·exact coreG_move _ _ _ _ _ _ _ (by rfl) (by rfl) (wants_none) (kc 1 16)
  ·exact coreG_loadP _ _ _ _ _ _ gx _ _ _ _ (by rfl) (by rfl) (wc 2 17 2 (kc 2 17)) (ko 5) (fun _ hs=>hs)
  ·exact core_pureAs _ (by rfl)
  ·exact coreG_bin _ _ _ _ _ _ _ _ _ _ _ _ _ (by rfl) (by rfl) (wc 2 17 2 (kc 2 17)) (kc 3 18) (kc 4 19) (eql_run false _ _ _ _ _ _ _ _ _ _ _ _ _ _ _ He.out)
  ·exact coreG_pick _ _ _ _ _ _ _ _ _ _ _ _ (by rfl) (by rfl) (wants_none) (kc 2 17) (kc 5 20) (known_const _) (by rfl)
 ·(repeat (refine all_cons ?_ ?_;rotate_left));exact all_nil
  ·exact sA
  ·exact sA
  ·exact sA
  ·exact sA
  ·exact fun _=>coreG_call _ 30 _ _ [.const (.int .u64 1)] _ _ _ _ _ _ _ (by rfl) Tryd.func30 (by kernel_rfl) (by rfl) (by rfl) (wc 2 17 2 (kc 2 17)) (.cons (known_const _) .nil) (Hc2.out)
  ·exact sA
  ·exact sA
 intro vs y4 hc
 have BZ:=bel_tr BW.out hc.bel
 refine assign_one (i:=7) (.tmp 21) 4 _ _ _ (.bool false) (by kernel_rfl) (by rfl) (hc.at_ (of_decide_eq_true (by kernel_rfl)) (by rfl) 6 21 _ (.bool false) (by rfl) (by rfl) (by rfl)) (Fx.out.on hc.bel) ?_
 refine wpAnyH_done (by kernel_rfl) ?_ _
 refine NoPanic.normal ?_
 generalize hA:Act.put (over _ _ vs) (some 4) (.bool false)=A
 have hA0:A.tmps.getD 4 undef=.bool false:=by rw [← hA];exact put_at _ _ _ (by rw [over_size];exact Nat.le_of_ble_eq_true rfl)
 have hAd:A.defers=[]:=by rw [← hA,put_defers,over_defers]
 clear hA hc
 go_wp2_with fail
 refine bodyPost_ret (v:=.bool false) (by simp [results,Tryd.results16,go_sem] at hA0 ⊢;simp [hA0]) hAd ⟨rfl,BZ⟩

theorem gin_any (P Q G H A:Nat) (hP:P<2^256) (hQ:Q<2^256) (hA:A<2^256) (w:World):Calls Tryd.prog 16 #[grp P Q G H,num A] w fun e w'=>e=.returned (.bool (inB P Q A))∧Below w.heap.size w w':=by
 rcases hm:mayB P A with _ | _
 ·rw [show inB P Q A=false from by simp [inB,hm]]
  exact gin_no P Q G H A 0 (gexp_no P Q G H A Q hP hA hm) w
 ·have hX:A^Q%P<2^256:=Nat.lt_trans (Nat.mod_lt _ (by have:=mayB_iff.mp hm;omega)) hP
  by_cases h1:A^Q%P=1
  ·rw [show inB P Q A=true from by simp [inB,hm,h1]]
   exact gin_true P Q G H A _ (gexp_yes P Q G H A Q hP hA hQ hm) (fun w=>of_any 1 (by decide) w) (fun w=>by rw [eqN _ 1 hX (by decide),decide_eq_true h1]) w
  ·rw [show inB P Q A=false from by simp [inB,hm,h1]]
   exact gin_false P Q G H A _ (gexp_yes P Q G H A Q hP hA hQ hm) (fun w=>of_any 1 (by decide) w) (fun w=>by rw [eqN _ 1 hX (by decide),decide_eq_false h1]) w
end Go.Proofs.YtlphnfajhpkleaaDoor
