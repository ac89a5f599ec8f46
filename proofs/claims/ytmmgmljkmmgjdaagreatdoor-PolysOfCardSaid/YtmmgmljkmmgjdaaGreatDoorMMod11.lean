import Derived.Test.YtmmgmljkmmgjdaaGreatDoorMMod10
import Derived.Test.YtmmgmljkmmgjdaaGreatDoorMMod9
import Derived.Test.YtmmgmljkmmgjdaaGreatDoorMTree
namespace Go.Proofs.YtmmgmljkmmgjdaaGreatDoor
set_option maxRecDepth 100000
set_option maxHeartbeats 8000000
open Go.RowKit
set_option linter.unusedSimpArgs false
set_option linter.unusedVariables false
attribute [local go_sem ↓] Go.wp_at_zero Go.wp_at_succ

theorem addw (A B M V:Nat) (er:Int)
  (c1:∀ w,Calls Tryz.prog 179 #[.agg #[.func (.func 208) #[] #[]],num A,num B,num M] w fun e w'=>e=.returned (.tuple #[num V,.int .i64 er])∧Below w.heap.size w w')
  (w:World):Calls Tryz.prog 190 #[num A,num B,num M] w fun e w'=>e=.returned (.tuple #[num V,.int .i64 er])∧Below w.heap.size w w':=by
 have Hc1:=Jja c1
 clear c1
 go_enter Tryz.func190,Tryz.ntmps190
 go_wp2_with fail
 have BW:=Jja (Below.refl w.heap.size w)
 generalize hW1:((((w.alloc (.cells (ncs A) 24)).alloc (.cells (ncs B) 24)).alloc (.cells (ncs M) 24)).alloc (.cells #[.int .u64 0,.int .u64 0,.int .u64 0,.int .u64 0] 24))=W1 at *
 have Na:At W1 (w.heap.size) _ _:=Jf hW1 ((((At.at_ _ _ _ _ (by simp)).alloc _).alloc _).alloc _)
 have Nb:At W1 (w.heap.size+1) _ _:=Jf hW1 (((At.at_ _ _ _ _ (by simp)).alloc _).alloc _)
 have Nm:At W1 (w.heap.size+1+1) _ _:=Jf hW1 ((At.at_ _ _ _ _ (by simp)).alloc _)
 have No:At W1 (w.heap.size+1+1+1) _ _:=Jf hW1 (At.at_ _ _ _ _ (by simp))
 have Eo:w.heap.size≤w.heap.size+1+1+1:=by have:=BW.out.size;omega
 have Dao:w.heap.size≠w.heap.size+1+1+1:=by omega
 have Dbo:w.heap.size+1≠w.heap.size+1+1+1:=by omega
 have Dmo:w.heap.size+1+1≠w.heap.size+1+1+1:=by omega
 have NB:=Ka hW1 (Jd (Jd (Jd (Jd BW.out _) _) _) _)
 clear BW
 clear hW1
 generalize w.heap.size+1+1+1=go at *
 generalize w.heap.size+1+1=gm at *
 generalize w.heap.size+1=gb at *
 obtain ⟨ga,hg0⟩:∃ g,g=w.heap.size:=⟨_,rfl⟩
 rw [← hg0] at Na ⊢
 rw [← hg0] at Dao
 clear hg0
 have Fa:=Jja Na
 have Fb:=Jja Nb
 have Fm:=Jja Nm
 have Fo:=Jja No
 have BW:=Jja NB
 clear NB Na Nb Nm No
 refine (Hc1.out _).mono ?_
 rintro e v2 ⟨rfl,z2⟩
 have Na:=Jja (Fa.out.on z2)
 have Nb:=Jja (Fb.out.on z2)
 have Nm:=Jja (Fm.out.on z2)
 have No:=Jja (Fo.out.on z2)
 have NB:=Jja (Jr BW.out z2)
 clear BW z2 Fa Fb Fm Fo
 have Fa:=Na
 have Fb:=Nb
 have Fm:=Nm
 have Fo:=No
 have BW:=NB
 clear NB Na Nb Nm No
 have Lo:=Fo.out.lt
 have co0:v2.cell? ⟨go,0,none⟩=some (.int .u64 0):=Fo.out.cell 0
 have co1:v2.cell? ⟨go,1,none⟩=some (.int .u64 0):=Fo.out.cell 1
 have co2:v2.cell? ⟨go,2,none⟩=some (.int .u64 0):=Fo.out.cell 2
 have co3:v2.cell? ⟨go,3,none⟩=some (.int .u64 0):=Fo.out.cell 3
 obtain ⟨fo0,fo1,fo2,fo3⟩:=Vo Fo.out
 go_wp2_with fail
 generalize hW3:((((v2.setCell ⟨go,0,none⟩ (.int .u64 (wd V 0))).setCell ⟨go,1,none⟩ (.int .u64 (wd V 1))).setCell ⟨go,2,none⟩ (.int .u64 (wd V 2))).setCell ⟨go,3,none⟩ (.int .u64 (wd V 3)))=W3 at *
 clear Lo co0 co1 co2 co3 fo0 fo1 fo2 fo3
 have Na_0:=Jf hW3 ((Fa.out).far4 Dao _ _ _ _)
 have Nb_0:=Jf hW3 ((Fb.out).far4 Dbo _ _ _ _)
 have Nm_0:=Jf hW3 ((Fm.out).far4 Dmo _ _ _ _)
 have No_0:=Jf hW3 ((Fo.out).put4 _ _ _ _)
 have NB_0:=Ka hW3 (((((BW.out).setCell Eo _).setCell Eo _).setCell Eo _).setCell Eo _)
 have Na:=Na_0
 have Nb:=Nb_0
 have Nm:=Nm_0
 have No:=No_0
 have NB:=NB_0
 clear BW Fa Fb Fm Fo Na_0 Nb_0 Nm_0 No_0 NB_0
 clear hW3
 have Fa:=Jja Na
 have Fb:=Jja Nb
 have Fm:=Jja Nm
 have Fo:=Jja No
 have BW:=Jja NB
 clear NB Na Nb Nm No
 have Lo:=Fo.out.lt
 have co0:=Fo.out.c0;have co1:=Fo.out.c1;have co2:=Fo.out.c2;have co3:=Fo.out.c3
 refine bodyPost_ret (v:=.tuple #[num V,.int .i64 er]) (by simp [results,Tryz.results190,go_sem, *]) rfl ⟨rfl,BW.out⟩

theorem subw (A B M V:Nat) (er:Int)
  (c1:∀ w,Calls Tryz.prog 179 #[.agg #[.func (.func 192) #[] #[]],num A,num B,num M] w fun e w'=>e=.returned (.tuple #[num V,.int .i64 er])∧Below w.heap.size w w')
  (w:World):Calls Tryz.prog 165 #[num A,num B,num M] w fun e w'=>e=.returned (.tuple #[num V,.int .i64 er])∧Below w.heap.size w w':=by
 have Hc1:=Jja c1
 clear c1
 go_enter Tryz.func165,Tryz.ntmps165
 go_wp2_with fail
 have BW:=Jja (Below.refl w.heap.size w)
 generalize hW1:((((w.alloc (.cells (ncs A) 24)).alloc (.cells (ncs B) 24)).alloc (.cells (ncs M) 24)).alloc (.cells #[.int .u64 0,.int .u64 0,.int .u64 0,.int .u64 0] 24))=W1 at *
 have Na:At W1 (w.heap.size) _ _:=Jf hW1 ((((At.at_ _ _ _ _ (by simp)).alloc _).alloc _).alloc _)
 have Nb:At W1 (w.heap.size+1) _ _:=Jf hW1 (((At.at_ _ _ _ _ (by simp)).alloc _).alloc _)
 have Nm:At W1 (w.heap.size+1+1) _ _:=Jf hW1 ((At.at_ _ _ _ _ (by simp)).alloc _)
 have No:At W1 (w.heap.size+1+1+1) _ _:=Jf hW1 (At.at_ _ _ _ _ (by simp))
 have Eo:w.heap.size≤w.heap.size+1+1+1:=by have:=BW.out.size;omega
 have Dao:w.heap.size≠w.heap.size+1+1+1:=by omega
 have Dbo:w.heap.size+1≠w.heap.size+1+1+1:=by omega
 have Dmo:w.heap.size+1+1≠w.heap.size+1+1+1:=by omega
 have NB:=Ka hW1 (Jd (Jd (Jd (Jd BW.out _) _) _) _)
 clear BW
 clear hW1
 generalize w.heap.size+1+1+1=go at *
 generalize w.heap.size+1+1=gm at *
 generalize w.heap.size+1=gb at *
 obtain ⟨ga,hg0⟩:∃ g,g=w.heap.size:=⟨_,rfl⟩
 rw [← hg0] at Na ⊢
 rw [← hg0] at Dao
 clear hg0
 have Fa:=Jja Na
 have Fb:=Jja Nb
 have Fm:=Jja Nm
 have Fo:=Jja No
 have BW:=Jja NB
 clear NB Na Nb Nm No
 refine (Hc1.out _).mono ?_
 rintro e v2 ⟨rfl,z2⟩
 have Na:=Jja (Fa.out.on z2)
 have Nb:=Jja (Fb.out.on z2)
 have Nm:=Jja (Fm.out.on z2)
 have No:=Jja (Fo.out.on z2)
 have NB:=Jja (Jr BW.out z2)
 clear BW z2 Fa Fb Fm Fo
 have Fa:=Na
 have Fb:=Nb
 have Fm:=Nm
 have Fo:=No
 have BW:=NB
 clear NB Na Nb Nm No
 have Lo:=Fo.out.lt
 have co0:v2.cell? ⟨go,0,none⟩=some (.int .u64 0):=Fo.out.cell 0
 have co1:v2.cell? ⟨go,1,none⟩=some (.int .u64 0):=Fo.out.cell 1
 have co2:v2.cell? ⟨go,2,none⟩=some (.int .u64 0):=Fo.out.cell 2
 have co3:v2.cell? ⟨go,3,none⟩=some (.int .u64 0):=Fo.out.cell 3
 obtain ⟨fo0,fo1,fo2,fo3⟩:=Vo Fo.out
 go_wp2_with fail
 generalize hW3:((((v2.setCell ⟨go,0,none⟩ (.int .u64 (wd V 0))).setCell ⟨go,1,none⟩ (.int .u64 (wd V 1))).setCell ⟨go,2,none⟩ (.int .u64 (wd V 2))).setCell ⟨go,3,none⟩ (.int .u64 (wd V 3)))=W3 at *
 clear Lo co0 co1 co2 co3 fo0 fo1 fo2 fo3
 have Na_0:=Jf hW3 ((Fa.out).far4 Dao _ _ _ _)
 have Nb_0:=Jf hW3 ((Fb.out).far4 Dbo _ _ _ _)
 have Nm_0:=Jf hW3 ((Fm.out).far4 Dmo _ _ _ _)
 have No_0:=Jf hW3 ((Fo.out).put4 _ _ _ _)
 have NB_0:=Ka hW3 (((((BW.out).setCell Eo _).setCell Eo _).setCell Eo _).setCell Eo _)
 have Na:=Na_0
 have Nb:=Nb_0
 have Nm:=Nm_0
 have No:=No_0
 have NB:=NB_0
 clear BW Fa Fb Fm Fo Na_0 Nb_0 Nm_0 No_0 NB_0
 clear hW3
 have Fa:=Jja Na
 have Fb:=Jja Nb
 have Fm:=Jja Nm
 have Fo:=Jja No
 have BW:=Jja NB
 clear NB Na Nb Nm No
 have Lo:=Fo.out.lt
 have co0:=Fo.out.c0;have co1:=Fo.out.c1;have co2:=Fo.out.c2;have co3:=Fo.out.c3
 refine bodyPost_ret (v:=.tuple #[num V,.int .i64 er]) (by simp [results,Tryz.results165,go_sem, *]) rfl ⟨rfl,BW.out⟩

theorem mulw (A B M V:Nat) (er:Int)
  (c1:∀ w,Calls Tryz.prog 179 #[.agg #[.func (.func 178) #[] #[]],num A,num B,num M] w fun e w'=>e=.returned (.tuple #[num V,.int .i64 er])∧Below w.heap.size w w')
  (w:World):Calls Tryz.prog 118 #[num A,num B,num M] w fun e w'=>e=.returned (.tuple #[num V,.int .i64 er])∧Below w.heap.size w w':=by
 have Hc1:=Jja c1
 clear c1
 go_enter Tryz.func118,Tryz.ntmps118
 go_wp2_with fail
 have BW:=Jja (Below.refl w.heap.size w)
 generalize hW1:((((w.alloc (.cells (ncs A) 24)).alloc (.cells (ncs B) 24)).alloc (.cells (ncs M) 24)).alloc (.cells #[.int .u64 0,.int .u64 0,.int .u64 0,.int .u64 0] 24))=W1 at *
 have Na:At W1 (w.heap.size) _ _:=Jf hW1 ((((At.at_ _ _ _ _ (by simp)).alloc _).alloc _).alloc _)
 have Nb:At W1 (w.heap.size+1) _ _:=Jf hW1 (((At.at_ _ _ _ _ (by simp)).alloc _).alloc _)
 have Nm:At W1 (w.heap.size+1+1) _ _:=Jf hW1 ((At.at_ _ _ _ _ (by simp)).alloc _)
 have No:At W1 (w.heap.size+1+1+1) _ _:=Jf hW1 (At.at_ _ _ _ _ (by simp))
 have Eo:w.heap.size≤w.heap.size+1+1+1:=by have:=BW.out.size;omega
 have Dao:w.heap.size≠w.heap.size+1+1+1:=by omega
 have Dbo:w.heap.size+1≠w.heap.size+1+1+1:=by omega
 have Dmo:w.heap.size+1+1≠w.heap.size+1+1+1:=by omega
 have NB:=Ka hW1 (Jd (Jd (Jd (Jd BW.out _) _) _) _)
 clear BW
 clear hW1
 generalize w.heap.size+1+1+1=go at *
 generalize w.heap.size+1+1=gm at *
 generalize w.heap.size+1=gb at *
 obtain ⟨ga,hg0⟩:∃ g,g=w.heap.size:=⟨_,rfl⟩
 rw [← hg0] at Na ⊢
 rw [← hg0] at Dao
 clear hg0
 have Fa:=Jja Na
 have Fb:=Jja Nb
 have Fm:=Jja Nm
 have Fo:=Jja No
 have BW:=Jja NB
 clear NB Na Nb Nm No
 refine (Hc1.out _).mono ?_
 rintro e v2 ⟨rfl,z2⟩
 have Na:=Jja (Fa.out.on z2)
 have Nb:=Jja (Fb.out.on z2)
 have Nm:=Jja (Fm.out.on z2)
 have No:=Jja (Fo.out.on z2)
 have NB:=Jja (Jr BW.out z2)
 clear BW z2 Fa Fb Fm Fo
 have Fa:=Na
 have Fb:=Nb
 have Fm:=Nm
 have Fo:=No
 have BW:=NB
 clear NB Na Nb Nm No
 have Lo:=Fo.out.lt
 have co0:v2.cell? ⟨go,0,none⟩=some (.int .u64 0):=Fo.out.cell 0
 have co1:v2.cell? ⟨go,1,none⟩=some (.int .u64 0):=Fo.out.cell 1
 have co2:v2.cell? ⟨go,2,none⟩=some (.int .u64 0):=Fo.out.cell 2
 have co3:v2.cell? ⟨go,3,none⟩=some (.int .u64 0):=Fo.out.cell 3
 obtain ⟨fo0,fo1,fo2,fo3⟩:=Vo Fo.out
 go_wp2_with fail
 generalize hW3:((((v2.setCell ⟨go,0,none⟩ (.int .u64 (wd V 0))).setCell ⟨go,1,none⟩ (.int .u64 (wd V 1))).setCell ⟨go,2,none⟩ (.int .u64 (wd V 2))).setCell ⟨go,3,none⟩ (.int .u64 (wd V 3)))=W3 at *
 clear Lo co0 co1 co2 co3 fo0 fo1 fo2 fo3
 have Na_0:=Jf hW3 ((Fa.out).far4 Dao _ _ _ _)
 have Nb_0:=Jf hW3 ((Fb.out).far4 Dbo _ _ _ _)
 have Nm_0:=Jf hW3 ((Fm.out).far4 Dmo _ _ _ _)
 have No_0:=Jf hW3 ((Fo.out).put4 _ _ _ _)
 have NB_0:=Ka hW3 (((((BW.out).setCell Eo _).setCell Eo _).setCell Eo _).setCell Eo _)
 have Na:=Na_0
 have Nb:=Nb_0
 have Nm:=Nm_0
 have No:=No_0
 have NB:=NB_0
 clear BW Fa Fb Fm Fo Na_0 Nb_0 Nm_0 No_0 NB_0
 clear hW3
 have Fa:=Jja Na
 have Fb:=Jja Nb
 have Fm:=Jja Nm
 have Fo:=Jja No
 have BW:=Jja NB
 clear NB Na Nb Nm No
 have Lo:=Fo.out.lt
 have co0:=Fo.out.c0;have co1:=Fo.out.c1;have co2:=Fo.out.c2;have co3:=Fo.out.c3
 refine bodyPost_ret (v:=.tuple #[num V,.int .i64 er]) (by simp [results,Tryz.results118,go_sem, *]) rfl ⟨rfl,BW.out⟩

theorem invw (A M V:Nat) (er:Int)
  (c1:∀ w,Calls Tryz.prog 179 #[.agg #[.func (.func 209) #[] #[]],num A,num A,num M] w fun e w'=>e=.returned (.tuple #[num V,.int .i64 er])∧Below w.heap.size w w')
  (w:World):Calls Tryz.prog 191 #[num A,num M] w fun e w'=>e=.returned (.tuple #[num V,.int .i64 er])∧Below w.heap.size w w':=by
 have Hc1:=Jja c1
 clear c1
 go_enter Tryz.func191,Tryz.ntmps191
 go_wp2_with fail
 have BW:=Jja (Below.refl w.heap.size w)
 generalize hW1:(((w.alloc (.cells (ncs A) 24)).alloc (.cells (ncs M) 24)).alloc (.cells #[.int .u64 0,.int .u64 0,.int .u64 0,.int .u64 0] 24))=W1 at *
 have Na:At W1 (w.heap.size) _ _:=Jf hW1 (((At.at_ _ _ _ _ (by simp)).alloc _).alloc _)
 have Nm:At W1 (w.heap.size+1) _ _:=Jf hW1 ((At.at_ _ _ _ _ (by simp)).alloc _)
 have No:At W1 (w.heap.size+1+1) _ _:=Jf hW1 (At.at_ _ _ _ _ (by simp))
 have Eo:w.heap.size≤w.heap.size+1+1:=by have:=BW.out.size;omega
 have Dao:w.heap.size≠w.heap.size+1+1:=by omega
 have Dmo:w.heap.size+1≠w.heap.size+1+1:=by omega
 have NB:=Ka hW1 (Jd (Jd (Jd BW.out _) _) _)
 clear BW
 clear hW1
 generalize w.heap.size+1+1=go at *
 generalize w.heap.size+1=gm at *
 obtain ⟨ga,hg0⟩:∃ g,g=w.heap.size:=⟨_,rfl⟩
 rw [← hg0] at Na ⊢
 rw [← hg0] at Dao
 clear hg0
 have Fa:=Jja Na
 have Fm:=Jja Nm
 have Fo:=Jja No
 have BW:=Jja NB
 clear NB Na Nm No
 refine (Hc1.out _).mono ?_
 rintro e v2 ⟨rfl,z2⟩
 have Na:=Jja (Fa.out.on z2)
 have Nm:=Jja (Fm.out.on z2)
 have No:=Jja (Fo.out.on z2)
 have NB:=Jja (Jr BW.out z2)
 clear BW z2 Fa Fm Fo
 have Fa:=Na
 have Fm:=Nm
 have Fo:=No
 have BW:=NB
 clear NB Na Nm No
 have Lo:=Fo.out.lt
 have co0:v2.cell? ⟨go,0,none⟩=some (.int .u64 0):=Fo.out.cell 0
 have co1:v2.cell? ⟨go,1,none⟩=some (.int .u64 0):=Fo.out.cell 1
 have co2:v2.cell? ⟨go,2,none⟩=some (.int .u64 0):=Fo.out.cell 2
 have co3:v2.cell? ⟨go,3,none⟩=some (.int .u64 0):=Fo.out.cell 3
 obtain ⟨fo0,fo1,fo2,fo3⟩:=Vo Fo.out
 go_wp2_with fail
 generalize hW3:((((v2.setCell ⟨go,0,none⟩ (.int .u64 (wd V 0))).setCell ⟨go,1,none⟩ (.int .u64 (wd V 1))).setCell ⟨go,2,none⟩ (.int .u64 (wd V 2))).setCell ⟨go,3,none⟩ (.int .u64 (wd V 3)))=W3 at *
 clear Lo co0 co1 co2 co3 fo0 fo1 fo2 fo3
 have Na_0:=Jf hW3 ((Fa.out).far4 Dao _ _ _ _)
 have Nm_0:=Jf hW3 ((Fm.out).far4 Dmo _ _ _ _)
 have No_0:=Jf hW3 ((Fo.out).put4 _ _ _ _)
 have NB_0:=Ka hW3 (((((BW.out).setCell Eo _).setCell Eo _).setCell Eo _).setCell Eo _)
 have Na:=Na_0
 have Nm:=Nm_0
 have No:=No_0
 have NB:=NB_0
 clear BW Fa Fm Fo Na_0 Nm_0 No_0 NB_0
 clear hW3
 have Fa:=Jja Na
 have Fm:=Jja Nm
 have Fo:=Jja No
 have BW:=Jja NB
 clear NB Na Nm No
 have Lo:=Fo.out.lt
 have co0:=Fo.out.c0;have co1:=Fo.out.c1;have co2:=Fo.out.c2;have co3:=Fo.out.c3
 refine bodyPost_ret (v:=.tuple #[num V,.int .i64 er]) (by simp [results,Tryz.results191,go_sem, *]) rfl ⟨rfl,BW.out⟩

theorem cmpN_le {X Y:Nat} (h:X≤Y):Jfn X Y≤0:=by unfold Jfn;split <;> (try split) <;> omega
theorem Jfm {X Y:Nat} (h:Y≤X):0≤Jfn X Y:=by unfold Jfn;rw [if_neg (by omega)];split <;> omega
theorem Wa {X Y:Nat} (h:Y<X):0<Jfn X Y:=by rw [Jgq h];omega
theorem Uv {X Y:Nat} (h:X<Y):Jfn X Y<0:=by rw [Jdl h];omega

theorem with_not (A B M:Nat) (hA:A<2^256) (hB:B<2^256) (hM:M<2^256) (h:¬ (1<M∧A<M∧B<M)) (fv:Value) (w:World) :
  Calls Tryz.prog 179 #[.agg #[fv],num A,num B,num M] w fun e w'=>e=.returned (.tuple #[num 0,.int .i64 1])∧Below w.heap.size w w':=by
 rw [num_zero]
 by_cases h1:1<M
 ·by_cases h2:A<M
  ·exact with_bad2 A B M 1 fv _ _ _ (Wa h1) (Uv h2) (Jfm (by omega)) (fun w=>Xt 1 (by decide) w) (fun w=>Un M 1 hM (by decide) w) (fun w=>Un A M hA hM w) (fun w=>Un B M hB hM w) w
  ·exact with_bad1 A B M 1 fv _ _ (Wa h1) (Jfm (by omega)) (fun w=>Xt 1 (by decide) w) (fun w=>Un M 1 hM (by decide) w) (fun w=>Un A M hA hM w) w
 ·exact with_bad0 A B M 1 fv _ (cmpN_le (by omega)) (fun w=>Xt 1 (by decide) w) (fun w=>Un M 1 hM (by decide) w) w

theorem madd_yes (A B M:Nat) (hM:M<2^256) (h1:1<M) (hA:A<M) (hB:B<M):∀ w,Calls Tryz.prog 190 #[num A,num B,num M] w fun e w'=>e=.returned (.tuple #[num ((A+B)%M),.int .i64 0])∧Below w.heap.size w w':=by
 exact fun w=>addw A B M _ _ (fun w=>with_sum A B M 1 _ _ _ _ _ (Wa h1) (Uv hA) (Uv hB) (fun w=>Xt 1 (by decide) w) (fun w=>Un M 1 hM (by decide) w) (fun w=>Un A M (by omega) hM w) (fun w=>Un B M (by omega) hM w) (sum_any A B M hA hB hM) w) w
theorem madd_no (A B M:Nat) (hA:A<2^256) (hB:B<2^256) (hM:M<2^256) (h:¬ (1<M∧A<M∧B<M)):∀ w,Calls Tryz.prog 190 #[num A,num B,num M] w fun e w'=>e=.returned (.tuple #[num (0),.int .i64 1])∧Below w.heap.size w w':=fun w=>addw A B M _ _ (fun w=>with_not A B M hA hB hM h _ w) w

theorem mmul_yes (A B M:Nat) (hM:M<2^256) (h1:1<M) (hA:A<M) (hB:B<M):∀ w,Calls Tryz.prog 118 #[num A,num B,num M] w fun e w'=>e=.returned (.tuple #[num (A*B%M),.int .i64 0])∧Below w.heap.size w w':=by
 exact fun w=>mulw A B M _ _ (fun w=>with_product A B M 1 _ _ _ _ _ (Wa h1) (Uv hA) (Uv hB) (fun w=>Xt 1 (by decide) w) (fun w=>Un M 1 hM (by decide) w) (fun w=>Un A M (by omega) hM w) (fun w=>Un B M (by omega) hM w) (prod_any A B M (by omega) (by omega) hM (by omega)) w) w
theorem msub_yes (A B M:Nat) (hM:M<2^256) (h1:1<M) (hA:A<M) (hB:B<M):∀ w,Calls Tryz.prog 165 #[num A,num B,num M] w fun e w'=>e=.returned (.tuple #[num ((A+M-B)%M),.int .i64 0])∧Below w.heap.size w w':=by
 obtain ⟨L,c,hL,hc,he,C⟩:=Jhk A B M hA hB hM
 have e:(A+M-B)%M=L:=by
  have h01:c=0∨c=1:=by omega
  rcases h01 with rfl | rfl
  ·rw [show A+M-B=L+M by omega,Nat.add_mod_right,Nat.mod_eq_of_lt hL]
  ·rw [show A+M-B=L by omega,Nat.mod_eq_of_lt hL]
 rw [e]
 exact fun w=>subw A B M _ _ (fun w=>with_difference A B M 1 _ _ _ _ _ (Wa h1) (Uv hA) (Uv hB) (fun w=>Xt 1 (by decide) w) (fun w=>Un M 1 hM (by decide) w) (fun w=>Un A M (by omega) hM w) (fun w=>Un B M (by omega) hM w) C w) w
theorem msub_no (A B M:Nat) (hA:A<2^256) (hB:B<2^256) (hM:M<2^256) (h:¬ (1<M∧A<M∧B<M)):∀ w,Calls Tryz.prog 165 #[num A,num B,num M] w fun e w'=>e=.returned (.tuple #[num (0),.int .i64 1])∧Below w.heap.size w w':=fun w=>subw A B M _ _ (fun w=>with_not A B M hA hB hM h _ w) w

theorem minv_yes (A M V:Nat) (hM:M<2^256) (h1:1<M) (hA:A<M) (hV:V<M) (hAV:A*V%M=1):∀ w,Calls Tryz.prog 191 #[num A,num M] w fun e w'=>e=.returned (.tuple #[num (V),.int .i64 0])∧Below w.heap.size w w':=fun w=>
 invw A M _ _ (fun w=>with_inverse A A M 1 _ _ _ _ _ (Wa h1) (Uv hA) (Uv hA) (fun w=>Xt 1 (by decide) w) (fun w=>Un M 1 hM (by decide) w) (fun w=>Un A M (by omega) hM w) (fun w=>Un A M (by omega) hM w) (fun w=>(inverse_walk A A M hA h1 hM w).mono fun e w' ⟨v,er,he,hh,hb⟩=>by
  rcases hh with ⟨_,rfl,X,rfl,hX,hAX⟩ | ⟨hg,_⟩
  ·rw [inv_one A X V M hX hV hAX hAV] at he;exact ⟨he,hb⟩
  ·exact absurd (inv_gcd A M V h1 hAV) hg) w) w
theorem minv_none (A M:Nat) (hM:M<2^256) (h1:1<M) (hA:A<M) (hg:Nat.gcd A M≠1):∀ w,Calls Tryz.prog 191 #[num A,num M] w fun e w'=>e=.returned (.tuple #[num (0),.int .i64 7])∧Below w.heap.size w w':=fun w=>
 invw A M _ _ (fun w=>with_inverse A A M 1 _ _ _ _ _ (Wa h1) (Uv hA) (Uv hA) (fun w=>Xt 1 (by decide) w) (fun w=>Un M 1 hM (by decide) w) (fun w=>Un A M (by omega) hM w) (fun w=>Un A M (by omega) hM w) (fun w=>(inverse_walk A A M hA h1 hM w).mono fun e w' ⟨v,er,he,hh,hb⟩=>by
  rcases hh with ⟨hg',_⟩ | ⟨_,rfl,rfl⟩
  ·exact absurd hg' hg
  ·exact ⟨he,hb⟩) w) w
end Go.Proofs.YtmmgmljkmmgjdaaGreatDoor
