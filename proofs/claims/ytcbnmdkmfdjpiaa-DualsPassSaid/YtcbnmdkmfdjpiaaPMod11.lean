import Derived.Test.YtcbnmdkmfdjpiaaPMod10
import Derived.Test.YtcbnmdkmfdjpiaaPMod9
import Derived.Test.YtcbnmdkmfdjpiaaPShort
namespace Go.Proofs.Ytcbnmdkmfdjpiaa
set_option maxRecDepth 100000
set_option maxHeartbeats 8000000
open Go.RowKit
set_option linter.unusedSimpArgs false
set_option linter.unusedVariables false
attribute [local go_sem ↓] Go.wp_at_zero Go.wp_at_succ

theorem addw (A B M V:Nat) (er:Int)
  (c1:∀ w,Calls Try.prog 46 #[.agg #[.func (.func 45) #[] #[]],num A,num B,num M] w fun e w'=>e=.returned (.tuple #[num V,.int .i64 er])∧Below w.heap.size w w')
  (w:World):Calls Try.prog 21 #[num A,num B,num M] w fun e w'=>e=.returned (.tuple #[num V,.int .i64 er])∧Below w.heap.size w w':=by
 have Hc1:=Jgm c1
 clear c1
 go_enter Try.func21,Try.ntmps21
 go_wp2_with fail
 have BW:=Jgm (Below.refl w.heap.size w)
 generalize hW1:((((w.alloc (.cells (ncs A) 24)).alloc (.cells (ncs B) 24)).alloc (.cells (ncs M) 24)).alloc (.cells #[.int .u64 0,.int .u64 0,.int .u64 0,.int .u64 0] 24))=W1 at *
 have Na:At W1 (w.heap.size) _ _:=Jd hW1 ((((At.at_ _ _ _ _ (by simp)).alloc _).alloc _).alloc _)
 have Nb:At W1 (w.heap.size+1) _ _:=Jd hW1 (((At.at_ _ _ _ _ (by simp)).alloc _).alloc _)
 have Nm:At W1 (w.heap.size+1+1) _ _:=Jd hW1 ((At.at_ _ _ _ _ (by simp)).alloc _)
 have No:At W1 (w.heap.size+1+1+1) _ _:=Jd hW1 (At.at_ _ _ _ _ (by simp))
 have Eo:w.heap.size≤w.heap.size+1+1+1:=by have:=BW.out.size;omega
 have Dao:w.heap.size≠w.heap.size+1+1+1:=by omega
 have Dbo:w.heap.size+1≠w.heap.size+1+1+1:=by omega
 have Dmo:w.heap.size+1+1≠w.heap.size+1+1+1:=by omega
 have NB:=Ke hW1 (Jb (Jb (Jb (Jb BW.out _) _) _) _)
 clear BW
 clear hW1
 generalize w.heap.size+1+1+1=go at *
 generalize w.heap.size+1+1=gm at *
 generalize w.heap.size+1=gb at *
 obtain ⟨ga,hg0⟩:∃ g,g=w.heap.size:=⟨_,rfl⟩
 rw [← hg0] at Na ⊢
 rw [← hg0] at Dao
 clear hg0
 have Fa:=Jgm Na
 have Fb:=Jgm Nb
 have Fm:=Jgm Nm
 have Fo:=Jgm No
 have BW:=Jgm NB
 clear NB Na Nb Nm No
 refine (Hc1.out _).mono ?_
 rintro e v2 ⟨rfl,z2⟩
 have Na:=Jgm (Fa.out.on z2)
 have Nb:=Jgm (Fb.out.on z2)
 have Nm:=Jgm (Fm.out.on z2)
 have No:=Jgm (Fo.out.on z2)
 have NB:=Jgm (Jw BW.out z2)
 clear BW z2 Fa Fb Fm Fo
 have Fa:=Na
 have Fb:=Nb
 have Fm:=Nm
 have Fo:=No
 have BW:=NB
 clear NB Na Nb Nm No
 have Lo:=Fo.out.lt
 have co0:v2.cell? ⟨go,0,none⟩=some (.int .u64 0):=Fo.out.cell 0
 have co1:v2.cell? ⟨go,1,none⟩=some (.int .u64 0):=Fo.out.cell 1
 have co2:v2.cell? ⟨go,2,none⟩=some (.int .u64 0):=Fo.out.cell 2
 have co3:v2.cell? ⟨go,3,none⟩=some (.int .u64 0):=Fo.out.cell 3
 obtain ⟨fo0,fo1,fo2,fo3⟩:=Wc Fo.out
 go_wp2_with fail
 generalize hW3:((((v2.setCell ⟨go,0,none⟩ (.int .u64 (wd V 0))).setCell ⟨go,1,none⟩ (.int .u64 (wd V 1))).setCell ⟨go,2,none⟩ (.int .u64 (wd V 2))).setCell ⟨go,3,none⟩ (.int .u64 (wd V 3)))=W3 at *
 clear Lo co0 co1 co2 co3 fo0 fo1 fo2 fo3
 have Na_0:=Jd hW3 ((Fa.out).far4 Dao _ _ _ _)
 have Nb_0:=Jd hW3 ((Fb.out).far4 Dbo _ _ _ _)
 have Nm_0:=Jd hW3 ((Fm.out).far4 Dmo _ _ _ _)
 have No_0:=Jd hW3 ((Fo.out).put4 _ _ _ _)
 have NB_0:=Ke hW3 (((((BW.out).setCell Eo _).setCell Eo _).setCell Eo _).setCell Eo _)
 have Na:=Na_0
 have Nb:=Nb_0
 have Nm:=Nm_0
 have No:=No_0
 have NB:=NB_0
 clear BW Fa Fb Fm Fo Na_0 Nb_0 Nm_0 No_0 NB_0
 clear hW3
 have Fa:=Jgm Na
 have Fb:=Jgm Nb
 have Fm:=Jgm Nm
 have Fo:=Jgm No
 have BW:=Jgm NB
 clear NB Na Nb Nm No
 have Lo:=Fo.out.lt
 have co0:=Fo.out.c0;have co1:=Fo.out.c1;have co2:=Fo.out.c2;have co3:=Fo.out.c3
 refine bodyPost_ret (v:=.tuple #[num V,.int .i64 er]) (by simp [results,Try.results21,go_sem, *]) rfl ⟨rfl,BW.out⟩

theorem subw (A B M V:Nat) (er:Int)
  (c1:∀ w,Calls Try.prog 46 #[.agg #[.func (.func 66) #[] #[]],num A,num B,num M] w fun e w'=>e=.returned (.tuple #[num V,.int .i64 er])∧Below w.heap.size w w')
  (w:World):Calls Try.prog 49 #[num A,num B,num M] w fun e w'=>e=.returned (.tuple #[num V,.int .i64 er])∧Below w.heap.size w w':=by
 have Hc1:=Jgm c1
 clear c1
 go_enter Try.func49,Try.ntmps49
 go_wp2_with fail
 have BW:=Jgm (Below.refl w.heap.size w)
 generalize hW1:((((w.alloc (.cells (ncs A) 24)).alloc (.cells (ncs B) 24)).alloc (.cells (ncs M) 24)).alloc (.cells #[.int .u64 0,.int .u64 0,.int .u64 0,.int .u64 0] 24))=W1 at *
 have Na:At W1 (w.heap.size) _ _:=Jd hW1 ((((At.at_ _ _ _ _ (by simp)).alloc _).alloc _).alloc _)
 have Nb:At W1 (w.heap.size+1) _ _:=Jd hW1 (((At.at_ _ _ _ _ (by simp)).alloc _).alloc _)
 have Nm:At W1 (w.heap.size+1+1) _ _:=Jd hW1 ((At.at_ _ _ _ _ (by simp)).alloc _)
 have No:At W1 (w.heap.size+1+1+1) _ _:=Jd hW1 (At.at_ _ _ _ _ (by simp))
 have Eo:w.heap.size≤w.heap.size+1+1+1:=by have:=BW.out.size;omega
 have Dao:w.heap.size≠w.heap.size+1+1+1:=by omega
 have Dbo:w.heap.size+1≠w.heap.size+1+1+1:=by omega
 have Dmo:w.heap.size+1+1≠w.heap.size+1+1+1:=by omega
 have NB:=Ke hW1 (Jb (Jb (Jb (Jb BW.out _) _) _) _)
 clear BW
 clear hW1
 generalize w.heap.size+1+1+1=go at *
 generalize w.heap.size+1+1=gm at *
 generalize w.heap.size+1=gb at *
 obtain ⟨ga,hg0⟩:∃ g,g=w.heap.size:=⟨_,rfl⟩
 rw [← hg0] at Na ⊢
 rw [← hg0] at Dao
 clear hg0
 have Fa:=Jgm Na
 have Fb:=Jgm Nb
 have Fm:=Jgm Nm
 have Fo:=Jgm No
 have BW:=Jgm NB
 clear NB Na Nb Nm No
 refine (Hc1.out _).mono ?_
 rintro e v2 ⟨rfl,z2⟩
 have Na:=Jgm (Fa.out.on z2)
 have Nb:=Jgm (Fb.out.on z2)
 have Nm:=Jgm (Fm.out.on z2)
 have No:=Jgm (Fo.out.on z2)
 have NB:=Jgm (Jw BW.out z2)
 clear BW z2 Fa Fb Fm Fo
 have Fa:=Na
 have Fb:=Nb
 have Fm:=Nm
 have Fo:=No
 have BW:=NB
 clear NB Na Nb Nm No
 have Lo:=Fo.out.lt
 have co0:v2.cell? ⟨go,0,none⟩=some (.int .u64 0):=Fo.out.cell 0
 have co1:v2.cell? ⟨go,1,none⟩=some (.int .u64 0):=Fo.out.cell 1
 have co2:v2.cell? ⟨go,2,none⟩=some (.int .u64 0):=Fo.out.cell 2
 have co3:v2.cell? ⟨go,3,none⟩=some (.int .u64 0):=Fo.out.cell 3
 obtain ⟨fo0,fo1,fo2,fo3⟩:=Wc Fo.out
 go_wp2_with fail
 generalize hW3:((((v2.setCell ⟨go,0,none⟩ (.int .u64 (wd V 0))).setCell ⟨go,1,none⟩ (.int .u64 (wd V 1))).setCell ⟨go,2,none⟩ (.int .u64 (wd V 2))).setCell ⟨go,3,none⟩ (.int .u64 (wd V 3)))=W3 at *
 clear Lo co0 co1 co2 co3 fo0 fo1 fo2 fo3
 have Na_0:=Jd hW3 ((Fa.out).far4 Dao _ _ _ _)
 have Nb_0:=Jd hW3 ((Fb.out).far4 Dbo _ _ _ _)
 have Nm_0:=Jd hW3 ((Fm.out).far4 Dmo _ _ _ _)
 have No_0:=Jd hW3 ((Fo.out).put4 _ _ _ _)
 have NB_0:=Ke hW3 (((((BW.out).setCell Eo _).setCell Eo _).setCell Eo _).setCell Eo _)
 have Na:=Na_0
 have Nb:=Nb_0
 have Nm:=Nm_0
 have No:=No_0
 have NB:=NB_0
 clear BW Fa Fb Fm Fo Na_0 Nb_0 Nm_0 No_0 NB_0
 clear hW3
 have Fa:=Jgm Na
 have Fb:=Jgm Nb
 have Fm:=Jgm Nm
 have Fo:=Jgm No
 have BW:=Jgm NB
 clear NB Na Nb Nm No
 have Lo:=Fo.out.lt
 have co0:=Fo.out.c0;have co1:=Fo.out.c1;have co2:=Fo.out.c2;have co3:=Fo.out.c3
 refine bodyPost_ret (v:=.tuple #[num V,.int .i64 er]) (by simp [results,Try.results49,go_sem, *]) rfl ⟨rfl,BW.out⟩

theorem mulw (A B M V:Nat) (er:Int)
  (c1:∀ w,Calls Try.prog 46 #[.agg #[.func (.func 68) #[] #[]],num A,num B,num M] w fun e w'=>e=.returned (.tuple #[num V,.int .i64 er])∧Below w.heap.size w w')
  (w:World):Calls Try.prog 55 #[num A,num B,num M] w fun e w'=>e=.returned (.tuple #[num V,.int .i64 er])∧Below w.heap.size w w':=by
 have Hc1:=Jgm c1
 clear c1
 go_enter Try.func55,Try.ntmps55
 go_wp2_with fail
 have BW:=Jgm (Below.refl w.heap.size w)
 generalize hW1:((((w.alloc (.cells (ncs A) 24)).alloc (.cells (ncs B) 24)).alloc (.cells (ncs M) 24)).alloc (.cells #[.int .u64 0,.int .u64 0,.int .u64 0,.int .u64 0] 24))=W1 at *
 have Na:At W1 (w.heap.size) _ _:=Jd hW1 ((((At.at_ _ _ _ _ (by simp)).alloc _).alloc _).alloc _)
 have Nb:At W1 (w.heap.size+1) _ _:=Jd hW1 (((At.at_ _ _ _ _ (by simp)).alloc _).alloc _)
 have Nm:At W1 (w.heap.size+1+1) _ _:=Jd hW1 ((At.at_ _ _ _ _ (by simp)).alloc _)
 have No:At W1 (w.heap.size+1+1+1) _ _:=Jd hW1 (At.at_ _ _ _ _ (by simp))
 have Eo:w.heap.size≤w.heap.size+1+1+1:=by have:=BW.out.size;omega
 have Dao:w.heap.size≠w.heap.size+1+1+1:=by omega
 have Dbo:w.heap.size+1≠w.heap.size+1+1+1:=by omega
 have Dmo:w.heap.size+1+1≠w.heap.size+1+1+1:=by omega
 have NB:=Ke hW1 (Jb (Jb (Jb (Jb BW.out _) _) _) _)
 clear BW
 clear hW1
 generalize w.heap.size+1+1+1=go at *
 generalize w.heap.size+1+1=gm at *
 generalize w.heap.size+1=gb at *
 obtain ⟨ga,hg0⟩:∃ g,g=w.heap.size:=⟨_,rfl⟩
 rw [← hg0] at Na ⊢
 rw [← hg0] at Dao
 clear hg0
 have Fa:=Jgm Na
 have Fb:=Jgm Nb
 have Fm:=Jgm Nm
 have Fo:=Jgm No
 have BW:=Jgm NB
 clear NB Na Nb Nm No
 refine (Hc1.out _).mono ?_
 rintro e v2 ⟨rfl,z2⟩
 have Na:=Jgm (Fa.out.on z2)
 have Nb:=Jgm (Fb.out.on z2)
 have Nm:=Jgm (Fm.out.on z2)
 have No:=Jgm (Fo.out.on z2)
 have NB:=Jgm (Jw BW.out z2)
 clear BW z2 Fa Fb Fm Fo
 have Fa:=Na
 have Fb:=Nb
 have Fm:=Nm
 have Fo:=No
 have BW:=NB
 clear NB Na Nb Nm No
 have Lo:=Fo.out.lt
 have co0:v2.cell? ⟨go,0,none⟩=some (.int .u64 0):=Fo.out.cell 0
 have co1:v2.cell? ⟨go,1,none⟩=some (.int .u64 0):=Fo.out.cell 1
 have co2:v2.cell? ⟨go,2,none⟩=some (.int .u64 0):=Fo.out.cell 2
 have co3:v2.cell? ⟨go,3,none⟩=some (.int .u64 0):=Fo.out.cell 3
 obtain ⟨fo0,fo1,fo2,fo3⟩:=Wc Fo.out
 go_wp2_with fail
 generalize hW3:((((v2.setCell ⟨go,0,none⟩ (.int .u64 (wd V 0))).setCell ⟨go,1,none⟩ (.int .u64 (wd V 1))).setCell ⟨go,2,none⟩ (.int .u64 (wd V 2))).setCell ⟨go,3,none⟩ (.int .u64 (wd V 3)))=W3 at *
 clear Lo co0 co1 co2 co3 fo0 fo1 fo2 fo3
 have Na_0:=Jd hW3 ((Fa.out).far4 Dao _ _ _ _)
 have Nb_0:=Jd hW3 ((Fb.out).far4 Dbo _ _ _ _)
 have Nm_0:=Jd hW3 ((Fm.out).far4 Dmo _ _ _ _)
 have No_0:=Jd hW3 ((Fo.out).put4 _ _ _ _)
 have NB_0:=Ke hW3 (((((BW.out).setCell Eo _).setCell Eo _).setCell Eo _).setCell Eo _)
 have Na:=Na_0
 have Nb:=Nb_0
 have Nm:=Nm_0
 have No:=No_0
 have NB:=NB_0
 clear BW Fa Fb Fm Fo Na_0 Nb_0 Nm_0 No_0 NB_0
 clear hW3
 have Fa:=Jgm Na
 have Fb:=Jgm Nb
 have Fm:=Jgm Nm
 have Fo:=Jgm No
 have BW:=Jgm NB
 clear NB Na Nb Nm No
 have Lo:=Fo.out.lt
 have co0:=Fo.out.c0;have co1:=Fo.out.c1;have co2:=Fo.out.c2;have co3:=Fo.out.c3
 refine bodyPost_ret (v:=.tuple #[num V,.int .i64 er]) (by simp [results,Try.results55,go_sem, *]) rfl ⟨rfl,BW.out⟩

theorem invw (A M V:Nat) (er:Int)
  (c1:∀ w,Calls Try.prog 46 #[.agg #[.func (.func 67) #[] #[]],num A,num A,num M] w fun e w'=>e=.returned (.tuple #[num V,.int .i64 er])∧Below w.heap.size w w')
  (w:World):Calls Try.prog 54 #[num A,num M] w fun e w'=>e=.returned (.tuple #[num V,.int .i64 er])∧Below w.heap.size w w':=by
 have Hc1:=Jgm c1
 clear c1
 go_enter Try.func54,Try.ntmps54
 go_wp2_with fail
 have BW:=Jgm (Below.refl w.heap.size w)
 generalize hW1:(((w.alloc (.cells (ncs A) 24)).alloc (.cells (ncs M) 24)).alloc (.cells #[.int .u64 0,.int .u64 0,.int .u64 0,.int .u64 0] 24))=W1 at *
 have Na:At W1 (w.heap.size) _ _:=Jd hW1 (((At.at_ _ _ _ _ (by simp)).alloc _).alloc _)
 have Nm:At W1 (w.heap.size+1) _ _:=Jd hW1 ((At.at_ _ _ _ _ (by simp)).alloc _)
 have No:At W1 (w.heap.size+1+1) _ _:=Jd hW1 (At.at_ _ _ _ _ (by simp))
 have Eo:w.heap.size≤w.heap.size+1+1:=by have:=BW.out.size;omega
 have Dao:w.heap.size≠w.heap.size+1+1:=by omega
 have Dmo:w.heap.size+1≠w.heap.size+1+1:=by omega
 have NB:=Ke hW1 (Jb (Jb (Jb BW.out _) _) _)
 clear BW
 clear hW1
 generalize w.heap.size+1+1=go at *
 generalize w.heap.size+1=gm at *
 obtain ⟨ga,hg0⟩:∃ g,g=w.heap.size:=⟨_,rfl⟩
 rw [← hg0] at Na ⊢
 rw [← hg0] at Dao
 clear hg0
 have Fa:=Jgm Na
 have Fm:=Jgm Nm
 have Fo:=Jgm No
 have BW:=Jgm NB
 clear NB Na Nm No
 refine (Hc1.out _).mono ?_
 rintro e v2 ⟨rfl,z2⟩
 have Na:=Jgm (Fa.out.on z2)
 have Nm:=Jgm (Fm.out.on z2)
 have No:=Jgm (Fo.out.on z2)
 have NB:=Jgm (Jw BW.out z2)
 clear BW z2 Fa Fm Fo
 have Fa:=Na
 have Fm:=Nm
 have Fo:=No
 have BW:=NB
 clear NB Na Nm No
 have Lo:=Fo.out.lt
 have co0:v2.cell? ⟨go,0,none⟩=some (.int .u64 0):=Fo.out.cell 0
 have co1:v2.cell? ⟨go,1,none⟩=some (.int .u64 0):=Fo.out.cell 1
 have co2:v2.cell? ⟨go,2,none⟩=some (.int .u64 0):=Fo.out.cell 2
 have co3:v2.cell? ⟨go,3,none⟩=some (.int .u64 0):=Fo.out.cell 3
 obtain ⟨fo0,fo1,fo2,fo3⟩:=Wc Fo.out
 go_wp2_with fail
 generalize hW3:((((v2.setCell ⟨go,0,none⟩ (.int .u64 (wd V 0))).setCell ⟨go,1,none⟩ (.int .u64 (wd V 1))).setCell ⟨go,2,none⟩ (.int .u64 (wd V 2))).setCell ⟨go,3,none⟩ (.int .u64 (wd V 3)))=W3 at *
 clear Lo co0 co1 co2 co3 fo0 fo1 fo2 fo3
 have Na_0:=Jd hW3 ((Fa.out).far4 Dao _ _ _ _)
 have Nm_0:=Jd hW3 ((Fm.out).far4 Dmo _ _ _ _)
 have No_0:=Jd hW3 ((Fo.out).put4 _ _ _ _)
 have NB_0:=Ke hW3 (((((BW.out).setCell Eo _).setCell Eo _).setCell Eo _).setCell Eo _)
 have Na:=Na_0
 have Nm:=Nm_0
 have No:=No_0
 have NB:=NB_0
 clear BW Fa Fm Fo Na_0 Nm_0 No_0 NB_0
 clear hW3
 have Fa:=Jgm Na
 have Fm:=Jgm Nm
 have Fo:=Jgm No
 have BW:=Jgm NB
 clear NB Na Nm No
 have Lo:=Fo.out.lt
 have co0:=Fo.out.c0;have co1:=Fo.out.c1;have co2:=Fo.out.c2;have co3:=Fo.out.c3
 refine bodyPost_ret (v:=.tuple #[num V,.int .i64 er]) (by simp [results,Try.results54,go_sem, *]) rfl ⟨rfl,BW.out⟩

theorem expw (A N M V:Nat) (er:Int)
  (c1:∀ (gn:Nat) (w:World),At w gn 24 (ncs N)→Calls Try.prog 46 #[.agg #[.func (.func 69) #[] #[.pointer (some ⟨gn,0,none⟩)]],num A,num A,num M] w fun e w'=>e=.returned (.tuple #[num V,.int .i64 er])∧Below w.heap.size w w')
  (w:World):Calls Try.prog 58 #[num A,num N,num M] w fun e w'=>e=.returned (.tuple #[num V,.int .i64 er])∧Below w.heap.size w w':=by
 have Hc1:=Jgm c1
 clear c1
 go_enter Try.func58,Try.ntmps58
 go_wp2_with fail
 have BW:=Jgm (Below.refl w.heap.size w)
 generalize hW1:((((w.alloc (.cells (ncs A) 24)).alloc (.cells (ncs N) 24)).alloc (.cells (ncs M) 24)).alloc (.cells #[.int .u64 0,.int .u64 0,.int .u64 0,.int .u64 0] 24))=W1 at *
 have Na:At W1 (w.heap.size) _ _:=Jd hW1 ((((At.at_ _ _ _ _ (by simp)).alloc _).alloc _).alloc _)
 have Nn:At W1 (w.heap.size+1) _ _:=Jd hW1 (((At.at_ _ _ _ _ (by simp)).alloc _).alloc _)
 have Nm:At W1 (w.heap.size+1+1) _ _:=Jd hW1 ((At.at_ _ _ _ _ (by simp)).alloc _)
 have No:At W1 (w.heap.size+1+1+1) _ _:=Jd hW1 (At.at_ _ _ _ _ (by simp))
 have Eo:w.heap.size≤w.heap.size+1+1+1:=by have:=BW.out.size;omega
 have Dao:w.heap.size≠w.heap.size+1+1+1:=by omega
 have Dno:w.heap.size+1≠w.heap.size+1+1+1:=by omega
 have Dmo:w.heap.size+1+1≠w.heap.size+1+1+1:=by omega
 have NB:=Ke hW1 (Jb (Jb (Jb (Jb BW.out _) _) _) _)
 clear BW
 clear hW1
 generalize w.heap.size+1+1+1=go at *
 generalize w.heap.size+1+1=gm at *
 generalize w.heap.size+1=gn at *
 obtain ⟨ga,hg0⟩:∃ g,g=w.heap.size:=⟨_,rfl⟩
 rw [← hg0] at Na ⊢
 rw [← hg0] at Dao
 clear hg0
 have Fa:=Jgm Na
 have Fn:=Jgm Nn
 have Fm:=Jgm Nm
 have Fo:=Jgm No
 have BW:=Jgm NB
 clear NB Na Nn Nm No
 refine (Hc1.out _ _ Fn.out).mono ?_
 rintro e v2 ⟨rfl,z2⟩
 have Na:=Jgm (Fa.out.on z2)
 have Nn:=Jgm (Fn.out.on z2)
 have Nm:=Jgm (Fm.out.on z2)
 have No:=Jgm (Fo.out.on z2)
 have NB:=Jgm (Jw BW.out z2)
 clear BW z2 Fa Fn Fm Fo
 have Fa:=Na
 have Fn:=Nn
 have Fm:=Nm
 have Fo:=No
 have BW:=NB
 clear NB Na Nn Nm No
 have Lo:=Fo.out.lt
 have co0:v2.cell? ⟨go,0,none⟩=some (.int .u64 0):=Fo.out.cell 0
 have co1:v2.cell? ⟨go,1,none⟩=some (.int .u64 0):=Fo.out.cell 1
 have co2:v2.cell? ⟨go,2,none⟩=some (.int .u64 0):=Fo.out.cell 2
 have co3:v2.cell? ⟨go,3,none⟩=some (.int .u64 0):=Fo.out.cell 3
 obtain ⟨fo0,fo1,fo2,fo3⟩:=Wc Fo.out
 go_wp2_with fail
 generalize hW3:((((v2.setCell ⟨go,0,none⟩ (.int .u64 (wd V 0))).setCell ⟨go,1,none⟩ (.int .u64 (wd V 1))).setCell ⟨go,2,none⟩ (.int .u64 (wd V 2))).setCell ⟨go,3,none⟩ (.int .u64 (wd V 3)))=W3 at *
 clear Lo co0 co1 co2 co3 fo0 fo1 fo2 fo3
 have Na_0:=Jd hW3 ((Fa.out).far4 Dao _ _ _ _)
 have Nn_0:=Jd hW3 ((Fn.out).far4 Dno _ _ _ _)
 have Nm_0:=Jd hW3 ((Fm.out).far4 Dmo _ _ _ _)
 have No_0:=Jd hW3 ((Fo.out).put4 _ _ _ _)
 have NB_0:=Ke hW3 (((((BW.out).setCell Eo _).setCell Eo _).setCell Eo _).setCell Eo _)
 have Na:=Na_0
 have Nn:=Nn_0
 have Nm:=Nm_0
 have No:=No_0
 have NB:=NB_0
 clear BW Fa Fn Fm Fo Na_0 Nn_0 Nm_0 No_0 NB_0
 clear hW3
 have Fa:=Jgm Na
 have Fn:=Jgm Nn
 have Fm:=Jgm Nm
 have Fo:=Jgm No
 have BW:=Jgm NB
 clear NB Na Nn Nm No
 have Lo:=Fo.out.lt
 have co0:=Fo.out.c0;have co1:=Fo.out.c1;have co2:=Fo.out.c2;have co3:=Fo.out.c3
 refine bodyPost_ret (v:=.tuple #[num V,.int .i64 er]) (by simp [results,Try.results58,go_sem, *]) rfl ⟨rfl,BW.out⟩

theorem cmpN_le {X Y:Nat} (h:X≤Y):Jbv X Y≤0:=by unfold Jbv;split <;> (try split) <;> omega
theorem cmpN_ge {X Y:Nat} (h:Y≤X):0≤Jbv X Y:=by unfold Jbv;rw [if_neg (by omega)];split <;> omega
theorem Wf {X Y:Nat} (h:Y<X):0<Jbv X Y:=by rw [Jdp h];omega
theorem Vb {X Y:Nat} (h:X<Y):Jbv X Y<0:=by rw [Jdo h];omega

theorem with_not (A B M:Nat) (hA:A<2^256) (hB:B<2^256) (hM:M<2^256) (h:¬ (1<M∧A<M∧B<M)) (fv:Value) (w:World) :
  Calls Try.prog 46 #[.agg #[fv],num A,num B,num M] w fun e w'=>e=.returned (.tuple #[num 0,.int .i64 1])∧Below w.heap.size w w':=by
 rw [num_zero]
 by_cases h1:1<M
 ·by_cases h2:A<M
  ·exact with_bad2 A B M 1 fv _ _ _ (Wf h1) (Vb h2) (cmpN_ge (by omega)) (fun w=>Vd 1 (by decide) w) (fun w=>Uh M 1 hM (by decide) w) (fun w=>Uh A M hA hM w) (fun w=>Uh B M hB hM w) w
  ·exact with_bad1 A B M 1 fv _ _ (Wf h1) (cmpN_ge (by omega)) (fun w=>Vd 1 (by decide) w) (fun w=>Uh M 1 hM (by decide) w) (fun w=>Uh A M hA hM w) w
 ·exact with_bad0 A B M 1 fv _ (cmpN_le (by omega)) (fun w=>Vd 1 (by decide) w) (fun w=>Uh M 1 hM (by decide) w) w

theorem madd_yes (A B M:Nat) (hM:M<2^256) (h1:1<M) (hA:A<M) (hB:B<M):∀ w,Calls Try.prog 21 #[num A,num B,num M] w fun e w'=>e=.returned (.tuple #[num ((A+B)%M),.int .i64 0])∧Below w.heap.size w w':=by
 exact fun w=>addw A B M _ _ (fun w=>with_sum A B M 1 _ _ _ _ _ (Wf h1) (Vb hA) (Vb hB) (fun w=>Vd 1 (by decide) w) (fun w=>Uh M 1 hM (by decide) w) (fun w=>Uh A M (by omega) hM w) (fun w=>Uh B M (by omega) hM w) (sum_any A B M hA hB hM) w) w
theorem madd_no (A B M:Nat) (hA:A<2^256) (hB:B<2^256) (hM:M<2^256) (h:¬ (1<M∧A<M∧B<M)):∀ w,Calls Try.prog 21 #[num A,num B,num M] w fun e w'=>e=.returned (.tuple #[num (0),.int .i64 1])∧Below w.heap.size w w':=fun w=>addw A B M _ _ (fun w=>with_not A B M hA hB hM h _ w) w

theorem mmul_yes (A B M:Nat) (hM:M<2^256) (h1:1<M) (hA:A<M) (hB:B<M):∀ w,Calls Try.prog 55 #[num A,num B,num M] w fun e w'=>e=.returned (.tuple #[num (A*B%M),.int .i64 0])∧Below w.heap.size w w':=by
 exact fun w=>mulw A B M _ _ (fun w=>with_product A B M 1 _ _ _ _ _ (Wf h1) (Vb hA) (Vb hB) (fun w=>Vd 1 (by decide) w) (fun w=>Uh M 1 hM (by decide) w) (fun w=>Uh A M (by omega) hM w) (fun w=>Uh B M (by omega) hM w) (Jdd A B M (by omega) (by omega) hM (by omega)) w) w
theorem msub_yes (A B M:Nat) (hM:M<2^256) (h1:1<M) (hA:A<M) (hB:B<M):∀ w,Calls Try.prog 49 #[num A,num B,num M] w fun e w'=>e=.returned (.tuple #[num ((A+M-B)%M),.int .i64 0])∧Below w.heap.size w w':=by
 obtain ⟨L,c,hL,hc,he,C⟩:=Jes A B M hA hB hM
 have e:(A+M-B)%M=L:=by
  have h01:c=0∨c=1:=by omega
  rcases h01 with rfl | rfl
  ·rw [show A+M-B=L+M by omega,Nat.add_mod_right,Nat.mod_eq_of_lt hL]
  ·rw [show A+M-B=L by omega,Nat.mod_eq_of_lt hL]
 rw [e]
 exact fun w=>subw A B M _ _ (fun w=>with_difference A B M 1 _ _ _ _ _ (Wf h1) (Vb hA) (Vb hB) (fun w=>Vd 1 (by decide) w) (fun w=>Uh M 1 hM (by decide) w) (fun w=>Uh A M (by omega) hM w) (fun w=>Uh B M (by omega) hM w) C w) w
theorem msub_no (A B M:Nat) (hA:A<2^256) (hB:B<2^256) (hM:M<2^256) (h:¬ (1<M∧A<M∧B<M)):∀ w,Calls Try.prog 49 #[num A,num B,num M] w fun e w'=>e=.returned (.tuple #[num (0),.int .i64 1])∧Below w.heap.size w w':=fun w=>subw A B M _ _ (fun w=>with_not A B M hA hB hM h _ w) w

theorem mexp_yes (A N M:Nat) (hM:M<2^256) (hN:N<2^256) (h1:1<M) (hA:A<M):∀ w,Calls Try.prog 58 #[num A,num N,num M] w fun e w'=>e=.returned (.tuple #[num (A^N%M),.int .i64 0])∧Below w.heap.size w w':=fun w=>
 expw A N M _ _ (fun gn w at1=>with_power A A M 1 _ N gn _ _ _ _ (Wf h1) (Vb hA) (Vb hA) (fun w=>Vd 1 (by decide) w) (fun w=>Uh M 1 hM (by decide) w) (fun w=>Uh A M (by omega) hM w) (fun w=>Uh A M (by omega) hM w) (fun w at2=>expfn_walk gn A A M N _ (fun w=>raise_any A N M hA h1 hM hN w) w at2) w at1) w
theorem minv_yes (A M V:Nat) (hM:M<2^256) (h1:1<M) (hA:A<M) (hV:V<M) (hAV:A*V%M=1):∀ w,Calls Try.prog 54 #[num A,num M] w fun e w'=>e=.returned (.tuple #[num (V),.int .i64 0])∧Below w.heap.size w w':=fun w=>
 invw A M _ _ (fun w=>with_inverse A A M 1 _ _ _ _ _ (Wf h1) (Vb hA) (Vb hA) (fun w=>Vd 1 (by decide) w) (fun w=>Uh M 1 hM (by decide) w) (fun w=>Uh A M (by omega) hM w) (fun w=>Uh A M (by omega) hM w) (fun w=>(inverse_walk A A M hA h1 hM w).mono fun e w' ⟨v,er,he,hh,hb⟩=>by
  rcases hh with ⟨_,rfl,X,rfl,hX,hAX⟩ | ⟨hg,_⟩
  ·rw [inv_one A X V M hX hV hAX hAV] at he;exact ⟨he,hb⟩
  ·exact absurd (inv_gcd A M V h1 hAV) hg) w) w
theorem minv_none (A M:Nat) (hM:M<2^256) (h1:1<M) (hA:A<M) (hg:Nat.gcd A M≠1):∀ w,Calls Try.prog 54 #[num A,num M] w fun e w'=>e=.returned (.tuple #[num (0),.int .i64 7])∧Below w.heap.size w w':=fun w=>
 invw A M _ _ (fun w=>with_inverse A A M 1 _ _ _ _ _ (Wf h1) (Vb hA) (Vb hA) (fun w=>Vd 1 (by decide) w) (fun w=>Uh M 1 hM (by decide) w) (fun w=>Uh A M (by omega) hM w) (fun w=>Uh A M (by omega) hM w) (fun w=>(inverse_walk A A M hA h1 hM w).mono fun e w' ⟨v,er,he,hh,hb⟩=>by
  rcases hh with ⟨hg',_⟩ | ⟨_,rfl,rfl⟩
  ·exact absurd hg' hg
  ·exact ⟨he,hb⟩) w) w
end Go.Proofs.Ytcbnmdkmfdjpiaa
