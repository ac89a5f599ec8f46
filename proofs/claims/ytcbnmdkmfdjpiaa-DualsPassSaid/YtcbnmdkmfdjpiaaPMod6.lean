import Derived.Test.YtcbnmdkmfdjpiaaPMod4
import Derived.Test.YtcbnmdkmfdjpiaaPMult
import Derived.Test.YtcbnmdkmfdjpiaaPShort
namespace Go.Proofs.Ytcbnmdkmfdjpiaa
set_option maxRecDepth 100000
set_option maxHeartbeats 8000000
open Go.RowKit
set_option linter.unusedSimpArgs false
set_option linter.unusedVariables false
attribute [local go_sem ↓] Go.wp_at_zero Go.wp_at_succ

theorem oddway_walk (M T:Nat)
  (c1:∀ w,Calls Try.prog 91 #[num M] w fun e w'=>e=.returned (num T)∧Below w.heap.size w w')
  (w:World):Calls Try.prog 83 #[num M] w fun e w'=>∃ gk gt gr:Nat,e=.returned (.agg #[.func (.func 93) #[] #[.pointer (some ⟨gk,0,none⟩)],.func (.func 94) #[] #[.pointer (some ⟨gr,0,none⟩)],.func (.func 95) #[] #[.pointer (some ⟨gr,0,none⟩)]])∧At w' gk 24 (ncs M)∧At w' gt 24 (ncs T)∧At w' gr 110 #[.func (.func 92) #[] #[.pointer (some ⟨gt,0,none⟩),.pointer (some ⟨gk,0,none⟩)]]∧w.heap.size≤gk∧w.heap.size≤gt∧w.heap.size≤gr∧Below w.heap.size w w':=by
 have Hc1:=Jgm c1
 clear c1
 go_enter Try.func83,Try.ntmps83
 go_wp2_with fail
 have BW:=Jgm (Below.refl w.heap.size w)
 generalize hW1:((w.alloc (.cells (ncs M) 24)).alloc (.cells #[.nilFunc,.nilFunc,.nilFunc] 112))=W1 at *
 have Nk:At W1 (w.heap.size) _ _:=Jd hW1 ((At.at_ _ _ _ _ (by simp)).alloc _)
 have No:At W1 (w.heap.size+1) _ _:=Jd hW1 (At.at_ _ _ _ _ (by simp))
 have Eo:w.heap.size≤w.heap.size+1:=by have:=BW.out.size;omega
 have Dko:w.heap.size≠w.heap.size+1:=by omega
 have NB:=Ke hW1 (Jb (Jb BW.out _) _)
 clear BW
 clear hW1
 generalize w.heap.size+1=go at *
 obtain ⟨gk,hg0⟩:∃ g,g=w.heap.size:=⟨_,rfl⟩
 rw [← hg0] at Nk ⊢
 rw [← hg0] at Dko
 have Ek:w.heap.size≤gk:=by omega
 clear hg0
 have Fk:=Jgm Nk
 have Fo:=Jgm No
 have BW:=Jgm NB
 clear NB Nk No
 refine (Hc1.out _).mono ?_
 rintro e v2 ⟨rfl,z2⟩
 have Nk:=Jgm (Fk.out.on z2)
 have No:=Jgm (Fo.out.on z2)
 have NB:=Jgm (Jw BW.out z2)
 clear BW z2 Fk Fo
 have Fk:=Nk
 have Fo:=No
 have BW:=NB
 clear NB Nk No
 obtain ⟨gt,hgt⟩:∃ g,g=v2.heap.size:=⟨_,rfl⟩
 have Lo:=Fo.out.lt
 have co0:v2.cell? ⟨go,0,none⟩=some (.nilFunc):=Fo.out.cell 0
 have co1:v2.cell? ⟨go,1,none⟩=some (.nilFunc):=Fo.out.cell 1
 have co2:v2.cell? ⟨go,2,none⟩=some (.nilFunc):=Fo.out.cell 2
 have fo0:v2.frozen? ⟨go,0,none⟩=false:=Fo.out.frozen 0
 have fo1:v2.frozen? ⟨go,1,none⟩=false:=Fo.out.frozen 1
 have fo2:v2.frozen? ⟨go,2,none⟩=false:=Fo.out.frozen 2
 go_wp2_with fail
 clear Lo co0 co1 co2 fo0 fo1 fo2
 simp only [← hgt]
 have hsz:(((v2.setCell ⟨go,0,none⟩ (.func (.func 93) #[] #[.pointer (some ⟨gk,0,none⟩)])).setCell ⟨go,1,none⟩ (.func (.func 94) #[] #[.pointer (some ⟨gt+1,0,none⟩)])).setCell ⟨go,2,none⟩ (.func (.func 95) #[] #[.pointer (some ⟨gt+1,0,none⟩)])).heap.size=gt:=by rw [hgt];simp [World.setCell]
 generalize hW3:(((v2.setCell ⟨go,0,none⟩ (.func (.func 93) #[] #[.pointer (some ⟨gk,0,none⟩)])).setCell ⟨go,1,none⟩ (.func (.func 94) #[] #[.pointer (some ⟨gt+1,0,none⟩)])).setCell ⟨go,2,none⟩ (.func (.func 95) #[] #[.pointer (some ⟨gt+1,0,none⟩)]))=W3 at *
 have Nk_0:=Jd hW3 ((Fk.out).far3 Dko _ _ _)
 have No_0:=Jd hW3 ((Fo.out).put3 _ _ _)
 have NB_0:=Ke hW3 ((((BW.out).setCell Eo _).setCell Eo _).setCell Eo _)
 have Nk:=Nk_0
 have No:=No_0
 have NB:=NB_0
 clear BW Fk Fo Nk_0 No_0 NB_0
 clear hW3
 have Fk:=Jgm Nk
 have Fo:=Jgm No
 have BW:=Jgm NB
 clear NB Nk No
 clear hgt
 subst hsz
 generalize hW4:((W3.alloc (.cells (ncs T) 24)).alloc (.cells #[.func (.func 92) #[] #[.pointer (some ⟨W3.heap.size,0,none⟩),.pointer (some ⟨gk,0,none⟩)]] 110))=W4 at *
 have Nt:At W4 (W3.heap.size) _ _:=Jd hW4 ((At.at_ _ _ _ _ (by simp)).alloc _)
 have Et:w.heap.size≤W3.heap.size:=by have:=BW.out.size;omega
 have Dkt:gk≠W3.heap.size:=by have:=Fk.out.lt;omega
 have Dot:go≠W3.heap.size:=by have:=Fo.out.lt;omega
 have Nr:At W4 (W3.heap.size+1) _ _:=Jd hW4 (At.at_ _ _ _ _ (by simp))
 have Er:w.heap.size≤W3.heap.size+1:=by have:=BW.out.size;omega
 have Dkr:gk≠W3.heap.size+1:=by have:=Fk.out.lt;omega
 have Dor:go≠W3.heap.size+1:=by have:=Fo.out.lt;omega
 have Dtr:W3.heap.size≠W3.heap.size+1:=by omega
 have Nk:=Jd hW4 ((Fk.out.alloc _).alloc _)
 have No:=Jd hW4 ((Fo.out.alloc _).alloc _)
 have NB:=Ke hW4 (Jb (Jb BW.out _) _)
 clear BW Fk Fo
 clear hW4
 generalize W3.heap.size+1=gr at *
 generalize W3.heap.size=gt at *
 have Fk:=Jgm Nk
 have Fo:=Jgm No
 have Ft:=Jgm Nt
 have Fr:=Jgm Nr
 have BW:=Jgm NB
 clear NB Nk No Nt Nr
 have Lo:=Fo.out.lt
 have co0:W4.cell? ⟨go,0,none⟩=some (.func (.func 93) #[] #[.pointer (some ⟨gk,0,none⟩)]):=Fo.out.cell 0
 have co1:W4.cell? ⟨go,1,none⟩=some (.func (.func 94) #[] #[.pointer (some ⟨gr,0,none⟩)]):=Fo.out.cell 1
 have co2:W4.cell? ⟨go,2,none⟩=some (.func (.func 95) #[] #[.pointer (some ⟨gr,0,none⟩)]):=Fo.out.cell 2
 refine bodyPost_ret (v:=.agg #[.func (.func 93) #[] #[.pointer (some ⟨gk,0,none⟩)],.func (.func 94) #[] #[.pointer (some ⟨gr,0,none⟩)],.func (.func 95) #[] #[.pointer (some ⟨gr,0,none⟩)]]) (by simp [results,Try.results83,go_sem, *]) rfl ⟨gk,gt,gr,rfl,Fk.out,Ft.out,Fr.out,Ek,Et,Er,BW.out⟩

theorem plainway_walk (M:Nat) (w:World):Calls Try.prog 84 #[num M] w fun e w'=>∃ gk:Nat,e=.returned (.agg #[.func (.func 96) #[] #[],.func (.func 96) #[] #[],.func (.func 97) #[] #[.pointer (some ⟨gk,0,none⟩)]])∧At w' gk 24 (ncs M)∧w.heap.size≤gk∧Below w.heap.size w w':=by
 have hmf:∀ (fn:Fn) (first cap:Array Value) (w:World),(Instr.makeFunc fn first cap).run Try.prog w=.ok (.func fn first cap) w:=fun _ _ _ _=>rfl
 go_enter Try.func84,Try.ntmps84
 go_wp2_with fail
 have NB:Below w.heap.size w ((w.alloc (.cells (ncs M) 24)).alloc (.cells #[.func (.func 96) #[] #[],.func (.func 96) #[] #[],.func (.func 97) #[] #[.pointer (some ⟨w.heap.size,0,none⟩)]] 112)):=Jb (Jb (Below.refl _ _) _) _
 refine bodyPost_ret (v:=.agg #[.func (.func 96) #[] #[],.func (.func 96) #[] #[],.func (.func 97) #[] #[.pointer (some ⟨w.heap.size,0,none⟩)]]) (by simp [results,Try.results84,go_sem, *]) rfl ⟨w.heap.size,rfl,(At.new w _ _).alloc _,Nat.le_refl _,NB⟩

theorem wayby_odd (M T:Nat)
  (c1:∀ w,Calls Try.prog 26 #[num M,.int .i64 0] w fun e w'=>e=.returned (.int .u64 1)∧Below w.heap.size w w')
  (C2:∀ w,Calls Try.prog 91 #[num M] w fun e w'=>e=.returned (num T)∧Below w.heap.size w w')
  (w:World):Calls Try.prog 78 #[num M] w fun e w'=>∃ gk gt gr:Nat,e=.returned (.agg #[.func (.func 93) #[] #[.pointer (some ⟨gk,0,none⟩)],.func (.func 94) #[] #[.pointer (some ⟨gr,0,none⟩)],.func (.func 95) #[] #[.pointer (some ⟨gr,0,none⟩)]])∧At w' gk 24 (ncs M)∧At w' gt 24 (ncs T)∧At w' gr 110 #[.func (.func 92) #[] #[.pointer (some ⟨gt,0,none⟩),.pointer (some ⟨gk,0,none⟩)]]∧w.heap.size≤gk∧w.heap.size≤gt∧w.heap.size≤gr∧Below w.heap.size w w':=by
 have Hc1:=Jgm c1
 have HC2:=Jgm C2
 clear c1 C2
 go_enter Try.func78,Try.ntmps78
 go_wp2_with fail
 have BW:=Jgm (Below.refl w.heap.size w)
 generalize hW1:((w.alloc (.cells (ncs M) 24)).alloc (.cells #[.nilFunc,.nilFunc,.nilFunc] 112))=W1 at *
 have Nm:At W1 (w.heap.size) _ _:=Jd hW1 ((At.at_ _ _ _ _ (by simp)).alloc _)
 have No:At W1 (w.heap.size+1) _ _:=Jd hW1 (At.at_ _ _ _ _ (by simp))
 have Eo:w.heap.size≤w.heap.size+1:=by have:=BW.out.size;omega
 have Dmo:w.heap.size≠w.heap.size+1:=by omega
 have NB:=Ke hW1 (Jb (Jb BW.out _) _)
 clear BW
 clear hW1
 generalize w.heap.size+1=go at *
 obtain ⟨gm,hg0⟩:∃ g,g=w.heap.size:=⟨_,rfl⟩
 rw [← hg0] at Nm ⊢
 rw [← hg0] at Dmo
 clear hg0
 have Fm:=Jgm Nm
 have Fo:=Jgm No
 have BW:=Jgm NB
 clear NB Nm No
 refine (Hc1.out _).mono ?_
 rintro e v2 ⟨rfl,z2⟩
 have Nm:=Jgm (Fm.out.on z2)
 have No:=Jgm (Fo.out.on z2)
 have NB:=Jgm (Jw BW.out z2)
 clear BW z2 Fm Fo
 have Fm:=Nm
 have Fo:=No
 have BW:=NB
 clear NB Nm No
 have Lm:=Fm.out.lt
 obtain ⟨cm0,cm1,cm2,cm3⟩:=Ku Fm.out
 go_wp2_with fail
 clear Lm cm0 cm1 cm2 cm3
 refine (oddway_walk M T HC2.out _).mono ?_
 rintro e v3 ⟨gk,gt,gr,rfl,Nk,Nt,Nr,Zk,Zt,Zr,z3⟩
 have Dmk:gm≠gk:=by have:=Fm.out.lt;omega
 have Dok:go≠gk:=by have:=Fo.out.lt;omega
 have Ek:w.heap.size≤gk:=Nat.le_trans BW.out.size Zk
 have Dmt:gm≠gt:=by have:=Fm.out.lt;omega
 have Dot:go≠gt:=by have:=Fo.out.lt;omega
 have Et:w.heap.size≤gt:=Nat.le_trans BW.out.size Zt
 have Dmr:gm≠gr:=by have:=Fm.out.lt;omega
 have Dor:go≠gr:=by have:=Fo.out.lt;omega
 have Er:w.heap.size≤gr:=Nat.le_trans BW.out.size Zr
 have Fm:=Jgm (Fm.out.on z3)
 have Fo:=Jgm (Fo.out.on z3)
 have Fk:=Jgm Nk
 have Ft:=Jgm Nt
 have Fr:=Jgm Nr
 have NB:=Jgm (Jw BW.out z3)
 clear BW z3 Nk Zk Nt Zt Nr Zr
 have BW:=NB
 clear NB
 have Lo:=Fo.out.lt
 have co0:v3.cell? ⟨go,0,none⟩=some (.nilFunc):=Fo.out.cell 0
 have co1:v3.cell? ⟨go,1,none⟩=some (.nilFunc):=Fo.out.cell 1
 have co2:v3.cell? ⟨go,2,none⟩=some (.nilFunc):=Fo.out.cell 2
 have fo0:v3.frozen? ⟨go,0,none⟩=false:=Fo.out.frozen 0
 have fo1:v3.frozen? ⟨go,1,none⟩=false:=Fo.out.frozen 1
 have fo2:v3.frozen? ⟨go,2,none⟩=false:=Fo.out.frozen 2
 go_wp2_with fail
 generalize hW4:(((v3.setCell ⟨go,0,none⟩ (.func (.func 93) #[] #[.pointer (some ⟨gk,0,none⟩)])).setCell ⟨go,1,none⟩ (.func (.func 94) #[] #[.pointer (some ⟨gr,0,none⟩)])).setCell ⟨go,2,none⟩ (.func (.func 95) #[] #[.pointer (some ⟨gr,0,none⟩)]))=W4 at *
 clear Lo co0 co1 co2 fo0 fo1 fo2
 have Nm_0:=Jd hW4 ((Fm.out).far3 Dmo _ _ _)
 have No_0:=Jd hW4 ((Fo.out).put3 _ _ _)
 have Nk_0:=Jd hW4 ((Fk.out).far3 Dok.symm _ _ _)
 have Nt_0:=Jd hW4 ((Ft.out).far3 Dot.symm _ _ _)
 have Nr_0:=Jd hW4 ((Fr.out).far3 Dor.symm _ _ _)
 have NB_0:=Ke hW4 ((((BW.out).setCell Eo _).setCell Eo _).setCell Eo _)
 have Nm:=Nm_0
 have No:=No_0
 have Nk:=Nk_0
 have Nt:=Nt_0
 have Nr:=Nr_0
 have NB:=NB_0
 clear BW Fm Fo Fk Ft Fr Nm_0 No_0 Nk_0 Nt_0 Nr_0 NB_0
 clear hW4
 have Fm:=Jgm Nm
 have Fo:=Jgm No
 have Fk:=Jgm Nk
 have Ft:=Jgm Nt
 have Fr:=Jgm Nr
 have BW:=Jgm NB
 clear NB Nm No Nk Nt Nr
 have Lo:=Fo.out.lt
 have co0:W4.cell? ⟨go,0,none⟩=some (.func (.func 93) #[] #[.pointer (some ⟨gk,0,none⟩)]):=Fo.out.cell 0
 have co1:W4.cell? ⟨go,1,none⟩=some (.func (.func 94) #[] #[.pointer (some ⟨gr,0,none⟩)]):=Fo.out.cell 1
 have co2:W4.cell? ⟨go,2,none⟩=some (.func (.func 95) #[] #[.pointer (some ⟨gr,0,none⟩)]):=Fo.out.cell 2
 refine bodyPost_ret (v:=.agg #[.func (.func 93) #[] #[.pointer (some ⟨gk,0,none⟩)],.func (.func 94) #[] #[.pointer (some ⟨gr,0,none⟩)],.func (.func 95) #[] #[.pointer (some ⟨gr,0,none⟩)]]) (by simp [results,Try.results78,go_sem, *]) rfl ⟨gk,gt,gr,rfl,Fk.out,Ft.out,Fr.out,Ek,Et,Er,BW.out⟩

theorem wayby_plain (M:Nat)
  (c1:∀ w,Calls Try.prog 26 #[num M,.int .i64 0] w fun e w'=>e=.returned (.int .u64 0)∧Below w.heap.size w w')
  (w:World):Calls Try.prog 78 #[num M] w fun e w'=>∃ gk:Nat,e=.returned (.agg #[.func (.func 96) #[] #[],.func (.func 96) #[] #[],.func (.func 97) #[] #[.pointer (some ⟨gk,0,none⟩)]])∧At w' gk 24 (ncs M)∧w.heap.size≤gk∧Below w.heap.size w w':=by
 have Hc1:=Jgm c1
 clear c1
 go_enter Try.func78,Try.ntmps78
 go_wp2_with fail
 have BW:=Jgm (Below.refl w.heap.size w)
 generalize hW1:((w.alloc (.cells (ncs M) 24)).alloc (.cells #[.nilFunc,.nilFunc,.nilFunc] 112))=W1 at *
 have Nm:At W1 (w.heap.size) _ _:=Jd hW1 ((At.at_ _ _ _ _ (by simp)).alloc _)
 have No:At W1 (w.heap.size+1) _ _:=Jd hW1 (At.at_ _ _ _ _ (by simp))
 have Eo:w.heap.size≤w.heap.size+1:=by have:=BW.out.size;omega
 have Dmo:w.heap.size≠w.heap.size+1:=by omega
 have NB:=Ke hW1 (Jb (Jb BW.out _) _)
 clear BW
 clear hW1
 generalize w.heap.size+1=go at *
 obtain ⟨gm,hg0⟩:∃ g,g=w.heap.size:=⟨_,rfl⟩
 rw [← hg0] at Nm ⊢
 rw [← hg0] at Dmo
 clear hg0
 have Fm:=Jgm Nm
 have Fo:=Jgm No
 have BW:=Jgm NB
 clear NB Nm No
 refine (Hc1.out _).mono ?_
 rintro e v2 ⟨rfl,z2⟩
 have Nm:=Jgm (Fm.out.on z2)
 have No:=Jgm (Fo.out.on z2)
 have NB:=Jgm (Jw BW.out z2)
 clear BW z2 Fm Fo
 have Fm:=Nm
 have Fo:=No
 have BW:=NB
 clear NB Nm No
 have Lm:=Fm.out.lt
 obtain ⟨cm0,cm1,cm2,cm3⟩:=Ku Fm.out
 go_wp2_with fail
 clear Lm cm0 cm1 cm2 cm3
 refine (plainway_walk M _).mono ?_
 rintro e v3 ⟨gk,rfl,Nk,Zk,z3⟩
 have Dmk:gm≠gk:=by have:=Fm.out.lt;omega
 have Dok:go≠gk:=by have:=Fo.out.lt;omega
 have Ek:w.heap.size≤gk:=Nat.le_trans BW.out.size Zk
 have Fm:=Jgm (Fm.out.on z3)
 have Fo:=Jgm (Fo.out.on z3)
 have Fk:=Jgm Nk
 have NB:=Jgm (Jw BW.out z3)
 clear BW z3 Nk Zk
 have BW:=NB
 clear NB
 have Lo:=Fo.out.lt
 have co0:v3.cell? ⟨go,0,none⟩=some (.nilFunc):=Fo.out.cell 0
 have co1:v3.cell? ⟨go,1,none⟩=some (.nilFunc):=Fo.out.cell 1
 have co2:v3.cell? ⟨go,2,none⟩=some (.nilFunc):=Fo.out.cell 2
 have fo0:v3.frozen? ⟨go,0,none⟩=false:=Fo.out.frozen 0
 have fo1:v3.frozen? ⟨go,1,none⟩=false:=Fo.out.frozen 1
 have fo2:v3.frozen? ⟨go,2,none⟩=false:=Fo.out.frozen 2
 go_wp2_with fail
 generalize hW4:(((v3.setCell ⟨go,0,none⟩ (.func (.func 96) #[] #[])).setCell ⟨go,1,none⟩ (.func (.func 96) #[] #[])).setCell ⟨go,2,none⟩ (.func (.func 97) #[] #[.pointer (some ⟨gk,0,none⟩)]))=W4 at *
 clear Lo co0 co1 co2 fo0 fo1 fo2
 have Nm_0:=Jd hW4 ((Fm.out).far3 Dmo _ _ _)
 have No_0:=Jd hW4 ((Fo.out).put3 _ _ _)
 have Nk_0:=Jd hW4 ((Fk.out).far3 Dok.symm _ _ _)
 have NB_0:=Ke hW4 ((((BW.out).setCell Eo _).setCell Eo _).setCell Eo _)
 have Nm:=Nm_0
 have No:=No_0
 have Nk:=Nk_0
 have NB:=NB_0
 clear BW Fm Fo Fk Nm_0 No_0 Nk_0 NB_0
 clear hW4
 have Fm:=Jgm Nm
 have Fo:=Jgm No
 have Fk:=Jgm Nk
 have BW:=Jgm NB
 clear NB Nm No Nk
 have Lo:=Fo.out.lt
 have co0:W4.cell? ⟨go,0,none⟩=some (.func (.func 96) #[] #[]):=Fo.out.cell 0
 have co1:W4.cell? ⟨go,1,none⟩=some (.func (.func 96) #[] #[]):=Fo.out.cell 1
 have co2:W4.cell? ⟨go,2,none⟩=some (.func (.func 97) #[] #[.pointer (some ⟨gk,0,none⟩)]):=Fo.out.cell 2
 refine bodyPost_ret (v:=.agg #[.func (.func 96) #[] #[],.func (.func 96) #[] #[],.func (.func 97) #[] #[.pointer (some ⟨gk,0,none⟩)]]) (by simp [results,Try.results78,go_sem, *]) rfl ⟨gk,rfl,Fk.out,Ek,BW.out⟩

theorem gather0_odd (gy gp gf gk gt gr X f Y:Nat) (w:World) (hyp:gy≠gp) (hfp:gf≠gp)
  (c1:∀ v,Kept gp w v→Calls Try.prog 95 #[num X,num X,.pointer (some ⟨gr,0,none⟩)] v fun e w'=>e=.returned (num Y)∧Below v.heap.size v w')
  (Py:At w gy 112 #[.func (.func 93) #[] #[.pointer (some ⟨gk,0,none⟩)],.func (.func 94) #[] #[.pointer (some ⟨gr,0,none⟩)],.func (.func 95) #[] #[.pointer (some ⟨gr,0,none⟩)]]) (Pp:At w gp 24 (ncs X)) (Pf:At w gf 24 (ncs f)) :
  Calls Try.prog 79 #[.int .u64 0,.pointer (some ⟨gy,0,none⟩),.pointer (some ⟨gp,0,none⟩),.pointer (some ⟨gf,0,none⟩)] w fun e w'=>e=.returned (.tuple #[])∧At w' gp 24 (ncs Y)∧Kept gp w w':=by
 have Hc1:=Jgm c1;have Fy:=Jgm Py;have Fp:=Jgm Pp;have Ff:=Jgm Pf
 clear c1 Py Pp Pf
 have Ly:=Fy.out.lt
 have cy0:w.cell? ⟨gy,0,none⟩=some (.func (.func 93) #[] #[.pointer (some ⟨gk,0,none⟩)]):=Fy.out.cell 0
 have cy1:w.cell? ⟨gy,1,none⟩=some (.func (.func 94) #[] #[.pointer (some ⟨gr,0,none⟩)]):=Fy.out.cell 1
 have cy2:w.cell? ⟨gy,2,none⟩=some (.func (.func 95) #[] #[.pointer (some ⟨gr,0,none⟩)]):=Fy.out.cell 2
 have Lp:=Fp.out.lt
 obtain ⟨cp0,cp1,cp2,cp3⟩:=Ku Fp.out
 go_enter Try.func79,Try.ntmps79
 go_wp2_with fail
 clear Ly cy0 cy1 cy2 Lp cp0 cp1 cp2 cp3
 refine (Hc1.out _ (Kept.ofBelow (Below.refl _ _))).mono ?_
 rintro e v ⟨rfl,z⟩
 have Ny:=Jgm (Fy.out.on z);have Np:=Jgm (Fp.out.on z);have Nf:=Jgm (Ff.out.on z)
 clear Fy Fp Ff
 have Fy:=Ny;have Fp:=Np;have Ff:=Nf
 clear Ny Np Nf
 have Lp:=Fp.out.lt
 obtain ⟨cp0,cp1,cp2,cp3⟩:=Ku Fp.out
 obtain ⟨fp0,fp1,fp2,fp3⟩:=Wc Fp.out
 go_wp2_with fail
 go_end0
 exact ⟨rfl,p4a Fp.out Y,(Kept.ofBelow z).trans (Kept.put4 v gp (.int .u64 (wd Y 0)) (.int .u64 (wd Y 1)) (.int .u64 (wd Y 2)) (.int .u64 (wd Y 3)))⟩

theorem gather1_odd (gy gp gf gk gt gr X f Y Z:Nat) (w:World) (hyp:gy≠gp) (hfp:gf≠gp)
  (c1:∀ v,Kept gp w v→Calls Try.prog 95 #[num X,num X,.pointer (some ⟨gr,0,none⟩)] v fun e w'=>e=.returned (num Y)∧Below v.heap.size v w')
  (c2:∀ v,Kept gp w v→Calls Try.prog 95 #[num Y,num f,.pointer (some ⟨gr,0,none⟩)] v fun e w'=>e=.returned (num Z)∧Below v.heap.size v w')
  (Py:At w gy 112 #[.func (.func 93) #[] #[.pointer (some ⟨gk,0,none⟩)],.func (.func 94) #[] #[.pointer (some ⟨gr,0,none⟩)],.func (.func 95) #[] #[.pointer (some ⟨gr,0,none⟩)]]) (Pp:At w gp 24 (ncs X)) (Pf:At w gf 24 (ncs f)) :
  Calls Try.prog 79 #[.int .u64 1,.pointer (some ⟨gy,0,none⟩),.pointer (some ⟨gp,0,none⟩),.pointer (some ⟨gf,0,none⟩)] w fun e w'=>e=.returned (.tuple #[])∧At w' gp 24 (ncs Z)∧Kept gp w w':=by
 have Hc1:=Jgm c1;have Fy:=Jgm Py;have Fp:=Jgm Pp;have Ff:=Jgm Pf
 clear c1 Py Pp Pf
 have Hc2:=Jgm c2
 clear c2
 have Ly:=Fy.out.lt
 have cy0:w.cell? ⟨gy,0,none⟩=some (.func (.func 93) #[] #[.pointer (some ⟨gk,0,none⟩)]):=Fy.out.cell 0
 have cy1:w.cell? ⟨gy,1,none⟩=some (.func (.func 94) #[] #[.pointer (some ⟨gr,0,none⟩)]):=Fy.out.cell 1
 have cy2:w.cell? ⟨gy,2,none⟩=some (.func (.func 95) #[] #[.pointer (some ⟨gr,0,none⟩)]):=Fy.out.cell 2
 have Lp:=Fp.out.lt
 obtain ⟨cp0,cp1,cp2,cp3⟩:=Ku Fp.out
 go_enter Try.func79,Try.ntmps79
 go_wp2_with fail
 clear Ly cy0 cy1 cy2 Lp cp0 cp1 cp2 cp3
 refine (Hc1.out _ (Kept.ofBelow (Below.refl _ _))).mono ?_
 rintro e v ⟨rfl,z⟩
 have Ny:=Jgm (Fy.out.on z);have Np:=Jgm (Fp.out.on z);have Nf:=Jgm (Ff.out.on z)
 clear Fy Fp Ff
 have Fy:=Ny;have Fp:=Np;have Ff:=Nf
 clear Ny Np Nf
 have Lp:=Fp.out.lt
 obtain ⟨cp0,cp1,cp2,cp3⟩:=Ku Fp.out
 obtain ⟨fp0,fp1,fp2,fp3⟩:=Wc Fp.out
 have Ly:=Fy.out.lt
 have cy0:v.cell? ⟨gy,0,none⟩=some (.func (.func 93) #[] #[.pointer (some ⟨gk,0,none⟩)]):=Fy.out.cell 0
 have cy1:v.cell? ⟨gy,1,none⟩=some (.func (.func 94) #[] #[.pointer (some ⟨gr,0,none⟩)]):=Fy.out.cell 1
 have cy2:v.cell? ⟨gy,2,none⟩=some (.func (.func 95) #[] #[.pointer (some ⟨gr,0,none⟩)]):=Fy.out.cell 2
 have Lf:=Ff.out.lt
 obtain ⟨cf0,cf1,cf2,cf3⟩:=Ku Ff.out
 go_wp2_with fail
 clear Ly cy0 cy1 cy2 Lp cp0 cp1 cp2 cp3 fp0 fp1 fp2 fp3 Lf cf0 cf1 cf2 cf3
 have NK:Kept gp w (put4 v gp (.int .u64 (wd Y 0)) (.int .u64 (wd Y 1)) (.int .u64 (wd Y 2)) (.int .u64 (wd Y 3))):=(Kept.ofBelow z).trans (Kept.put4 v gp (.int .u64 (wd Y 0)) (.int .u64 (wd Y 1)) (.int .u64 (wd Y 2)) (.int .u64 (wd Y 3)))
 have Np:=p4a Fp.out Y
 have Ny:=p4f Fy.out hyp Y
 have Nf:=p4f Ff.out hfp Y
 clear Fy Fp Ff z
 refine (Hc2.out _ NK).mono ?_
 rintro e u ⟨rfl,z⟩
 have Fp:=Jgm (Np.on z)
 have NU:=NK.trans (Kept.ofBelow z)
 clear Np Ny Nf NK z
 have Lp:=Fp.out.lt
 obtain ⟨cp0,cp1,cp2,cp3⟩:=Ku Fp.out
 obtain ⟨fp0,fp1,fp2,fp3⟩:=Wc Fp.out
 go_wp2_with fail
 go_end0
 exact ⟨rfl,p4a Fp.out Z,NU.trans (Kept.put4 u gp (.int .u64 (wd Z 0)) (.int .u64 (wd Z 1)) (.int .u64 (wd Z 2)) (.int .u64 (wd Z 3)))⟩

theorem gather0_plain (gy gp gf gk X f Y:Nat) (w:World) (hyp:gy≠gp) (hfp:gf≠gp)
  (c1:∀ v,Kept gp w v→Calls Try.prog 97 #[num X,num X,.pointer (some ⟨gk,0,none⟩)] v fun e w'=>e=.returned (num Y)∧Below v.heap.size v w')
  (Py:At w gy 112 #[.func (.func 96) #[] #[],.func (.func 96) #[] #[],.func (.func 97) #[] #[.pointer (some ⟨gk,0,none⟩)]]) (Pp:At w gp 24 (ncs X)) (Pf:At w gf 24 (ncs f)) :
  Calls Try.prog 79 #[.int .u64 0,.pointer (some ⟨gy,0,none⟩),.pointer (some ⟨gp,0,none⟩),.pointer (some ⟨gf,0,none⟩)] w fun e w'=>e=.returned (.tuple #[])∧At w' gp 24 (ncs Y)∧Kept gp w w':=by
 have Hc1:=Jgm c1;have Fy:=Jgm Py;have Fp:=Jgm Pp;have Ff:=Jgm Pf
 clear c1 Py Pp Pf
 have Ly:=Fy.out.lt
 have cy0:w.cell? ⟨gy,0,none⟩=some (.func (.func 96) #[] #[]):=Fy.out.cell 0
 have cy1:w.cell? ⟨gy,1,none⟩=some (.func (.func 96) #[] #[]):=Fy.out.cell 1
 have cy2:w.cell? ⟨gy,2,none⟩=some (.func (.func 97) #[] #[.pointer (some ⟨gk,0,none⟩)]):=Fy.out.cell 2
 have Lp:=Fp.out.lt
 obtain ⟨cp0,cp1,cp2,cp3⟩:=Ku Fp.out
 go_enter Try.func79,Try.ntmps79
 go_wp2_with fail
 clear Ly cy0 cy1 cy2 Lp cp0 cp1 cp2 cp3
 refine (Hc1.out _ (Kept.ofBelow (Below.refl _ _))).mono ?_
 rintro e v ⟨rfl,z⟩
 have Ny:=Jgm (Fy.out.on z);have Np:=Jgm (Fp.out.on z);have Nf:=Jgm (Ff.out.on z)
 clear Fy Fp Ff
 have Fy:=Ny;have Fp:=Np;have Ff:=Nf
 clear Ny Np Nf
 have Lp:=Fp.out.lt
 obtain ⟨cp0,cp1,cp2,cp3⟩:=Ku Fp.out
 obtain ⟨fp0,fp1,fp2,fp3⟩:=Wc Fp.out
 go_wp2_with fail
 go_end0
 exact ⟨rfl,p4a Fp.out Y,(Kept.ofBelow z).trans (Kept.put4 v gp (.int .u64 (wd Y 0)) (.int .u64 (wd Y 1)) (.int .u64 (wd Y 2)) (.int .u64 (wd Y 3)))⟩

theorem gather1_plain (gy gp gf gk X f Y Z:Nat) (w:World) (hyp:gy≠gp) (hfp:gf≠gp)
  (c1:∀ v,Kept gp w v→Calls Try.prog 97 #[num X,num X,.pointer (some ⟨gk,0,none⟩)] v fun e w'=>e=.returned (num Y)∧Below v.heap.size v w')
  (c2:∀ v,Kept gp w v→Calls Try.prog 97 #[num Y,num f,.pointer (some ⟨gk,0,none⟩)] v fun e w'=>e=.returned (num Z)∧Below v.heap.size v w')
  (Py:At w gy 112 #[.func (.func 96) #[] #[],.func (.func 96) #[] #[],.func (.func 97) #[] #[.pointer (some ⟨gk,0,none⟩)]]) (Pp:At w gp 24 (ncs X)) (Pf:At w gf 24 (ncs f)) :
  Calls Try.prog 79 #[.int .u64 1,.pointer (some ⟨gy,0,none⟩),.pointer (some ⟨gp,0,none⟩),.pointer (some ⟨gf,0,none⟩)] w fun e w'=>e=.returned (.tuple #[])∧At w' gp 24 (ncs Z)∧Kept gp w w':=by
 have Hc1:=Jgm c1;have Fy:=Jgm Py;have Fp:=Jgm Pp;have Ff:=Jgm Pf
 clear c1 Py Pp Pf
 have Hc2:=Jgm c2
 clear c2
 have Ly:=Fy.out.lt
 have cy0:w.cell? ⟨gy,0,none⟩=some (.func (.func 96) #[] #[]):=Fy.out.cell 0
 have cy1:w.cell? ⟨gy,1,none⟩=some (.func (.func 96) #[] #[]):=Fy.out.cell 1
 have cy2:w.cell? ⟨gy,2,none⟩=some (.func (.func 97) #[] #[.pointer (some ⟨gk,0,none⟩)]):=Fy.out.cell 2
 have Lp:=Fp.out.lt
 obtain ⟨cp0,cp1,cp2,cp3⟩:=Ku Fp.out
 go_enter Try.func79,Try.ntmps79
 go_wp2_with fail
 clear Ly cy0 cy1 cy2 Lp cp0 cp1 cp2 cp3
 refine (Hc1.out _ (Kept.ofBelow (Below.refl _ _))).mono ?_
 rintro e v ⟨rfl,z⟩
 have Ny:=Jgm (Fy.out.on z);have Np:=Jgm (Fp.out.on z);have Nf:=Jgm (Ff.out.on z)
 clear Fy Fp Ff
 have Fy:=Ny;have Fp:=Np;have Ff:=Nf
 clear Ny Np Nf
 have Lp:=Fp.out.lt
 obtain ⟨cp0,cp1,cp2,cp3⟩:=Ku Fp.out
 obtain ⟨fp0,fp1,fp2,fp3⟩:=Wc Fp.out
 have Ly:=Fy.out.lt
 have cy0:v.cell? ⟨gy,0,none⟩=some (.func (.func 96) #[] #[]):=Fy.out.cell 0
 have cy1:v.cell? ⟨gy,1,none⟩=some (.func (.func 96) #[] #[]):=Fy.out.cell 1
 have cy2:v.cell? ⟨gy,2,none⟩=some (.func (.func 97) #[] #[.pointer (some ⟨gk,0,none⟩)]):=Fy.out.cell 2
 have Lf:=Ff.out.lt
 obtain ⟨cf0,cf1,cf2,cf3⟩:=Ku Ff.out
 go_wp2_with fail
 clear Ly cy0 cy1 cy2 Lp cp0 cp1 cp2 cp3 fp0 fp1 fp2 fp3 Lf cf0 cf1 cf2 cf3
 have NK:Kept gp w (put4 v gp (.int .u64 (wd Y 0)) (.int .u64 (wd Y 1)) (.int .u64 (wd Y 2)) (.int .u64 (wd Y 3))):=(Kept.ofBelow z).trans (Kept.put4 v gp (.int .u64 (wd Y 0)) (.int .u64 (wd Y 1)) (.int .u64 (wd Y 2)) (.int .u64 (wd Y 3)))
 have Np:=p4a Fp.out Y
 have Ny:=p4f Fy.out hyp Y
 have Nf:=p4f Ff.out hfp Y
 clear Fy Fp Ff z
 refine (Hc2.out _ NK).mono ?_
 rintro e u ⟨rfl,z⟩
 have Fp:=Jgm (Np.on z)
 have NU:=NK.trans (Kept.ofBelow z)
 clear Np Ny Nf NK z
 have Lp:=Fp.out.lt
 obtain ⟨cp0,cp1,cp2,cp3⟩:=Ku Fp.out
 obtain ⟨fp0,fp1,fp2,fp3⟩:=Wc Fp.out
 go_wp2_with fail
 go_end0
 exact ⟨rfl,p4a Fp.out Z,NU.trans (Kept.put4 u gp (.int .u64 (wd Z 0)) (.int .u64 (wd Z 1)) (.int .u64 (wd Z 2)) (.int .u64 (wd Z 3)))⟩

end Go.Proofs.Ytcbnmdkmfdjpiaa
