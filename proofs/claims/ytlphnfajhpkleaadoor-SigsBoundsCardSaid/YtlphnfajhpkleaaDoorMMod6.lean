/-
 mods: both ways.
-/
import Derived.Test.YtlphnfajhpkleaaDoorMMod4
import Derived.Test.YtlphnfajhpkleaaDoorMMult
import Derived.Test.YtlphnfajhpkleaaDoorMSmall
namespace Go.Proofs.YtlphnfajhpkleaaDoor
open Go.RowKit
set_option linter.unusedSimpArgs false
set_option linter.unusedVariables false
attribute [local go_sem ↓] Go.wp_at_zero Go.wp_at_succ

set_option maxRecDepth 100000 in
set_option maxHeartbeats 8000000 in
theorem oddway_walk (M T:Nat)
  (c1:∀ w,Calls Tryd.prog 75 #[num M] w fun e w'=>e=.returned (num T)∧Below w.heap.size w w')
  (w:World):Calls Tryd.prog 62 #[num M] w fun e w'=>∃ gk gt gr:Nat,e=.returned (.agg #[.func (.func 77) #[] #[.pointer (some ⟨gk,0,none⟩)],.func (.func 78) #[] #[.pointer (some ⟨gr,0,none⟩)],.func (.func 79) #[] #[.pointer (some ⟨gr,0,none⟩)]])∧At w' gk 24 (ncs M)∧At w' gt 24 (ncs T)∧At w' gr 73 #[.func (.func 76) #[] #[.pointer (some ⟨gt,0,none⟩),.pointer (some ⟨gk,0,none⟩)]]∧w.heap.size≤gk∧w.heap.size≤gt∧w.heap.size≤gr∧Below w.heap.size w w':=by
 have Hc1:=Lib.hid c1
 clear c1
 go_enter Tryd.func62,Tryd.ntmps62
 go_wp2_with fail
 have BW:=Lib.hid (Below.refl w.heap.size w)
 generalize hW1:((w.alloc (.cells (ncs M) 24)).alloc (.cells #[.nilFunc,.nilFunc,.nilFunc] 75))=W1 at *
 have Nk:At W1 (w.heap.size) _ _:=at_of hW1 ((At.at_ _ _ _ _ (by simp)).alloc _)
 have No:At W1 (w.heap.size+1) _ _:=at_of hW1 (At.at_ _ _ _ _ (by simp))
 have Eo:w.heap.size≤w.heap.size+1:=by have:=BW.out.size;omega
 have Dko:w.heap.size≠w.heap.size+1:=by omega
 have NB:=gr_of hW1 (gr_alloc (gr_alloc BW.out _) _)
 clear BW
 clear hW1
 generalize w.heap.size+1=go at *
 obtain ⟨gk,hg0⟩:∃ g,g=w.heap.size:=⟨_,rfl⟩
 rw [← hg0] at Nk ⊢
 rw [← hg0] at Dko
 have Ek:w.heap.size≤gk:=by omega
 clear hg0
 have Fk:=Lib.hid Nk
 have Fo:=Lib.hid No
 have BW:=Lib.hid NB
 clear NB Nk No
 refine (Hc1.out _).mono ?_
 rintro e v2 ⟨rfl,z2⟩
 have Nk:=Lib.hid (Fk.out.on z2)
 have No:=Lib.hid (Fo.out.on z2)
 have NB:=Lib.hid (bel_tr BW.out z2)
 clear BW z2 Fk Fo
 have Fk:=Nk
 have Fo:=No
 have BW:=NB
 clear NB Nk No
 obtain ⟨gt,hgt⟩:∃ g,g=v2.heap.size:=⟨_,rfl⟩
 have Lo:=Fo.out.lt
 have co0:v2.cell? ⟨go,0,none⟩=some (.nilFunc):=Fo.out.cell 0
 have co1:v2.cell? ⟨go,1,none⟩=some (.nilFunc):=Fo.out.cell 1
 have co2:v2.cell? ⟨go,2,none⟩=some (.nilFunc):=Fo.out.cell 2
 have fo0:v2.frozen? ⟨go,0,none⟩=false:=Fo.out.frozen 0
 have fo1:v2.frozen? ⟨go,1,none⟩=false:=Fo.out.frozen 1
 have fo2:v2.frozen? ⟨go,2,none⟩=false:=Fo.out.frozen 2
 go_wp2_with fail
 clear Lo co0 co1 co2 fo0 fo1 fo2
 simp only [← hgt]
 have hsz:(((v2.setCell ⟨go,0,none⟩ (.func (.func 77) #[] #[.pointer (some ⟨gk,0,none⟩)])).setCell ⟨go,1,none⟩ (.func (.func 78) #[] #[.pointer (some ⟨gt+1,0,none⟩)])).setCell ⟨go,2,none⟩ (.func (.func 79) #[] #[.pointer (some ⟨gt+1,0,none⟩)])).heap.size=gt:=by rw [hgt];simp [World.setCell]
 generalize hW3:(((v2.setCell ⟨go,0,none⟩ (.func (.func 77) #[] #[.pointer (some ⟨gk,0,none⟩)])).setCell ⟨go,1,none⟩ (.func (.func 78) #[] #[.pointer (some ⟨gt+1,0,none⟩)])).setCell ⟨go,2,none⟩ (.func (.func 79) #[] #[.pointer (some ⟨gt+1,0,none⟩)]))=W3 at *
 have Nk_0:=at_of hW3 ((Fk.out).far3 Dko _ _ _)
 have No_0:=at_of hW3 ((Fo.out).put3 _ _ _)
 have NB_0:=gr_of hW3 ((((BW.out).setCell Eo _).setCell Eo _).setCell Eo _)
 have Nk:=Nk_0
 have No:=No_0
 have NB:=NB_0
 clear BW Fk Fo Nk_0 No_0 NB_0
 clear hW3
 have Fk:=Lib.hid Nk
 have Fo:=Lib.hid No
 have BW:=Lib.hid NB
 clear NB Nk No
 clear hgt
 subst hsz
 generalize hW4:((W3.alloc (.cells (ncs T) 24)).alloc (.cells #[.func (.func 76) #[] #[.pointer (some ⟨W3.heap.size,0,none⟩),.pointer (some ⟨gk,0,none⟩)]] 73))=W4 at *
 have Nt:At W4 (W3.heap.size) _ _:=at_of hW4 ((At.at_ _ _ _ _ (by simp)).alloc _)
 have Et:w.heap.size≤W3.heap.size:=by have:=BW.out.size;omega
 have Dkt:gk≠W3.heap.size:=by have:=Fk.out.lt;omega
 have Dot:go≠W3.heap.size:=by have:=Fo.out.lt;omega
 have Nr:At W4 (W3.heap.size+1) _ _:=at_of hW4 (At.at_ _ _ _ _ (by simp))
 have Er:w.heap.size≤W3.heap.size+1:=by have:=BW.out.size;omega
 have Dkr:gk≠W3.heap.size+1:=by have:=Fk.out.lt;omega
 have Dor:go≠W3.heap.size+1:=by have:=Fo.out.lt;omega
 have Dtr:W3.heap.size≠W3.heap.size+1:=by omega
 have Nk:=at_of hW4 ((Fk.out.alloc _).alloc _)
 have No:=at_of hW4 ((Fo.out.alloc _).alloc _)
 have NB:=gr_of hW4 (gr_alloc (gr_alloc BW.out _) _)
 clear BW Fk Fo
 clear hW4
 generalize W3.heap.size+1=gr at *
 generalize W3.heap.size=gt at *
 have Fk:=Lib.hid Nk
 have Fo:=Lib.hid No
 have Ft:=Lib.hid Nt
 have Fr:=Lib.hid Nr
 have BW:=Lib.hid NB
 clear NB Nk No Nt Nr
 have Lo:=Fo.out.lt
 have co0:W4.cell? ⟨go,0,none⟩=some (.func (.func 77) #[] #[.pointer (some ⟨gk,0,none⟩)]):=Fo.out.cell 0
 have co1:W4.cell? ⟨go,1,none⟩=some (.func (.func 78) #[] #[.pointer (some ⟨gr,0,none⟩)]):=Fo.out.cell 1
 have co2:W4.cell? ⟨go,2,none⟩=some (.func (.func 79) #[] #[.pointer (some ⟨gr,0,none⟩)]):=Fo.out.cell 2
 refine bodyPost_ret (v:=.agg #[.func (.func 77) #[] #[.pointer (some ⟨gk,0,none⟩)],.func (.func 78) #[] #[.pointer (some ⟨gr,0,none⟩)],.func (.func 79) #[] #[.pointer (some ⟨gr,0,none⟩)]]) (by simp [results,Tryd.results62,go_sem, *]) rfl ⟨gk,gt,gr,rfl,Fk.out,Ft.out,Fr.out,Ek,Et,Er,BW.out⟩

set_option maxRecDepth 100000 in
set_option maxHeartbeats 8000000 in
theorem plainway_walk (M:Nat) (w:World):Calls Tryd.prog 63 #[num M] w fun e w'=>∃ gk:Nat,e=.returned (.agg #[.func (.func 80) #[] #[],.func (.func 80) #[] #[],.func (.func 81) #[] #[.pointer (some ⟨gk,0,none⟩)]])∧At w' gk 24 (ncs M)∧w.heap.size≤gk∧Below w.heap.size w w':=by
 have hmf:∀ (fn:Fn) (first cap:Array Value) (w:World),(Instr.makeFunc fn first cap).run Tryd.prog w=.ok (.func fn first cap) w:=fun _ _ _ _=>rfl
 go_enter Tryd.func63,Tryd.ntmps63
 go_wp2_with fail
 have NB:Below w.heap.size w ((w.alloc (.cells (ncs M) 24)).alloc (.cells #[.func (.func 80) #[] #[],.func (.func 80) #[] #[],.func (.func 81) #[] #[.pointer (some ⟨w.heap.size,0,none⟩)]] 75)):=gr_alloc (gr_alloc (Below.refl _ _) _) _
 refine bodyPost_ret (v:=.agg #[.func (.func 80) #[] #[],.func (.func 80) #[] #[],.func (.func 81) #[] #[.pointer (some ⟨w.heap.size,0,none⟩)]]) (by simp [results,Tryd.results63,go_sem, *]) rfl ⟨w.heap.size,rfl,(At.new w _ _).alloc _,Nat.le_refl _,NB⟩

set_option maxRecDepth 100000 in
set_option maxHeartbeats 8000000 in
theorem wayby_odd (M T:Nat)
  (c1:∀ w,Calls Tryd.prog 51 #[num M,.int .i64 0] w fun e w'=>e=.returned (.int .u64 1)∧Below w.heap.size w w')
  (C2:∀ w,Calls Tryd.prog 75 #[num M] w fun e w'=>e=.returned (num T)∧Below w.heap.size w w')
  (w:World):Calls Tryd.prog 49 #[num M] w fun e w'=>∃ gk gt gr:Nat,e=.returned (.agg #[.func (.func 77) #[] #[.pointer (some ⟨gk,0,none⟩)],.func (.func 78) #[] #[.pointer (some ⟨gr,0,none⟩)],.func (.func 79) #[] #[.pointer (some ⟨gr,0,none⟩)]])∧At w' gk 24 (ncs M)∧At w' gt 24 (ncs T)∧At w' gr 73 #[.func (.func 76) #[] #[.pointer (some ⟨gt,0,none⟩),.pointer (some ⟨gk,0,none⟩)]]∧w.heap.size≤gk∧w.heap.size≤gt∧w.heap.size≤gr∧Below w.heap.size w w':=by
 have Hc1:=Lib.hid c1
 have HC2:=Lib.hid C2
 clear c1 C2
 go_enter Tryd.func49,Tryd.ntmps49
 go_wp2_with fail
 have BW:=Lib.hid (Below.refl w.heap.size w)
 generalize hW1:((w.alloc (.cells (ncs M) 24)).alloc (.cells #[.nilFunc,.nilFunc,.nilFunc] 75))=W1 at *
 have Nm:At W1 (w.heap.size) _ _:=at_of hW1 ((At.at_ _ _ _ _ (by simp)).alloc _)
 have No:At W1 (w.heap.size+1) _ _:=at_of hW1 (At.at_ _ _ _ _ (by simp))
 have Eo:w.heap.size≤w.heap.size+1:=by have:=BW.out.size;omega
 have Dmo:w.heap.size≠w.heap.size+1:=by omega
 have NB:=gr_of hW1 (gr_alloc (gr_alloc BW.out _) _)
 clear BW
 clear hW1
 generalize w.heap.size+1=go at *
 obtain ⟨gm,hg0⟩:∃ g,g=w.heap.size:=⟨_,rfl⟩
 rw [← hg0] at Nm ⊢
 rw [← hg0] at Dmo
 clear hg0
 have Fm:=Lib.hid Nm
 have Fo:=Lib.hid No
 have BW:=Lib.hid NB
 clear NB Nm No
 refine (Hc1.out _).mono ?_
 rintro e v2 ⟨rfl,z2⟩
 have Nm:=Lib.hid (Fm.out.on z2)
 have No:=Lib.hid (Fo.out.on z2)
 have NB:=Lib.hid (bel_tr BW.out z2)
 clear BW z2 Fm Fo
 have Fm:=Nm
 have Fo:=No
 have BW:=NB
 clear NB Nm No
 have Lm:=Fm.out.lt
 obtain ⟨cm0,cm1,cm2,cm3⟩:=cel4 Fm.out
 go_wp2_with fail
 clear Lm cm0 cm1 cm2 cm3
 refine (oddway_walk M T HC2.out _).mono ?_
 rintro e v3 ⟨gk,gt,gr,rfl,Nk,Nt,Nr,Zk,Zt,Zr,z3⟩
 have Dmk:gm≠gk:=by have:=Fm.out.lt;omega
 have Dok:go≠gk:=by have:=Fo.out.lt;omega
 have Ek:w.heap.size≤gk:=Nat.le_trans BW.out.size Zk
 have Dmt:gm≠gt:=by have:=Fm.out.lt;omega
 have Dot:go≠gt:=by have:=Fo.out.lt;omega
 have Et:w.heap.size≤gt:=Nat.le_trans BW.out.size Zt
 have Dmr:gm≠gr:=by have:=Fm.out.lt;omega
 have Dor:go≠gr:=by have:=Fo.out.lt;omega
 have Er:w.heap.size≤gr:=Nat.le_trans BW.out.size Zr
 have Fm:=Lib.hid (Fm.out.on z3)
 have Fo:=Lib.hid (Fo.out.on z3)
 have Fk:=Lib.hid Nk
 have Ft:=Lib.hid Nt
 have Fr:=Lib.hid Nr
 have NB:=Lib.hid (bel_tr BW.out z3)
 clear BW z3 Nk Zk Nt Zt Nr Zr
 have BW:=NB
 clear NB
 have Lo:=Fo.out.lt
 have co0:v3.cell? ⟨go,0,none⟩=some (.nilFunc):=Fo.out.cell 0
 have co1:v3.cell? ⟨go,1,none⟩=some (.nilFunc):=Fo.out.cell 1
 have co2:v3.cell? ⟨go,2,none⟩=some (.nilFunc):=Fo.out.cell 2
 have fo0:v3.frozen? ⟨go,0,none⟩=false:=Fo.out.frozen 0
 have fo1:v3.frozen? ⟨go,1,none⟩=false:=Fo.out.frozen 1
 have fo2:v3.frozen? ⟨go,2,none⟩=false:=Fo.out.frozen 2
 go_wp2_with fail
 generalize hW4:(((v3.setCell ⟨go,0,none⟩ (.func (.func 77) #[] #[.pointer (some ⟨gk,0,none⟩)])).setCell ⟨go,1,none⟩ (.func (.func 78) #[] #[.pointer (some ⟨gr,0,none⟩)])).setCell ⟨go,2,none⟩ (.func (.func 79) #[] #[.pointer (some ⟨gr,0,none⟩)]))=W4 at *
 clear Lo co0 co1 co2 fo0 fo1 fo2
 have Nm_0:=at_of hW4 ((Fm.out).far3 Dmo _ _ _)
 have No_0:=at_of hW4 ((Fo.out).put3 _ _ _)
 have Nk_0:=at_of hW4 ((Fk.out).far3 Dok.symm _ _ _)
 have Nt_0:=at_of hW4 ((Ft.out).far3 Dot.symm _ _ _)
 have Nr_0:=at_of hW4 ((Fr.out).far3 Dor.symm _ _ _)
 have NB_0:=gr_of hW4 ((((BW.out).setCell Eo _).setCell Eo _).setCell Eo _)
 have Nm:=Nm_0
 have No:=No_0
 have Nk:=Nk_0
 have Nt:=Nt_0
 have Nr:=Nr_0
 have NB:=NB_0
 clear BW Fm Fo Fk Ft Fr Nm_0 No_0 Nk_0 Nt_0 Nr_0 NB_0
 clear hW4
 have Fm:=Lib.hid Nm
 have Fo:=Lib.hid No
 have Fk:=Lib.hid Nk
 have Ft:=Lib.hid Nt
 have Fr:=Lib.hid Nr
 have BW:=Lib.hid NB
 clear NB Nm No Nk Nt Nr
 have Lo:=Fo.out.lt
 have co0:W4.cell? ⟨go,0,none⟩=some (.func (.func 77) #[] #[.pointer (some ⟨gk,0,none⟩)]):=Fo.out.cell 0
 have co1:W4.cell? ⟨go,1,none⟩=some (.func (.func 78) #[] #[.pointer (some ⟨gr,0,none⟩)]):=Fo.out.cell 1
 have co2:W4.cell? ⟨go,2,none⟩=some (.func (.func 79) #[] #[.pointer (some ⟨gr,0,none⟩)]):=Fo.out.cell 2
 refine bodyPost_ret (v:=.agg #[.func (.func 77) #[] #[.pointer (some ⟨gk,0,none⟩)],.func (.func 78) #[] #[.pointer (some ⟨gr,0,none⟩)],.func (.func 79) #[] #[.pointer (some ⟨gr,0,none⟩)]]) (by simp [results,Tryd.results49,go_sem, *]) rfl ⟨gk,gt,gr,rfl,Fk.out,Ft.out,Fr.out,Ek,Et,Er,BW.out⟩

set_option maxRecDepth 100000 in
set_option maxHeartbeats 8000000 in
theorem wayby_plain (M:Nat)
  (c1:∀ w,Calls Tryd.prog 51 #[num M,.int .i64 0] w fun e w'=>e=.returned (.int .u64 0)∧Below w.heap.size w w')
  (w:World):Calls Tryd.prog 49 #[num M] w fun e w'=>∃ gk:Nat,e=.returned (.agg #[.func (.func 80) #[] #[],.func (.func 80) #[] #[],.func (.func 81) #[] #[.pointer (some ⟨gk,0,none⟩)]])∧At w' gk 24 (ncs M)∧w.heap.size≤gk∧Below w.heap.size w w':=by
 have Hc1:=Lib.hid c1
 clear c1
 go_enter Tryd.func49,Tryd.ntmps49
 go_wp2_with fail
 have BW:=Lib.hid (Below.refl w.heap.size w)
 generalize hW1:((w.alloc (.cells (ncs M) 24)).alloc (.cells #[.nilFunc,.nilFunc,.nilFunc] 75))=W1 at *
 have Nm:At W1 (w.heap.size) _ _:=at_of hW1 ((At.at_ _ _ _ _ (by simp)).alloc _)
 have No:At W1 (w.heap.size+1) _ _:=at_of hW1 (At.at_ _ _ _ _ (by simp))
 have Eo:w.heap.size≤w.heap.size+1:=by have:=BW.out.size;omega
 have Dmo:w.heap.size≠w.heap.size+1:=by omega
 have NB:=gr_of hW1 (gr_alloc (gr_alloc BW.out _) _)
 clear BW
 clear hW1
 generalize w.heap.size+1=go at *
 obtain ⟨gm,hg0⟩:∃ g,g=w.heap.size:=⟨_,rfl⟩
 rw [← hg0] at Nm ⊢
 rw [← hg0] at Dmo
 clear hg0
 have Fm:=Lib.hid Nm
 have Fo:=Lib.hid No
 have BW:=Lib.hid NB
 clear NB Nm No
 refine (Hc1.out _).mono ?_
 rintro e v2 ⟨rfl,z2⟩
 have Nm:=Lib.hid (Fm.out.on z2)
 have No:=Lib.hid (Fo.out.on z2)
 have NB:=Lib.hid (bel_tr BW.out z2)
 clear BW z2 Fm Fo
 have Fm:=Nm
 have Fo:=No
 have BW:=NB
 clear NB Nm No
 have Lm:=Fm.out.lt
 obtain ⟨cm0,cm1,cm2,cm3⟩:=cel4 Fm.out
 go_wp2_with fail
 clear Lm cm0 cm1 cm2 cm3
 refine (plainway_walk M _).mono ?_
 rintro e v3 ⟨gk,rfl,Nk,Zk,z3⟩
 have Dmk:gm≠gk:=by have:=Fm.out.lt;omega
 have Dok:go≠gk:=by have:=Fo.out.lt;omega
 have Ek:w.heap.size≤gk:=Nat.le_trans BW.out.size Zk
 have Fm:=Lib.hid (Fm.out.on z3)
 have Fo:=Lib.hid (Fo.out.on z3)
 have Fk:=Lib.hid Nk
 have NB:=Lib.hid (bel_tr BW.out z3)
 clear BW z3 Nk Zk
 have BW:=NB
 clear NB
 have Lo:=Fo.out.lt
 have co0:v3.cell? ⟨go,0,none⟩=some (.nilFunc):=Fo.out.cell 0
 have co1:v3.cell? ⟨go,1,none⟩=some (.nilFunc):=Fo.out.cell 1
 have co2:v3.cell? ⟨go,2,none⟩=some (.nilFunc):=Fo.out.cell 2
 have fo0:v3.frozen? ⟨go,0,none⟩=false:=Fo.out.frozen 0
 have fo1:v3.frozen? ⟨go,1,none⟩=false:=Fo.out.frozen 1
 have fo2:v3.frozen? ⟨go,2,none⟩=false:=Fo.out.frozen 2
 go_wp2_with fail
 generalize hW4:(((v3.setCell ⟨go,0,none⟩ (.func (.func 80) #[] #[])).setCell ⟨go,1,none⟩ (.func (.func 80) #[] #[])).setCell ⟨go,2,none⟩ (.func (.func 81) #[] #[.pointer (some ⟨gk,0,none⟩)]))=W4 at *
 clear Lo co0 co1 co2 fo0 fo1 fo2
 have Nm_0:=at_of hW4 ((Fm.out).far3 Dmo _ _ _)
 have No_0:=at_of hW4 ((Fo.out).put3 _ _ _)
 have Nk_0:=at_of hW4 ((Fk.out).far3 Dok.symm _ _ _)
 have NB_0:=gr_of hW4 ((((BW.out).setCell Eo _).setCell Eo _).setCell Eo _)
 have Nm:=Nm_0
 have No:=No_0
 have Nk:=Nk_0
 have NB:=NB_0
 clear BW Fm Fo Fk Nm_0 No_0 Nk_0 NB_0
 clear hW4
 have Fm:=Lib.hid Nm
 have Fo:=Lib.hid No
 have Fk:=Lib.hid Nk
 have BW:=Lib.hid NB
 clear NB Nm No Nk
 have Lo:=Fo.out.lt
 have co0:W4.cell? ⟨go,0,none⟩=some (.func (.func 80) #[] #[]):=Fo.out.cell 0
 have co1:W4.cell? ⟨go,1,none⟩=some (.func (.func 80) #[] #[]):=Fo.out.cell 1
 have co2:W4.cell? ⟨go,2,none⟩=some (.func (.func 81) #[] #[.pointer (some ⟨gk,0,none⟩)]):=Fo.out.cell 2
 refine bodyPost_ret (v:=.agg #[.func (.func 80) #[] #[],.func (.func 80) #[] #[],.func (.func 81) #[] #[.pointer (some ⟨gk,0,none⟩)]]) (by simp [results,Tryd.results49,go_sem, *]) rfl ⟨gk,rfl,Fk.out,Ek,BW.out⟩

end Go.Proofs.YtlphnfajhpkleaaDoor

/-
 mods: a power is gathered.
-/
namespace Go.Proofs.YtlphnfajhpkleaaDoor
open Go.RowKit
set_option linter.unusedSimpArgs false
set_option linter.unusedVariables false
attribute [local go_sem ↓] Go.wp_at_zero Go.wp_at_succ

set_option maxRecDepth 100000 in
set_option maxHeartbeats 8000000 in
theorem gather0_odd (gy gp gf gk gt gr X f Y:Nat) (w:World) (hyp:gy≠gp) (hfp:gf≠gp)
  (c1:∀ v,Kept gp w v→Calls Tryd.prog 79 #[num X,num X,.pointer (some ⟨gr,0,none⟩)] v fun e w'=>e=.returned (num Y)∧Below v.heap.size v w')
  (Py:At w gy 75 #[.func (.func 77) #[] #[.pointer (some ⟨gk,0,none⟩)],.func (.func 78) #[] #[.pointer (some ⟨gr,0,none⟩)],.func (.func 79) #[] #[.pointer (some ⟨gr,0,none⟩)]]) (Pp:At w gp 24 (ncs X)) (Pf:At w gf 24 (ncs f)) :
  Calls Tryd.prog 50 #[.int .u64 0,.pointer (some ⟨gy,0,none⟩),.pointer (some ⟨gp,0,none⟩),.pointer (some ⟨gf,0,none⟩)] w fun e w'=>e=.returned (.tuple #[])∧At w' gp 24 (ncs Y)∧Kept gp w w':=by
 have Hc1:=Lib.hid c1;have Fy:=Lib.hid Py;have Fp:=Lib.hid Pp;have Ff:=Lib.hid Pf
 clear c1 Py Pp Pf
 have Ly:=Fy.out.lt
 have cy0:w.cell? ⟨gy,0,none⟩=some (.func (.func 77) #[] #[.pointer (some ⟨gk,0,none⟩)]):=Fy.out.cell 0
 have cy1:w.cell? ⟨gy,1,none⟩=some (.func (.func 78) #[] #[.pointer (some ⟨gr,0,none⟩)]):=Fy.out.cell 1
 have cy2:w.cell? ⟨gy,2,none⟩=some (.func (.func 79) #[] #[.pointer (some ⟨gr,0,none⟩)]):=Fy.out.cell 2
 have Lp:=Fp.out.lt
 obtain ⟨cp0,cp1,cp2,cp3⟩:=cel4 Fp.out
 go_enter Tryd.func50,Tryd.ntmps50
 go_wp2_with fail
 clear Ly cy0 cy1 cy2 Lp cp0 cp1 cp2 cp3
 refine (Hc1.out _ (Kept.ofBelow (Below.refl _ _))).mono ?_
 rintro e v ⟨rfl,z⟩
 have Ny:=Lib.hid (Fy.out.on z);have Np:=Lib.hid (Fp.out.on z);have Nf:=Lib.hid (Ff.out.on z)
 clear Fy Fp Ff
 have Fy:=Ny;have Fp:=Np;have Ff:=Nf
 clear Ny Np Nf
 have Lp:=Fp.out.lt
 obtain ⟨cp0,cp1,cp2,cp3⟩:=cel4 Fp.out
 obtain ⟨fp0,fp1,fp2,fp3⟩:=frz4 Fp.out
 go_wp2_with fail
 go_end0
 exact ⟨rfl,put4_at Fp.out (.int .u64 (wd Y 0:Nat)) (.int .u64 (wd Y 1:Nat)) (.int .u64 (wd Y 2:Nat)) (.int .u64 (wd Y 3:Nat)),(Kept.ofBelow z).trans (Kept.put4 v gp (.int .u64 (wd Y 0:Nat)) (.int .u64 (wd Y 1:Nat)) (.int .u64 (wd Y 2:Nat)) (.int .u64 (wd Y 3:Nat)))⟩

set_option maxRecDepth 100000 in
set_option maxHeartbeats 8000000 in
theorem gather1_odd (gy gp gf gk gt gr X f Y Z:Nat) (w:World) (hyp:gy≠gp) (hfp:gf≠gp)
  (c1:∀ v,Kept gp w v→Calls Tryd.prog 79 #[num X,num X,.pointer (some ⟨gr,0,none⟩)] v fun e w'=>e=.returned (num Y)∧Below v.heap.size v w')
  (c2:∀ v,Kept gp w v→Calls Tryd.prog 79 #[num Y,num f,.pointer (some ⟨gr,0,none⟩)] v fun e w'=>e=.returned (num Z)∧Below v.heap.size v w')
  (Py:At w gy 75 #[.func (.func 77) #[] #[.pointer (some ⟨gk,0,none⟩)],.func (.func 78) #[] #[.pointer (some ⟨gr,0,none⟩)],.func (.func 79) #[] #[.pointer (some ⟨gr,0,none⟩)]]) (Pp:At w gp 24 (ncs X)) (Pf:At w gf 24 (ncs f)) :
  Calls Tryd.prog 50 #[.int .u64 1,.pointer (some ⟨gy,0,none⟩),.pointer (some ⟨gp,0,none⟩),.pointer (some ⟨gf,0,none⟩)] w fun e w'=>e=.returned (.tuple #[])∧At w' gp 24 (ncs Z)∧Kept gp w w':=by
 have Hc1:=Lib.hid c1;have Fy:=Lib.hid Py;have Fp:=Lib.hid Pp;have Ff:=Lib.hid Pf
 clear c1 Py Pp Pf
 have Hc2:=Lib.hid c2
 clear c2
 have Ly:=Fy.out.lt
 have cy0:w.cell? ⟨gy,0,none⟩=some (.func (.func 77) #[] #[.pointer (some ⟨gk,0,none⟩)]):=Fy.out.cell 0
 have cy1:w.cell? ⟨gy,1,none⟩=some (.func (.func 78) #[] #[.pointer (some ⟨gr,0,none⟩)]):=Fy.out.cell 1
 have cy2:w.cell? ⟨gy,2,none⟩=some (.func (.func 79) #[] #[.pointer (some ⟨gr,0,none⟩)]):=Fy.out.cell 2
 have Lp:=Fp.out.lt
 obtain ⟨cp0,cp1,cp2,cp3⟩:=cel4 Fp.out
 go_enter Tryd.func50,Tryd.ntmps50
 go_wp2_with fail
 clear Ly cy0 cy1 cy2 Lp cp0 cp1 cp2 cp3
 refine (Hc1.out _ (Kept.ofBelow (Below.refl _ _))).mono ?_
 rintro e v ⟨rfl,z⟩
 have Ny:=Lib.hid (Fy.out.on z);have Np:=Lib.hid (Fp.out.on z);have Nf:=Lib.hid (Ff.out.on z)
 clear Fy Fp Ff
 have Fy:=Ny;have Fp:=Np;have Ff:=Nf
 clear Ny Np Nf
 have Lp:=Fp.out.lt
 obtain ⟨cp0,cp1,cp2,cp3⟩:=cel4 Fp.out
 obtain ⟨fp0,fp1,fp2,fp3⟩:=frz4 Fp.out
 have Ly:=Fy.out.lt
 have cy0:v.cell? ⟨gy,0,none⟩=some (.func (.func 77) #[] #[.pointer (some ⟨gk,0,none⟩)]):=Fy.out.cell 0
 have cy1:v.cell? ⟨gy,1,none⟩=some (.func (.func 78) #[] #[.pointer (some ⟨gr,0,none⟩)]):=Fy.out.cell 1
 have cy2:v.cell? ⟨gy,2,none⟩=some (.func (.func 79) #[] #[.pointer (some ⟨gr,0,none⟩)]):=Fy.out.cell 2
 have Lf:=Ff.out.lt
 obtain ⟨cf0,cf1,cf2,cf3⟩:=cel4 Ff.out
 go_wp2_with fail
 clear Ly cy0 cy1 cy2 Lp cp0 cp1 cp2 cp3 fp0 fp1 fp2 fp3 Lf cf0 cf1 cf2 cf3
 have NK:Kept gp w (put4 v gp (.int .u64 (wd Y 0:Nat)) (.int .u64 (wd Y 1:Nat)) (.int .u64 (wd Y 2:Nat)) (.int .u64 (wd Y 3:Nat))):=(Kept.ofBelow z).trans (Kept.put4 v gp (.int .u64 (wd Y 0:Nat)) (.int .u64 (wd Y 1:Nat)) (.int .u64 (wd Y 2:Nat)) (.int .u64 (wd Y 3:Nat)))
 have Np:=put4_at Fp.out (.int .u64 (wd Y 0:Nat)) (.int .u64 (wd Y 1:Nat)) (.int .u64 (wd Y 2:Nat)) (.int .u64 (wd Y 3:Nat))
 have Ny:=put4_far Fy.out hyp (.int .u64 (wd Y 0:Nat)) (.int .u64 (wd Y 1:Nat)) (.int .u64 (wd Y 2:Nat)) (.int .u64 (wd Y 3:Nat))
 have Nf:=put4_far Ff.out hfp (.int .u64 (wd Y 0:Nat)) (.int .u64 (wd Y 1:Nat)) (.int .u64 (wd Y 2:Nat)) (.int .u64 (wd Y 3:Nat))
 clear Fy Fp Ff z
 refine (Hc2.out _ NK).mono ?_
 rintro e u ⟨rfl,z⟩
 have Fp:=Lib.hid (Np.on z)
 have NU:=NK.trans (Kept.ofBelow z)
 clear Np Ny Nf NK z
 have Lp:=Fp.out.lt
 obtain ⟨cp0,cp1,cp2,cp3⟩:=cel4 Fp.out
 obtain ⟨fp0,fp1,fp2,fp3⟩:=frz4 Fp.out
 go_wp2_with fail
 go_end0
 exact ⟨rfl,put4_at Fp.out (.int .u64 (wd Z 0:Nat)) (.int .u64 (wd Z 1:Nat)) (.int .u64 (wd Z 2:Nat)) (.int .u64 (wd Z 3:Nat)),NU.trans (Kept.put4 u gp (.int .u64 (wd Z 0:Nat)) (.int .u64 (wd Z 1:Nat)) (.int .u64 (wd Z 2:Nat)) (.int .u64 (wd Z 3:Nat)))⟩

set_option maxRecDepth 100000 in
set_option maxHeartbeats 8000000 in
theorem gather0_plain (gy gp gf gk X f Y:Nat) (w:World) (hyp:gy≠gp) (hfp:gf≠gp)
  (c1:∀ v,Kept gp w v→Calls Tryd.prog 81 #[num X,num X,.pointer (some ⟨gk,0,none⟩)] v fun e w'=>e=.returned (num Y)∧Below v.heap.size v w')
  (Py:At w gy 75 #[.func (.func 80) #[] #[],.func (.func 80) #[] #[],.func (.func 81) #[] #[.pointer (some ⟨gk,0,none⟩)]]) (Pp:At w gp 24 (ncs X)) (Pf:At w gf 24 (ncs f)) :
  Calls Tryd.prog 50 #[.int .u64 0,.pointer (some ⟨gy,0,none⟩),.pointer (some ⟨gp,0,none⟩),.pointer (some ⟨gf,0,none⟩)] w fun e w'=>e=.returned (.tuple #[])∧At w' gp 24 (ncs Y)∧Kept gp w w':=by
 have Hc1:=Lib.hid c1;have Fy:=Lib.hid Py;have Fp:=Lib.hid Pp;have Ff:=Lib.hid Pf
 clear c1 Py Pp Pf
 have Ly:=Fy.out.lt
 have cy0:w.cell? ⟨gy,0,none⟩=some (.func (.func 80) #[] #[]):=Fy.out.cell 0
 have cy1:w.cell? ⟨gy,1,none⟩=some (.func (.func 80) #[] #[]):=Fy.out.cell 1
 have cy2:w.cell? ⟨gy,2,none⟩=some (.func (.func 81) #[] #[.pointer (some ⟨gk,0,none⟩)]):=Fy.out.cell 2
 have Lp:=Fp.out.lt
 obtain ⟨cp0,cp1,cp2,cp3⟩:=cel4 Fp.out
 go_enter Tryd.func50,Tryd.ntmps50
 go_wp2_with fail
 clear Ly cy0 cy1 cy2 Lp cp0 cp1 cp2 cp3
 refine (Hc1.out _ (Kept.ofBelow (Below.refl _ _))).mono ?_
 rintro e v ⟨rfl,z⟩
 have Ny:=Lib.hid (Fy.out.on z);have Np:=Lib.hid (Fp.out.on z);have Nf:=Lib.hid (Ff.out.on z)
 clear Fy Fp Ff
 have Fy:=Ny;have Fp:=Np;have Ff:=Nf
 clear Ny Np Nf
 have Lp:=Fp.out.lt
 obtain ⟨cp0,cp1,cp2,cp3⟩:=cel4 Fp.out
 obtain ⟨fp0,fp1,fp2,fp3⟩:=frz4 Fp.out
 go_wp2_with fail
 go_end0
 exact ⟨rfl,put4_at Fp.out (.int .u64 (wd Y 0:Nat)) (.int .u64 (wd Y 1:Nat)) (.int .u64 (wd Y 2:Nat)) (.int .u64 (wd Y 3:Nat)),(Kept.ofBelow z).trans (Kept.put4 v gp (.int .u64 (wd Y 0:Nat)) (.int .u64 (wd Y 1:Nat)) (.int .u64 (wd Y 2:Nat)) (.int .u64 (wd Y 3:Nat)))⟩

set_option maxRecDepth 100000 in
set_option maxHeartbeats 8000000 in
theorem gather1_plain (gy gp gf gk X f Y Z:Nat) (w:World) (hyp:gy≠gp) (hfp:gf≠gp)
  (c1:∀ v,Kept gp w v→Calls Tryd.prog 81 #[num X,num X,.pointer (some ⟨gk,0,none⟩)] v fun e w'=>e=.returned (num Y)∧Below v.heap.size v w')
  (c2:∀ v,Kept gp w v→Calls Tryd.prog 81 #[num Y,num f,.pointer (some ⟨gk,0,none⟩)] v fun e w'=>e=.returned (num Z)∧Below v.heap.size v w')
  (Py:At w gy 75 #[.func (.func 80) #[] #[],.func (.func 80) #[] #[],.func (.func 81) #[] #[.pointer (some ⟨gk,0,none⟩)]]) (Pp:At w gp 24 (ncs X)) (Pf:At w gf 24 (ncs f)) :
  Calls Tryd.prog 50 #[.int .u64 1,.pointer (some ⟨gy,0,none⟩),.pointer (some ⟨gp,0,none⟩),.pointer (some ⟨gf,0,none⟩)] w fun e w'=>e=.returned (.tuple #[])∧At w' gp 24 (ncs Z)∧Kept gp w w':=by
 have Hc1:=Lib.hid c1;have Fy:=Lib.hid Py;have Fp:=Lib.hid Pp;have Ff:=Lib.hid Pf
 clear c1 Py Pp Pf
 have Hc2:=Lib.hid c2
 clear c2
 have Ly:=Fy.out.lt
 have cy0:w.cell? ⟨gy,0,none⟩=some (.func (.func 80) #[] #[]):=Fy.out.cell 0
 have cy1:w.cell? ⟨gy,1,none⟩=some (.func (.func 80) #[] #[]):=Fy.out.cell 1
 have cy2:w.cell? ⟨gy,2,none⟩=some (.func (.func 81) #[] #[.pointer (some ⟨gk,0,none⟩)]):=Fy.out.cell 2
 have Lp:=Fp.out.lt
 obtain ⟨cp0,cp1,cp2,cp3⟩:=cel4 Fp.out
 go_enter Tryd.func50,Tryd.ntmps50
 go_wp2_with fail
 clear Ly cy0 cy1 cy2 Lp cp0 cp1 cp2 cp3
 refine (Hc1.out _ (Kept.ofBelow (Below.refl _ _))).mono ?_
 rintro e v ⟨rfl,z⟩
 have Ny:=Lib.hid (Fy.out.on z);have Np:=Lib.hid (Fp.out.on z);have Nf:=Lib.hid (Ff.out.on z)
 clear Fy Fp Ff
 have Fy:=Ny;have Fp:=Np;have Ff:=Nf
 clear Ny Np Nf
 have Lp:=Fp.out.lt
 obtain ⟨cp0,cp1,cp2,cp3⟩:=cel4 Fp.out
 obtain ⟨fp0,fp1,fp2,fp3⟩:=frz4 Fp.out
 have Ly:=Fy.out.lt
 have cy0:v.cell? ⟨gy,0,none⟩=some (.func (.func 80) #[] #[]):=Fy.out.cell 0
 have cy1:v.cell? ⟨gy,1,none⟩=some (.func (.func 80) #[] #[]):=Fy.out.cell 1
 have cy2:v.cell? ⟨gy,2,none⟩=some (.func (.func 81) #[] #[.pointer (some ⟨gk,0,none⟩)]):=Fy.out.cell 2
 have Lf:=Ff.out.lt
 obtain ⟨cf0,cf1,cf2,cf3⟩:=cel4 Ff.out
 go_wp2_with fail
 clear Ly cy0 cy1 cy2 Lp cp0 cp1 cp2 cp3 fp0 fp1 fp2 fp3 Lf cf0 cf1 cf2 cf3
 have NK:Kept gp w (put4 v gp (.int .u64 (wd Y 0:Nat)) (.int .u64 (wd Y 1:Nat)) (.int .u64 (wd Y 2:Nat)) (.int .u64 (wd Y 3:Nat))):=(Kept.ofBelow z).trans (Kept.put4 v gp (.int .u64 (wd Y 0:Nat)) (.int .u64 (wd Y 1:Nat)) (.int .u64 (wd Y 2:Nat)) (.int .u64 (wd Y 3:Nat)))
 have Np:=put4_at Fp.out (.int .u64 (wd Y 0:Nat)) (.int .u64 (wd Y 1:Nat)) (.int .u64 (wd Y 2:Nat)) (.int .u64 (wd Y 3:Nat))
 have Ny:=put4_far Fy.out hyp (.int .u64 (wd Y 0:Nat)) (.int .u64 (wd Y 1:Nat)) (.int .u64 (wd Y 2:Nat)) (.int .u64 (wd Y 3:Nat))
 have Nf:=put4_far Ff.out hfp (.int .u64 (wd Y 0:Nat)) (.int .u64 (wd Y 1:Nat)) (.int .u64 (wd Y 2:Nat)) (.int .u64 (wd Y 3:Nat))
 clear Fy Fp Ff z
 refine (Hc2.out _ NK).mono ?_
 rintro e u ⟨rfl,z⟩
 have Fp:=Lib.hid (Np.on z)
 have NU:=NK.trans (Kept.ofBelow z)
 clear Np Ny Nf NK z
 have Lp:=Fp.out.lt
 obtain ⟨cp0,cp1,cp2,cp3⟩:=cel4 Fp.out
 obtain ⟨fp0,fp1,fp2,fp3⟩:=frz4 Fp.out
 go_wp2_with fail
 go_end0
 exact ⟨rfl,put4_at Fp.out (.int .u64 (wd Z 0:Nat)) (.int .u64 (wd Z 1:Nat)) (.int .u64 (wd Z 2:Nat)) (.int .u64 (wd Z 3:Nat)),NU.trans (Kept.put4 u gp (.int .u64 (wd Z 0:Nat)) (.int .u64 (wd Z 1:Nat)) (.int .u64 (wd Z 2:Nat)) (.int .u64 (wd Z 3:Nat)))⟩

end Go.Proofs.YtlphnfajhpkleaaDoor
