/-
 limbs.Mul: all its words,lowest first.
-/
import Derived.Laws.CopyOwn
import Derived.Lib.BitFns
import Derived.Test.YtlphnfajhpkleaaDoorMCoreH
import Derived.Test.YtlphnfajhpkleaaDoorMSmall
namespace Go.Proofs.YtlphnfajhpkleaaDoor
set_option maxRecDepth 100000
open Go.RowKit
set_option linter.unusedSimpArgs false
set_option linter.unusedVariables false
attribute [local go_sem ↓] Go.wp_at_zero Go.wp_at_succ

/-- what memory holds while Mul reckons -/
structure MW (wr:World) (w:World) (X Y:Nat) (L:List Nat):Prop where
 a:At wr w.heap.size 24 (ws (wl X))
 b:At wr (w.heap.size+1) 24 (ws (wl Y))
 low:At wr (w.heap.size+1+1) 24 (ws [0,0,0,0])
 high:At wr (w.heap.size+1+1+1) 24 (ws [0,0,0,0])
 all:At wr (w.heap.size+1+1+1+1) 107 (ws L)
 len:L.length=8
 lt:∀ x∈L,x<18446744073709551616
 bel:Below w.heap.size w wr

theorem MW.put {wr w:World} {X Y:Nat} {L:List Nat} (h:MW wr w X Y L) (k v:Nat) (hv:v<18446744073709551616) :
  MW (wr.setCell ⟨w.heap.size+1+1+1+1,k,none⟩ (.int .u64 (v:Nat))) w X Y (L.set k v):=
 ⟨h.a.far (by show _≠_;dsimp;omega) _,h.b.far (by show _≠_;dsimp;omega) _,h.low.far (by show _≠_;dsimp;omega) _,h.high.far (by show _≠_;dsimp;omega) _,by rw [← ws_set];exact h.all.set _ _,
  by rw [List.length_set];exact h.len,fun x hx=>by
   rcases List.mem_or_eq_of_mem_set hx with h1 | h1
   ·exact h.lt x h1
   ·rw [h1];exact hv,h.bel.setCell (by dsimp;omega) _⟩
theorem MW.drew {wr w:World} {X Y:Nat} {L:List Nat} (h:MW wr w X Y L):MW wr.drew w X Y L:=⟨h.a,h.b,h.low,h.high,h.all,h.len,h.lt,h.bel.drew⟩
theorem add_at (g o j:Nat):(⟨g,o,none⟩:Addr).add j=⟨g,o+j,none⟩:=by
 unfold Addr.add
 split
 ·rename_i h;rw [h];rfl
 ·rfl
theorem getD_lt {L:List Nat} {b:Nat} (h:∀ x∈L,x<b) (k:Nat) (hk:k<L.length):L.getD k 0<b:=by
 simp only [List.getD,List.getElem?_eq_getElem hk,Option.getD_some];exact h _ (List.getElem_mem _)
theorem getD_set_far (L:List Nat) (k v m:Nat) (h:k≠m):(L.set k v).getD m 0=L.getD m 0:=by
 simp only [List.getD,List.getElem?_set_ne h]

set_option maxHeartbeats 4000000 in
theorem mul_words (X Y:Nat) (hX:X<2^256) (hY:Y<2^256) (w:World) :
  Calls Tryd.prog 61 #[num X,num Y] w fun e w'=>∃ L:List Nat,L.length=8∧(∀ x∈L,x<18446744073709551616)∧lv 18446744073709551616 L=X*Y ∧
   e=.returned (.tuple #[.agg (ws (L.take 4)),.agg (ws (L.drop 4))])∧Below w.heap.size w w':=by
 go_enter Tryd.func61,Tryd.ntmps61
 go_wp2
 go_loopw [10] (fun s wr=>∃ (i:Nat) (L:List Nat),i≤4∧s=.int .i64 i∧Hid (MW wr w X Y L∧(∀ k,i+4≤k→L.getD k 0=0)∧lv 18446744073709551616 L=X%18446744073709551616^i*Y)) (fun s _=>4-(intOf s).toNat)
 case atStart=>
  refine ⟨0,[0,0,0,0,0,0,0,0],by omega,rfl,⟨⟨?_,?_,?_,?_,?_,rfl,by simp,?_⟩,fun k hk=>?_,?_⟩⟩
  ·exact ((((At.at_ w _ _ _ rfl).alloc _).alloc _).alloc _).alloc _
  ·exact (((At.at_ (w.alloc _) _ _ _ (by simp)).alloc _).alloc _).alloc _
  ·exact ((At.at_ ((w.alloc _).alloc _) _ _ _ (by simp)).alloc _).alloc _
  ·exact (At.at_ (((w.alloc _).alloc _).alloc _) _ _ _ (by simp)).alloc _
  ·exact At.at_ ((((w.alloc _).alloc _).alloc _).alloc _) _ _ _ (by simp)
  ·repeat (first | exact Below.refl _ _ | refine gr_alloc ?_ _)
  ·match k,hk with
   | 4,_ | 5,_ | 6,_ | 7,_=>rfl
   | k+8,_=>simp
  ·simp [lv,Nat.mod_one]
 case round=>
  obtain ⟨i,L,hi,rfl,hH⟩:=hrel
  by_cases hlt:i<4
  ·have hb:decide ((i:Int)<4)=true:=by simp;omega
   go_wp2
   go_loopw [8,13] (fun c s wi=>∃ (j cc:Nat) (M:List Nat),j≤4∧s=.int .i64 j∧c=.int .u64 (cc:Nat)∧Hid (MW wi w X Y M∧cc<18446744073709551616∧(∀ k,i+4≤k→M.getD k 0=0) ∧
     lv 18446744073709551616 M+18446744073709551616^(i+j)*cc=X%18446744073709551616^i*Y+18446744073709551616^i*(wd X i*(Y%18446744073709551616^j)))) (fun _ s _=>4-(intOf s).toNat)
   case atStart=>exact ⟨0,0,L,by omega,rfl,rfl,hH.out.1,by omega,hH.out.2.1,by rw [hH.out.2.2];simp [Nat.mod_one]⟩
   case round=>
    clear hH
    obtain ⟨j,cc,M,hj,rfl,rfl,hM⟩:=hrel
    by_cases hjt:j<4
    ·have fa:wr.drew.cell? ⟨w.heap.size,i,none⟩=some (.int .u64 (wd X i:Nat)):=by rw [hM.out.1.a.drew.cell,ws_at _ _ (by simp [wl];omega),wl_at X i hlt]
     have fb:wr.drew.cell? ⟨w.heap.size+1,j,none⟩=some (.int .u64 (wd Y j:Nat)):=by rw [hM.out.1.b.drew.cell,ws_at _ _ (by simp [wl];omega),wl_at Y j hjt]
     have fm:wr.drew.cell? ⟨w.heap.size+1+1+1+1,i+j,none⟩=some (.int .u64 (M.getD (i+j) 0:Nat)):=by rw [hM.out.1.all.drew.cell,ws_at _ _ (by rw [hM.out.1.len];omega)]
     have ff:wr.drew.frozen? ⟨w.heap.size+1+1+1+1,i+j,none⟩=false:=hM.out.1.all.drew.frozen _
     obtain ⟨m,hm⟩:∃ m,M.getD (i+j) 0=m:=⟨_,rfl⟩
     have hml:m<18446744073709551616:=by rw [← hm];exact getD_lt hM.out.1.lt _ (by rw [hM.out.1.len];omega)
     rw [hm] at fm
     obtain ⟨h,l,hh,hl,he,C⟩:=mulAdd_ex (wd X i) (wd Y j) m cc (wd_lt _ _) (wd_lt _ _) hml hM.out.2.1
     have he':=Lib.hid he
     clear he hml
     obtain ⟨s,hs⟩:∃ s,s=i+j:=⟨_,rfl⟩
     have hs':=Lib.hid hs
     have g1:IntKind.i64.wrap ((i:Int)+(j:Int))=(s:Nat):=by rw [IntKind.wrap_i64];omega
     have g2:s<8:=by omega
     have g3:(s:Int)<8:=by omega
     have g4:(i:Int)<4:=by omega
     have g5:(j:Int)<4:=by omega
     rw [← hs] at fm ff
     clear hs
     go_wp2
     refine wp_region_still_tail 21 (by kernel_rfl) (by kernel_rfl) ?_
     simp only [List.take_succ_cons,List.take_zero,List.drop_succ_cons,List.drop_zero]
     change wpStill _ _ wr.drew (fun a'=>wpList _ _ _ _ a' wr.drew) _ _
     obtain ⟨wj,hwj⟩:∃ wj,wr.drew=wj:=⟨_,rfl⟩
     have hwj':=Lib.hid hwj
     rw [hwj] at fa fb fm ff ⊢
     clear hwj
     repeat still_step
     still_call (C _)
     repeat still_step
     refine wpStill_nil ?_
     go_wp2
     go_roundw
     case rel=>
      have hs:=hs'.out
      refine ⟨j+1,h,M.set s l,by omega,by go_num,rfl,?_,hh,fun k hk=>?_,?_⟩
      ·rw [← hwj'.out];exact hM.out.1.drew.put s l hl
      ·rw [getD_set_far _ _ _ _ (by omega)];exact hM.out.2.2.1 k hk
      ·rw [hs]
       refine row_step _ _ _ _ cc _ _ _ _ M (by rw [hM.out.1.len];omega) hM.out.2.2.2 ?_
       rw [hm];exact he'.out
     case measure=>simp [intOf];omega
    ·obtain rfl:j=4:=by omega
     have fm:wr.cell? ⟨w.heap.size+1+1+1+1,i+4,none⟩=some (.int .u64 0):=by rw [hM.out.1.all.cell,ws_at _ _ (by rw [hM.out.1.len];omega),hM.out.2.2.1 (i+4) (by omega)];rfl
     have ff:wr.frozen? ⟨w.heap.size+1+1+1+1,i+4,none⟩=false:=hM.out.1.all.frozen _
     go_wp2
     go_roundw
     case rel=>
      refine ⟨i+1,M.set (i+4) cc,by omega,by go_num,hM.out.1.put _ _ hM.out.2.1,fun k hk=>?_,?_⟩
      ·rw [getD_set_far _ _ _ _ (by omega)];exact hM.out.2.2.1 k (by omega)
      ·exact row_done _ X Y 4 i cc M (by omega) (by rw [hM.out.1.len];omega) (hM.out.2.2.1 (i+4) (by omega)) hM.out.2.2.2
     case measure=>simp [intOf];omega
  ·obtain rfl:i=4:=by omega
   obtain ⟨l0,l1,l2,l3,l4,l5,l6,l7,rfl⟩:∃ l0 l1 l2 l3 l4 l5 l6 l7:Nat,L=[l0,l1,l2,l3,l4,l5,l6,l7]:=by
    have:=hH.out.1.len
    match L,this with
    | [l0,l1,l2,l3,l4,l5,l6,l7],_=>exact ⟨l0,l1,l2,l3,l4,l5,l6,l7,rfl⟩
   go_wp2_with fail
   refine wp_region_still_tail 2 (by kernel_rfl) (by kernel_rfl) ?_
   simp only [List.take_succ_cons,List.take_zero,List.drop_succ_cons,List.drop_zero]
   change wpStill _ _ wr.drew (fun a'=>wpList _ _ _ _ a' wr.drew) _ _
   have HM:=hH.out.1.drew
   have HV:=Lib.hid hH.out.2.2
   clear hH
   generalize wr.drew=wj at *
   have HM':=Lib.hid HM
   clear HM
   repeat still_step
   refine wpStill_nil ?_
   refine wpList_copy_own rfl (.tmp 42) (.tmp 43) 106 106 rfl 22 Tryd.underlying106 (by kernel_rfl) (w.heap.size+1+1) 0 4 4 ⟨w.heap.size+1+1+1+1,0,none⟩ 4 8 (by simp [Act.eval,Act.put]) (by simp [Act.eval,Act.put]) _ _ HM'.out.low
    [.int .u64 l0,.int .u64 l1,.int .u64 l2,.int .u64 l3] rfl (fun j v h=>?_) (by simp [ws]) (by simp [Value.oneCell']) ?_
   ·have hs:(ws [l0,l1,l2,l3,l4,l5,l6,l7])[j]? = some v:=by
     match j,h with
     | 0,h | 1,h | 2,h | 3,h=>exact h
    rw [add_at,Nat.zero_add,HM'.out.all.cell,hs]
   change wpList _ _ _ _ _ (wj.setRow (w.heap.size+1+1) (ws [l0,l1,l2,l3]))
   have Alow:=Lib.hid (HM'.out.low.row (ws [l0,l1,l2,l3]))
   have Ahigh:=Lib.hid (HM'.out.high.rowFar (g':=w.heap.size+1+1) (by omega) (ws [l0,l1,l2,l3]))
   have Aall:=Lib.hid (HM'.out.all.rowFar (g':=w.heap.size+1+1) (by omega) (ws [l0,l1,l2,l3]))
   have B2:=Lib.hid (below_setRow (g:=w.heap.size+1+1) HM'.out.bel (by omega) (ws [l0,l1,l2,l3]))
   have hlt:=HM'.out.lt
   have HL:=Lib.hid hlt
   clear hlt HM'
   generalize wj.setRow (w.heap.size+1+1) (ws [l0,l1,l2,l3])=w2 at *
   go_wp2_with fail
   refine wp_region_still_tail 2 (by kernel_rfl) (by kernel_rfl) ?_
   simp only [List.take_succ_cons,List.take_zero,List.drop_succ_cons,List.drop_zero]
   change wpStill _ _ w2.drew (fun a'=>wpList _ _ _ _ a' w2.drew) _ _
   have Alow3:=Lib.hid Alow.out.drew
   have Ahigh3:=Lib.hid Ahigh.out.drew
   have Aall3:=Lib.hid Aall.out.drew
   have B3:=Lib.hid B2.out.drew
   clear Alow Ahigh Aall B2
   generalize w2.drew=w3 at *
   repeat still_step
   refine wpStill_nil ?_
   refine wpList_copy_own rfl (.tmp 45) (.tmp 46) 106 106 rfl 22 Tryd.underlying106 (by kernel_rfl) (w.heap.size+1+1+1) 0 4 4 ⟨w.heap.size+1+1+1+1,4,none⟩ 4 4 (by simp [Act.eval,Act.put]) (by simp [Act.eval,Act.put]) _ _ Ahigh3.out
    [.int .u64 l4,.int .u64 l5,.int .u64 l6,.int .u64 l7] rfl (fun j v h=>?_) (by simp [ws]) (by simp [Value.oneCell']) ?_
   ·have hs:(ws [l0,l1,l2,l3,l4,l5,l6,l7])[4+j]? = some v:=by
     match j,h with
     | 0,h | 1,h | 2,h | 3,h=>exact h
    rw [add_at,Aall3.out.cell,hs]
   change wpList _ _ _ _ _ (w3.setRow (w.heap.size+1+1+1) (ws [l4,l5,l6,l7]))
   have Ah:=Lib.hid (Ahigh3.out.row (ws [l4,l5,l6,l7]))
   have Al:=Lib.hid (Alow3.out.rowFar (g':=w.heap.size+1+1+1) (by omega) (ws [l4,l5,l6,l7]))
   have B4:=Lib.hid (below_setRow (g:=w.heap.size+1+1+1) B3.out (by omega) (ws [l4,l5,l6,l7]))
   clear Ahigh3 Alow3 Aall3 B3
   generalize w3.setRow (w.heap.size+1+1+1) (ws [l4,l5,l6,l7])=w4 at *
   have c0:w4.cell? ⟨w.heap.size+1+1,0,none⟩=some (.int .u64 l0):=Al.out.cell 0
   have c1:w4.cell? ⟨w.heap.size+1+1,1,none⟩=some (.int .u64 l1):=Al.out.cell 1
   have c2:w4.cell? ⟨w.heap.size+1+1,2,none⟩=some (.int .u64 l2):=Al.out.cell 2
   have c3:w4.cell? ⟨w.heap.size+1+1,3,none⟩=some (.int .u64 l3):=Al.out.cell 3
   have c4:w4.cell? ⟨w.heap.size+1+1+1,0,none⟩=some (.int .u64 l4):=Ah.out.cell 0
   have c5:w4.cell? ⟨w.heap.size+1+1+1,1,none⟩=some (.int .u64 l5):=Ah.out.cell 1
   have c6:w4.cell? ⟨w.heap.size+1+1+1,2,none⟩=some (.int .u64 l6):=Ah.out.cell 2
   have c7:w4.cell? ⟨w.heap.size+1+1+1,3,none⟩=some (.int .u64 l7):=Ah.out.cell 3
   have f0:w4.frozen? ⟨w.heap.size+1+1,0,none⟩=false:=Al.out.frozen 0
   have f4:w4.frozen? ⟨w.heap.size+1+1+1,0,none⟩=false:=Ah.out.frozen 0
   have s0:w4.setCell ⟨w.heap.size+1+1,0,none⟩ (.int .u64 l0)=w4:=Al.out.again 0 _ rfl
   have s4:w4.setCell ⟨w.heap.size+1+1+1,0,none⟩ (.int .u64 l4)=w4:=Ah.out.again 0 _ rfl
   have f1:w4.frozen? ⟨w.heap.size+1+1,1,none⟩=false:=Al.out.frozen 1
   have f5:w4.frozen? ⟨w.heap.size+1+1+1,1,none⟩=false:=Ah.out.frozen 1
   have s1:w4.setCell ⟨w.heap.size+1+1,1,none⟩ (.int .u64 l1)=w4:=Al.out.again 1 _ rfl
   have s5:w4.setCell ⟨w.heap.size+1+1+1,1,none⟩ (.int .u64 l5)=w4:=Ah.out.again 1 _ rfl
   have f2:w4.frozen? ⟨w.heap.size+1+1,2,none⟩=false:=Al.out.frozen 2
   have f6:w4.frozen? ⟨w.heap.size+1+1+1,2,none⟩=false:=Ah.out.frozen 2
   have s2:w4.setCell ⟨w.heap.size+1+1,2,none⟩ (.int .u64 l2)=w4:=Al.out.again 2 _ rfl
   have s6:w4.setCell ⟨w.heap.size+1+1+1,2,none⟩ (.int .u64 l6)=w4:=Ah.out.again 2 _ rfl
   have f3:w4.frozen? ⟨w.heap.size+1+1,3,none⟩=false:=Al.out.frozen 3
   have f7:w4.frozen? ⟨w.heap.size+1+1+1,3,none⟩=false:=Ah.out.frozen 3
   have s3:w4.setCell ⟨w.heap.size+1+1,3,none⟩ (.int .u64 l3)=w4:=Al.out.again 3 _ rfl
   have s7:w4.setCell ⟨w.heap.size+1+1+1,3,none⟩ (.int .u64 l7)=w4:=Ah.out.again 3 _ rfl
   go_wp2
   refine bodyPost_ret (v:=.tuple #[.agg #[.int .u64 l0,.int .u64 l1,.int .u64 l2,.int .u64 l3],.agg #[.int .u64 l4,.int .u64 l5,.int .u64 l6,.int .u64 l7]]) (by simp [results,Tryd.results61,go_sem, *]) rfl
    ⟨[l0,l1,l2,l3,l4,l5,l6,l7],rfl,HL.out,?_,rfl,B4.out⟩
   rw [HV.out,Nat.mod_eq_of_lt (by omega)]
end Go.Proofs.YtlphnfajhpkleaaDoor

/-
 limbs.Shift: what it answers,as a number.
-/
namespace Go.Proofs.YtlphnfajhpkleaaDoor
set_option maxRecDepth 100000
open Go.RowKit
set_option linter.unusedSimpArgs false
set_option linter.unusedVariables false

/-- a number,n places higher -/
def shN (X:Nat) (n:Int):Nat:=if 0≤n then X*2^n.toNat%2^256 else X/2^(-n).toNat
/-- bit k of X,none below 0 -/
def tb (X:Nat) (k:Int):Bool:=decide (0≤k) && X.testBit k.toNat

theorem wd_tb (X i j:Nat):(wd X i).testBit j=(decide (j<64) && X.testBit (64*i+j)):=by
 unfold wd
 rw [B_pow,show (18446744073709551616:Nat)=2^64 by decide,Nat.testBit_mod_two_pow,Nat.testBit_div_two_pow]
 rw [Nat.add_comm]
theorem wi_tb (X:Nat) (y:Int) (j:Nat):(wi X y).testBit j=(decide (j<64) && tb X (64*y+j)):=by
 unfold wi tb
 by_cases h:y<0
 ·rw [if_pos h,Nat.zero_testBit]
  by_cases hj:j<64
  ·have:¬ 0≤64*y+(j:Int):=by omega
   simp [this]
  ·simp [hj]
 ·rw [if_neg h,wd_tb]
  by_cases hj:j<64
  ·have h1:0≤64*y+(j:Int):=by omega
   have h2:64*y.toNat+j=(64*y+(j:Int)).toNat:=by omega
   simp [h1,h2]
  ·simp [hj]
theorem sh_tb (X:Nat) (hX:X<2^256) (n:Int) (m:Nat):(shN X n).testBit m=(decide (m<256) && tb X (m-n)):=by
 unfold shN tb
 by_cases h:0≤n
 ·rw [if_pos h,Nat.testBit_mod_two_pow,Nat.testBit_mul_two_pow]
  by_cases h1:n.toNat≤m
  ·have h2:0≤(m:Int)-n:=by omega
   have h3:((m:Int)-n).toNat=m-n.toNat:=by omega
   rw [decide_eq_true h2,decide_eq_true h1,h3]
  ·have h2:¬ 0≤(m:Int)-n:=by omega
   rw [decide_eq_false h2,decide_eq_false h1];simp
 ·rw [if_neg h,Nat.testBit_div_two_pow]
  have h2:0≤(m:Int)-n:=by omega
  have h3:((m:Int)-n).toNat=m+(-n).toNat:=by omega
  by_cases h1:m<256
  ·rw [decide_eq_true h2,decide_eq_true h1,h3];simp
  ·have h4:X.testBit (m+(-n).toNat)=false:=Nat.testBit_lt_two_pow (Nat.lt_of_lt_of_le hX (Nat.pow_le_pow_right (by decide) (by omega)))
   simp [h1,h4]
theorem sh_lt (X:Nat) (hX:X<2^256) (n:Int):shN X n<2^256:=by
 unfold shN
 split
 ·exact Nat.mod_lt _ (by decide)
 ·exact Nat.lt_of_le_of_lt (Nat.div_le_self _ _) hX

theorem word_sh (X:Nat) (hX:X<2^256) (n q:Int) (p r k:Nat) (y y':Int) (hk:k<4) (hn:n=64*q+p) (hp:p<64) (hr:r=64-p) (hy:y=k-q) (hy':y'=k-q-1) :
  bits .or .u64 (IntKind.u64.wrap ((wi X y:Nat)*2^p)) ((wi X y':Nat)/2^r)=(wd (shN X n) k:Nat):=by
 have e1:IntKind.u64.wrap ((wi X y:Nat)*2^p)=((wi X y*2^p%2^64:Nat):Int):=by
  rw [IntKind.wrap_u64];simp
 have e2:((wi X y':Nat):Int)/2^r=((wi X y'/2^r:Nat):Int):=by simp
 rw [e1,e2,bits_or_u64_nat _ _ (Nat.mod_lt _ (by decide)) (Nat.lt_of_le_of_lt (Nat.div_le_self _ _) (wi_lt _ _))]
 congr 1
 refine Nat.eq_of_testBit_eq fun j=>?_
 rw [Nat.testBit_or,show (18446744073709551616:Nat)=2^64 by decide,Nat.testBit_mod_two_pow,Nat.testBit_mul_two_pow,Nat.testBit_div_two_pow,wi_tb,wi_tb,wd_tb,sh_tb X hX]
 by_cases hj:j<64
 ·have h256:64*k+j<256:=by omega
  by_cases hpj:p≤j
  ·have g1:j-p<64:=by omega
   have g2:¬ j+r<64:=by omega
   have g3:64*y+((j-p:Nat):Int)=((64*k+j:Nat):Int)-n:=by omega
   simp only [hj,hpj,g1,g2,g3,h256];simp
  ·have g2:j+r<64:=by omega
   have g3:64*y'+((j+r:Nat):Int)=((64*k+j:Nat):Int)-n:=by omega
   simp only [hj,hpj,g2,g3,h256];simp
 ·have g2:¬ j+r<64:=by omega
  simp [hj,g2]

/-- limbs.Shift -/
theorem shift_any (X:Nat) (hX:X<2^256) (n:Int) (hn:-9223372036854775808≤n) (hn':n≤9223372036854775807) (w:World) :
  Calls Tryd.prog 87 #[num X,.int .i64 n] w fun e w'=>e=.returned (num (shN X n))∧Below w.heap.size w w':=by
 obtain ⟨p,hp⟩:∃ p:Nat,n%64=p:=⟨(n%64).toNat,by omega⟩
 have e:n=64*(n/64)+p:=by omega
 have wr:∀ x:Int,-9223372036854775808≤x→x≤9223372036854775807→IntKind.i64.wrap x=x:=fun x h1 h2=>by rw [IntKind.wrap_i64];omega
 refine shift_words X hX n (n/64) (0-n/64-1) (0-n/64) (1-n/64) (2-n/64) (3-n/64) p (64-p) rfl (by rw [and63,hp]) (by omega) (by rw [wr _ (by omega) (by omega)];omega) (by omega)
  (by rw [wr _ (by omega) (by omega)];omega) (wr _ (by omega) (by omega)) (wr _ (by omega) (by omega)) (wr _ (by omega) (by omega))
  (wr _ (by omega) (by omega)) (by rw [wr _ (by omega) (by omega)];omega) (by rw [wr _ (by omega) (by omega)];omega) (by rw [wr _ (by omega) (by omega)];omega) _ _ _ _
  (word_sh X hX n _ p _ 0 _ _ (by omega) e (by omega) rfl (by omega) (by omega)) (word_sh X hX n _ p _ 1 _ _ (by omega) e (by omega) rfl (by omega) (by omega))
  (word_sh X hX n _ p _ 2 _ _ (by omega) e (by omega) rfl (by omega) (by omega)) (word_sh X hX n _ p _ 3 _ _ (by omega) e (by omega) rfl (by omega) (by omega)) w
end Go.Proofs.YtlphnfajhpkleaaDoor

/-
 limbs.Mul,as numbers;limbs.Bits.
-/
namespace Go.Proofs.YtlphnfajhpkleaaDoor
set_option maxRecDepth 100000
open Go.RowKit
set_option linter.unusedSimpArgs false
set_option linter.unusedVariables false
attribute [local go_sem ↓] Go.wp_at_zero Go.wp_at_succ

/-- limbs.Mul -/
theorem mul_ex (X Y:Nat) (hX:X<2^256) (hY:Y<2^256):∃ L H:Nat,L<2^256∧H<2^256∧X*Y=L+2^256*H ∧
  ∀ w,Calls Tryd.prog 61 #[num X,num Y] w fun e w'=>e=.returned (.tuple #[num L,num H])∧Below w.heap.size w w':=by
 refine ⟨X*Y%2^256,X*Y/2^256,Nat.mod_lt _ (by decide),?_,by omega,fun w=>(mul_words X Y hX hY w).mono ?_⟩
 ·have:X*Y<2^256*2^256:=Nat.mul_lt_mul'' hX hY
  exact Nat.div_lt_of_lt_mul this
 rintro e w' ⟨L,hl,hb,hv,rfl,bel⟩
 match L,hl with
 | [l0,l1,l2,l3,l4,l5,l6,l7],_=>
  simp only [List.mem_cons,List.not_mem_nil,or_false,forall_eq_or_imp,forall_eq] at hb
  obtain ⟨h0,h1,h2,h3,h4,h5,h6,h7⟩:=hb
  simp only [lv,Nat.mul_zero,Nat.add_zero] at hv
  generalize X*Y=P at *
  refine ⟨?_,bel⟩
  have e1:(.agg (ws ([l0,l1,l2,l3,l4,l5,l6,l7].take 4)):Value)=num (P%2^256):=num_of l0 l1 l2 l3 h0 h1 h2 h3 _ (by omega)
  have e2:(.agg (ws ([l0,l1,l2,l3,l4,l5,l6,l7].drop 4)):Value)=num (P/2^256):=num_of l4 l5 l6 l7 h4 h5 h6 h7 _ (by omega)
  rw [e1,e2]
end Go.Proofs.YtlphnfajhpkleaaDoor

/-
 math/bits.Len64,limbs.Bits.
-/
namespace Go.Proofs.YtlphnfajhpkleaaDoor
open Go.RowKit
set_option linter.unusedSimpArgs false
set_option linter.unusedVariables false
attribute [local go_sem ↓] Go.wp_at_zero Go.wp_at_succ

theorem len_end (x y:Int) (k:Nat) (h0:0≤x) (hx:x<18446744073709551616) (hk:k≤56) (hy:y.toNat=x.toNat/2^k) (hy0:0≤y) (hy1:y≤255) (h:k=0∨1≤y):(k:Int)+Lib.len8 y=Lib.bitLen x.toNat∧0≤Lib.len8 y∧Lib.len8 y≤8:=by
 have l:=Lib.bitLen_le8' y hy0 hy1
 rw [Lib.len8_of y hy0 hy1]
 refine ⟨?_,by omega,by omega⟩
 rw [hy]
 rcases h with rfl | h
 ·simp
 ·have hp:0<2^k:=Nat.two_pow_pos k
  have h1:2^k≤x.toNat:=(Nat.one_le_div_iff hp).1 (by omega)
  rw [Lib.bitLen_shift k x.toNat h1 (by omega)]
  simp

set_option maxRecDepth 100000 in
theorem len64 (x:Int) (h0:0≤x) (hx:x<18446744073709551616) (w:World):Calls Tryd.prog 47 #[.int .u64 x] w fun e w'=>e=.returned (.int .i64 (Lib.bitLen x.toNat))∧w'=w:=by
 by_cases c1:4294967296≤x
 ·obtain ⟨x1,g1⟩:∃ x1,x/4294967296=x1:=⟨_,rfl⟩
  by_cases c2:65536≤x1
  ·obtain ⟨x2,g2⟩:∃ x2,x1/65536=x2:=⟨_,rfl⟩
   by_cases c3:256≤x2
   ·obtain ⟨x3,g3⟩:∃ x3,x2/256=x3:=⟨_,rfl⟩
    have q0:0≤x3:=by omega
    have q1:x3≤255:=by omega
    have q2:x3.toNat=x.toNat/2^56:=by rw [show (2:Nat)^56=72057594037927936 by decide];omega
    obtain ⟨e1,e2,e3⟩:=len_end x x3 56 h0 hx (by omega) q2 q0 q1 (by omega)
    generalize hL:Lib.len8 x3=t at *
    have HE:=Lib.hid e1
    clear q2 e1 hx
    go_enter Tryd.func47,Tryd.ntmps47
    go_wp2
    go_ret
    refine ⟨congrArg Ending.returned (congrArg (Value.int IntKind.i64) ?_),rfl⟩
    rw [← HE.out]
    first | omega | (unfold wrap64;omega)
   ·have d3:x2<256:=by omega
    clear c3
    have q0:0≤x2:=by omega
    have q1:x2≤255:=by omega
    have q2:x2.toNat=x.toNat/2^48:=by rw [show (2:Nat)^48=281474976710656 by decide];omega
    obtain ⟨e1,e2,e3⟩:=len_end x x2 48 h0 hx (by omega) q2 q0 q1 (by omega)
    generalize hL:Lib.len8 x2=t at *
    have HE:=Lib.hid e1
    clear q2 e1 hx
    go_enter Tryd.func47,Tryd.ntmps47
    go_wp2
    go_ret
    refine ⟨congrArg Ending.returned (congrArg (Value.int IntKind.i64) ?_),rfl⟩
    rw [← HE.out]
    first | omega | (unfold wrap64;omega)
  ·have d2:x1<65536:=by omega
   clear c2
   by_cases c3:256≤x1
   ·obtain ⟨x3,g3⟩:∃ x3,x1/256=x3:=⟨_,rfl⟩
    have q0:0≤x3:=by omega
    have q1:x3≤255:=by omega
    have q2:x3.toNat=x.toNat/2^40:=by rw [show (2:Nat)^40=1099511627776 by decide];omega
    obtain ⟨e1,e2,e3⟩:=len_end x x3 40 h0 hx (by omega) q2 q0 q1 (by omega)
    generalize hL:Lib.len8 x3=t at *
    have HE:=Lib.hid e1
    clear q2 e1 hx
    go_enter Tryd.func47,Tryd.ntmps47
    go_wp2
    go_ret
    refine ⟨congrArg Ending.returned (congrArg (Value.int IntKind.i64) ?_),rfl⟩
    rw [← HE.out]
    first | omega | (unfold wrap64;omega)
   ·have d3:x1<256:=by omega
    clear c3
    have q0:0≤x1:=by omega
    have q1:x1≤255:=by omega
    have q2:x1.toNat=x.toNat/2^32:=by rw [show (2:Nat)^32=4294967296 by decide];omega
    obtain ⟨e1,e2,e3⟩:=len_end x x1 32 h0 hx (by omega) q2 q0 q1 (by omega)
    generalize hL:Lib.len8 x1=t at *
    have HE:=Lib.hid e1
    clear q2 e1 hx
    go_enter Tryd.func47,Tryd.ntmps47
    go_wp2
    go_ret
    refine ⟨congrArg Ending.returned (congrArg (Value.int IntKind.i64) ?_),rfl⟩
    rw [← HE.out]
    first | omega | (unfold wrap64;omega)
 ·have d1:x<4294967296:=by omega
  clear c1
  by_cases c2:65536≤x
  ·obtain ⟨x2,g2⟩:∃ x2,x/65536=x2:=⟨_,rfl⟩
   by_cases c3:256≤x2
   ·obtain ⟨x3,g3⟩:∃ x3,x2/256=x3:=⟨_,rfl⟩
    have q0:0≤x3:=by omega
    have q1:x3≤255:=by omega
    have q2:x3.toNat=x.toNat/2^24:=by rw [show (2:Nat)^24=16777216 by decide];omega
    obtain ⟨e1,e2,e3⟩:=len_end x x3 24 h0 hx (by omega) q2 q0 q1 (by omega)
    generalize hL:Lib.len8 x3=t at *
    have HE:=Lib.hid e1
    clear q2 e1 hx
    go_enter Tryd.func47,Tryd.ntmps47
    go_wp2
    go_ret
    refine ⟨congrArg Ending.returned (congrArg (Value.int IntKind.i64) ?_),rfl⟩
    rw [← HE.out]
    first | omega | (unfold wrap64;omega)
   ·have d3:x2<256:=by omega
    clear c3
    have q0:0≤x2:=by omega
    have q1:x2≤255:=by omega
    have q2:x2.toNat=x.toNat/2^16:=by rw [show (2:Nat)^16=65536 by decide];omega
    obtain ⟨e1,e2,e3⟩:=len_end x x2 16 h0 hx (by omega) q2 q0 q1 (by omega)
    generalize hL:Lib.len8 x2=t at *
    have HE:=Lib.hid e1
    clear q2 e1 hx
    go_enter Tryd.func47,Tryd.ntmps47
    go_wp2
    go_ret
    refine ⟨congrArg Ending.returned (congrArg (Value.int IntKind.i64) ?_),rfl⟩
    rw [← HE.out]
    first | omega | (unfold wrap64;omega)
  ·have d2:x<65536:=by omega
   clear c2
   by_cases c3:256≤x
   ·obtain ⟨x3,g3⟩:∃ x3,x/256=x3:=⟨_,rfl⟩
    have q0:0≤x3:=by omega
    have q1:x3≤255:=by omega
    have q2:x3.toNat=x.toNat/2^8:=by rw [show (2:Nat)^8=256 by decide];omega
    obtain ⟨e1,e2,e3⟩:=len_end x x3 8 h0 hx (by omega) q2 q0 q1 (by omega)
    generalize hL:Lib.len8 x3=t at *
    have HE:=Lib.hid e1
    clear q2 e1 hx
    go_enter Tryd.func47,Tryd.ntmps47
    go_wp2
    go_ret
    refine ⟨congrArg Ending.returned (congrArg (Value.int IntKind.i64) ?_),rfl⟩
    rw [← HE.out]
    first | omega | (unfold wrap64;omega)
   ·have d3:x<256:=by omega
    clear c3
    have q0:0≤x:=by omega
    have q1:x≤255:=by omega
    have q2:x.toNat=x.toNat/2^0:=by simp
    obtain ⟨e1,e2,e3⟩:=len_end x x 0 h0 hx (by omega) q2 q0 q1 (by omega)
    generalize hL:Lib.len8 x=t at *
    have HE:=Lib.hid e1
    clear q2 e1 hx
    go_enter Tryd.func47,Tryd.ntmps47
    go_wp2
    go_ret
    refine ⟨congrArg Ending.returned (congrArg (Value.int IntKind.i64) ?_),rfl⟩
    rw [← HE.out]
    first | omega | (unfold wrap64;omega)
end Go.Proofs.YtlphnfajhpkleaaDoor
