/-
 mods.raise: any power;mods.Exp.
-/
import Derived.Test.YtlphnfajhpkleaaDoorMMod4
import Derived.Test.YtlphnfajhpkleaaDoorMMod7
import Derived.Test.YtlphnfajhpkleaaDoorMSmall
namespace Go.Proofs.YtlphnfajhpkleaaDoor
open Go.RowKit
set_option linter.unusedSimpArgs false
set_option linter.unusedVariables false
attribute [local go_sem ↓] Go.wp_at_zero Go.wp_at_succ

/-- what stands for x,of an odd M -/
def stO (M x:Nat):Nat:=x*2^256%M
theorem raise_any (A N M:Nat) (hA:A<M) (h1:1<M) (hM:M<2^256) (hN:N<2^256) (w:World):Calls Tryd.prog 36 #[num A,num N,num M] w fun e w'=>e=.returned (num (A^N%M))∧Below w.heap.size w w':=by
 have hb:bt M 0=M%2:=by unfold bt;rw [if_neg (by decide)];simp
 have h01:M%2=0∨M%2=1:=by omega
 rcases h01 with h | h
 ·have CB:=bit_any M hM 0
  rw [hb,h] at CB
  refine raise_plain A N M (fun x=>x) hA h1 hM hN (fun w=>wayby_plain M CB w) (fun x _ gk w _=>same_any x w) (fun x y hx hy gk w hk=>?_) (fun x _ gk w _=>same_any x w) w
  exact ptimes_walk gk M x y _ (prod_any x y M (by omega) (by omega) hM (by omega)) w hk
 ·have CB:=bit_any M hM 0
  rw [hb,h] at CB
  obtain ⟨T,hT,hMT,CT⟩:=invodd_ex M hM h
  have hM0:0<M:=by omega
  have hlt:∀ x,stO M x<M:=fun x=>Nat.mod_lt _ hM0
  refine raise_odd A N M T (stO M) hA h1 hM hN (fun w=>wayby_odd M T CB CT w) (fun x hx gk gt gr w hk ht hr=>?_) (fun x y hx hy gk gt gr w hk ht hr=>?_) (fun x hx gk gt gr w hk ht hr=>?_) w
  ·obtain ⟨r,hr2,er,C⟩:=wide_ex 0 x M (by decide) (by omega) hM (by omega)
   have:r=stO M x:=by rw [er];unfold wide stO;rw [Nat.add_zero]
   subst this
   exact into_walk gk M x _ C w hk
  ·obtain ⟨low,high,hl,hh,he,C⟩:=mul_ex (stO M x) (stO M y) (Nat.lt_trans (hlt x) hM) (Nat.lt_trans (hlt y) hM)
   have hhM:high<M:=by
    apply Decidable.byContradiction;intro hc
    have a1:stO M x*stO M y<M*2^256:=Nat.mul_lt_mul'' (hlt x) (Nat.lt_trans (hlt y) hM)
    have a2:2^256*M≤2^256*high:=Nat.mul_le_mul_left _ (by omega)
    rw [Nat.mul_comm M] at a1
    omega
   obtain ⟨rest,often,off,c,hr2,e1,e2,C2⟩:=red_ex M T low high hM hM0 hT hMT hl hhM
   have:rest=stO M (x*y%M):=mont_mul M T (2^256) x y low high often off rest c hMT hr2 hM0 he e1 e2
   subst this
   exact times_walk gt gk gr M T (stO M x) (stO M y) low high _ C (fun gt gm w a b=>C2 gt gm w a b) w ht hk hr
  ·obtain ⟨rest,often,off,c,hr2,e1,e2,C2⟩:=red_ex M T (stO M x) 0 hM hM0 hT hMT (Nat.lt_trans (hlt x) hM) hM0
   have:rest=x:=mont_back M T (2^256) x often off rest c hMT hr2 hx e1 e2
   subst this
   exact back_walk gt gk gr M T (stO M rest) rest (fun gt gm w a b=>C2 gt gm w a b) w ht hk hr

set_option maxRecDepth 100000 in
set_option maxHeartbeats 8000000 in
theorem expfn_walk (gn A B M N V:Nat)
  (c1:∀ w,Calls Tryd.prog 36 #[num A,num N,num M] w fun e w'=>e=.returned (num V)∧Below w.heap.size w w')
  (w:World) (Pn:At w gn 24 (ncs N)):Calls Tryd.prog 35 #[num A,num B,num M,.pointer (some ⟨gn,0,none⟩)] w fun e w'=>e=.returned (.tuple #[num V,.int .i64 0])∧Below w.heap.size w w':=by
 have Hc1:=Lib.hid c1
 clear c1
 have Fn:=Lib.hid Pn
 clear Pn
 have Ln:=Fn.out.lt
 obtain ⟨cn0,cn1,cn2,cn3⟩:=cel4 Fn.out
 have Ln_1:gn<w.heap.size+1:=by omega
 have Ln_2:gn<w.heap.size+1+1:=by omega
 have Ln_3:gn<w.heap.size+1+1+1:=by omega
 go_enter Tryd.func35,Tryd.ntmps35
 go_wp2_with fail
 clear Ln cn0 cn1 cn2 cn3 Ln_1 Ln_2 Ln_3
 have BW:=Lib.hid (Below.refl w.heap.size w)
 generalize hW1:((((w.alloc (.cells (ncs A) 24)).alloc (.cells (ncs B) 24)).alloc (.cells (ncs M) 24)).alloc (.cells #[.int .u64 0,.int .u64 0,.int .u64 0,.int .u64 0] 24))=W1 at *
 have Na:At W1 (w.heap.size) _ _:=at_of hW1 ((((At.at_ _ _ _ _ (by simp)).alloc _).alloc _).alloc _)
 have Nb:At W1 (w.heap.size+1) _ _:=at_of hW1 (((At.at_ _ _ _ _ (by simp)).alloc _).alloc _)
 have Nm:At W1 (w.heap.size+1+1) _ _:=at_of hW1 ((At.at_ _ _ _ _ (by simp)).alloc _)
 have No:At W1 (w.heap.size+1+1+1) _ _:=at_of hW1 (At.at_ _ _ _ _ (by simp))
 have Eo:w.heap.size≤w.heap.size+1+1+1:=by have:=BW.out.size;omega
 have Dno:gn≠w.heap.size+1+1+1:=by have:=Fn.out.lt;omega
 have Dao:w.heap.size≠w.heap.size+1+1+1:=by omega
 have Dbo:w.heap.size+1≠w.heap.size+1+1+1:=by omega
 have Dmo:w.heap.size+1+1≠w.heap.size+1+1+1:=by omega
 have Nn:=at_of hW1 ((((Fn.out.alloc _).alloc _).alloc _).alloc _)
 have NB:=gr_of hW1 (gr_alloc (gr_alloc (gr_alloc (gr_alloc BW.out _) _) _) _)
 clear BW Fn
 clear hW1
 generalize w.heap.size+1+1+1=go at *
 generalize w.heap.size+1+1=gm at *
 generalize w.heap.size+1=gb at *
 obtain ⟨ga,hg0⟩:∃ g,g=w.heap.size:=⟨_,rfl⟩
 rw [← hg0] at Na ⊢
 rw [← hg0] at Dao
 clear hg0
 have Fn:=Lib.hid Nn
 have Fa:=Lib.hid Na
 have Fb:=Lib.hid Nb
 have Fm:=Lib.hid Nm
 have Fo:=Lib.hid No
 have BW:=Lib.hid NB
 clear NB Nn Na Nb Nm No
 refine (Hc1.out _).mono ?_
 rintro e v2 ⟨rfl,z2⟩
 have Nn:=Lib.hid (Fn.out.on z2)
 have Na:=Lib.hid (Fa.out.on z2)
 have Nb:=Lib.hid (Fb.out.on z2)
 have Nm:=Lib.hid (Fm.out.on z2)
 have No:=Lib.hid (Fo.out.on z2)
 have NB:=Lib.hid (bel_tr BW.out z2)
 clear BW z2 Fn Fa Fb Fm Fo
 have Fn:=Nn
 have Fa:=Na
 have Fb:=Nb
 have Fm:=Nm
 have Fo:=No
 have BW:=NB
 clear NB Nn Na Nb Nm No
 have Lo:=Fo.out.lt
 have co0:v2.cell? ⟨go,0,none⟩=some (.int .u64 0):=Fo.out.cell 0
 have co1:v2.cell? ⟨go,1,none⟩=some (.int .u64 0):=Fo.out.cell 1
 have co2:v2.cell? ⟨go,2,none⟩=some (.int .u64 0):=Fo.out.cell 2
 have co3:v2.cell? ⟨go,3,none⟩=some (.int .u64 0):=Fo.out.cell 3
 obtain ⟨fo0,fo1,fo2,fo3⟩:=frz4 Fo.out
 go_wp2_with fail
 generalize hW3:((((v2.setCell ⟨go,0,none⟩ (.int .u64 (wd V 0:Nat))).setCell ⟨go,1,none⟩ (.int .u64 (wd V 1:Nat))).setCell ⟨go,2,none⟩ (.int .u64 (wd V 2:Nat))).setCell ⟨go,3,none⟩ (.int .u64 (wd V 3:Nat)))=W3 at *
 clear Lo co0 co1 co2 co3 fo0 fo1 fo2 fo3
 have Nn_0:=at_of hW3 ((Fn.out).far4 Dno _ _ _ _)
 have Na_0:=at_of hW3 ((Fa.out).far4 Dao _ _ _ _)
 have Nb_0:=at_of hW3 ((Fb.out).far4 Dbo _ _ _ _)
 have Nm_0:=at_of hW3 ((Fm.out).far4 Dmo _ _ _ _)
 have No_0:=at_of hW3 ((Fo.out).put4 _ _ _ _)
 have NB_0:=gr_of hW3 (((((BW.out).setCell Eo _).setCell Eo _).setCell Eo _).setCell Eo _)
 have Nn:=Nn_0
 have Na:=Na_0
 have Nb:=Nb_0
 have Nm:=Nm_0
 have No:=No_0
 have NB:=NB_0
 clear BW Fn Fa Fb Fm Fo Nn_0 Na_0 Nb_0 Nm_0 No_0 NB_0
 clear hW3
 have Fn:=Lib.hid Nn
 have Fa:=Lib.hid Na
 have Fb:=Lib.hid Nb
 have Fm:=Lib.hid Nm
 have Fo:=Lib.hid No
 have BW:=Lib.hid NB
 clear NB Nn Na Nb Nm No
 have Lo:=Fo.out.lt
 obtain ⟨co0,co1,co2,co3⟩:=cel4 Fo.out
 refine bodyPost_ret (v:=.tuple #[num V,.int .i64 0]) (by simp [results,Tryd.results35,go_sem, *]) rfl ⟨rfl,BW.out⟩

end Go.Proofs.YtlphnfajhpkleaaDoor
