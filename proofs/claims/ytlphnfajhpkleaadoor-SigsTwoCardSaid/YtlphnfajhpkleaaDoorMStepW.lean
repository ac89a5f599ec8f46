/-
 divides.step: one bit more of a division.
-/
import Derived.Deep.DeepCutAuto
import Derived.Test.YtlphnfajhpkleaaDoorMCoreH
import Derived.Test.YtlphnfajhpkleaaDoorMSmall
namespace Go.Proofs.YtlphnfajhpkleaaDoor
open Go.RowKit
set_option linter.unusedSimpArgs false
set_option linter.unusedVariables false
attribute [local go_sem ↓] Go.wp_at_zero Go.wp_at_succ

set_option maxHeartbeats 2000000 in
theorem step_words (a0 a1 a2 a3 b0 b1 b2 b3 bit:Nat) (w:World) (s0 s1 s2 s3 c0 c1 c2 c3 d0 d1 d2 d3 e0 e1 e2 e3:Nat)
  (h0:∀ w,(callFunc 73 #[.int .u64 a0,.int .u64 a0,.int .u64 bit]).run Tryd.prog w=.ok (.value (.tuple #[.int .u64 s0,.int .u64 c0])) w)
  (h1:∀ w,(callFunc 73 #[.int .u64 a1,.int .u64 a1,.int .u64 c0]).run Tryd.prog w=.ok (.value (.tuple #[.int .u64 s1,.int .u64 c1])) w)
  (h2:∀ w,(callFunc 73 #[.int .u64 a2,.int .u64 a2,.int .u64 c1]).run Tryd.prog w=.ok (.value (.tuple #[.int .u64 s2,.int .u64 c2])) w)
  (h3:∀ w,(callFunc 73 #[.int .u64 a3,.int .u64 a3,.int .u64 c2]).run Tryd.prog w=.ok (.value (.tuple #[.int .u64 s3,.int .u64 c3])) w)
  (k0:∀ w,(callFunc 42 #[.int .u64 s0,.int .u64 b0,.int .u64 0]).run Tryd.prog w=.ok (.value (.tuple #[.int .u64 d0,.int .u64 e0])) w)
  (k1:∀ w,(callFunc 42 #[.int .u64 s1,.int .u64 b1,.int .u64 e0]).run Tryd.prog w=.ok (.value (.tuple #[.int .u64 d1,.int .u64 e1])) w)
  (k2:∀ w,(callFunc 42 #[.int .u64 s2,.int .u64 b2,.int .u64 e1]).run Tryd.prog w=.ok (.value (.tuple #[.int .u64 d2,.int .u64 e2])) w)
  (k3:∀ w,(callFunc 42 #[.int .u64 s3,.int .u64 b3,.int .u64 e2]).run Tryd.prog w=.ok (.value (.tuple #[.int .u64 d3,.int .u64 e3])) w) :
  Calls Tryd.prog 89 #[.agg #[.int .u64 a0,.int .u64 a1,.int .u64 a2,.int .u64 a3],.agg #[.int .u64 b0,.int .u64 b1,.int .u64 b2,.int .u64 b3],.int .u64 bit] w fun e w'=>
   e=.returned (if c3<e3 then .tuple #[.agg #[.int .u64 s0,.int .u64 s1,.int .u64 s2,.int .u64 s3],.int .u64 0] else .tuple #[.agg #[.int .u64 d0,.int .u64 d1,.int .u64 d2,.int .u64 d3],.int .u64 1])∧Below w.heap.size w w':=by
 by_cases hc:c3<e3
 ·have hc':(c3:Int)<(e3:Int):=by omega
  rw [if_pos hc]
  clear hc
  go_enter Tryd.func89,Tryd.ntmps89
  go_upto_region 3 with fail
  generalize hW0:((((w.alloc (.cells #[.int .u64 a0,.int .u64 a1,.int .u64 a2,.int .u64 a3] 120)).alloc (.cells #[.int .u64 b0,.int .u64 b1,.int .u64 b2,.int .u64 b3] 120)).alloc (.cells #[.int .u64 0,.int .u64 0,.int .u64 0,.int .u64 0] 120)).alloc (.cells #[.int .u64 0,.int .u64 0,.int .u64 0,.int .u64 0] 120))=W0 at *
  have Nr:At W0 (w.heap.size) _ _:=at_of hW0 ((((At.at_ _ _ _ _ (by simp)).alloc _).alloc _).alloc _)
  have Nb:At W0 (w.heap.size+1) _ _:=at_of hW0 (((At.at_ _ _ _ _ (by simp)).alloc _).alloc _)
  have Nl:At W0 (w.heap.size+1+1) _ _:=at_of hW0 ((At.at_ _ _ _ _ (by simp)).alloc _)
  have Nt:At W0 (w.heap.size+1+1+1) _ _:=at_of hW0 (At.at_ _ _ _ _ (by simp))
  have NB:=gr_of hW0 (gr_alloc (gr_alloc (gr_alloc (gr_alloc (Below.refl _ _) _) _) _) _)
  have Dlt:w.heap.size+1+1≠w.heap.size+1+1+1:=by omega
  have Drt:w.heap.size≠w.heap.size+1+1+1:=by omega
  have Dbt:w.heap.size+1≠w.heap.size+1+1+1:=by omega
  have Drl:w.heap.size≠w.heap.size+1+1:=by omega
  have Dbl:w.heap.size+1≠w.heap.size+1+1:=by omega
  have El:w.heap.size≤w.heap.size+1+1:=by omega
  have Et:w.heap.size≤w.heap.size+1+1+1:=by omega
  clear hW0
  generalize w.heap.size+1+1+1=gt at *
  generalize w.heap.size+1+1=gl at *
  generalize w.heap.size+1=gb at *
  obtain ⟨gr,hgr⟩:∃ gr,gr=w.heap.size:=⟨_,rfl⟩
  rw [← hgr] at Nr Drt Drl ⊢
  have HG:=Lib.hid hgr
  clear hgr
  have HDlt:=Lib.hid Dlt
  have HDrt:=Lib.hid Drt
  have HDbt:=Lib.hid Dbt
  have HDrl:=Lib.hid Drl
  have HDbl:=Lib.hid Dbl
  have HEl:=Lib.hid El
  have HEt:=Lib.hid Et
  clear Dlt Drt Dbt Drl Dbl El Et
  have Fr:=Lib.hid Nr
  have Fb:=Lib.hid Nb
  have Fl:=Lib.hid Nl
  have Ft:=Lib.hid Nt
  have BW:=Lib.hid NB
  clear NB Nr Nb Nl Nt
  have cr:W0.cell? ⟨gr,0,none⟩=some (.int .u64 a0):=Fr.out.cell 0
  have ct:W0.cell? ⟨gt,0,none⟩=some (.int .u64 0):=Ft.out.cell 0
  have fz:W0.frozen? ⟨gt,0,none⟩=false:=Ft.out.frozen 0
  go_upto_region 4 with (simp only [h0])
  generalize hW1:(W0.setCell ⟨gt,0,none⟩ (.int .u64 s0))=W1 at *
  clear fz cr ct
  have Nt:=at_of hW1 (Ft.out.set 0 _)
  have Nr:=at_of hW1 (Fr.out.far (by exact fun e=>HDrt.out e.symm) _)
  have Nb:=at_of hW1 (Fb.out.far (by exact fun e=>HDbt.out e.symm) _)
  have Nl:=at_of hW1 (Fl.out.far (by exact fun e=>HDlt.out e.symm) _)
  have NB:=gr_of hW1 (BW.out.setCell HEt.out _)
  clear BW Fr Fb Fl Ft
  clear hW1
  have Fr:=Lib.hid Nr
  have Fb:=Lib.hid Nb
  have Fl:=Lib.hid Nl
  have Ft:=Lib.hid Nt
  have BW:=Lib.hid NB
  clear NB Nr Nb Nl Nt
  have cr:W1.cell? ⟨gr,1,none⟩=some (.int .u64 a1):=Fr.out.cell 1
  have ct:W1.cell? ⟨gt,1,none⟩=some (.int .u64 0):=Ft.out.cell 1
  have fz:W1.frozen? ⟨gt,1,none⟩=false:=Ft.out.frozen 1
  go_upto_region 5 with (simp only [h1])
  generalize hW2:(W1.setCell ⟨gt,1,none⟩ (.int .u64 s1))=W2 at *
  clear fz cr ct
  have Nt:=at_of hW2 (Ft.out.set 1 _)
  have Nr:=at_of hW2 (Fr.out.far (by exact fun e=>HDrt.out e.symm) _)
  have Nb:=at_of hW2 (Fb.out.far (by exact fun e=>HDbt.out e.symm) _)
  have Nl:=at_of hW2 (Fl.out.far (by exact fun e=>HDlt.out e.symm) _)
  have NB:=gr_of hW2 (BW.out.setCell HEt.out _)
  clear BW Fr Fb Fl Ft
  clear hW2
  have Fr:=Lib.hid Nr
  have Fb:=Lib.hid Nb
  have Fl:=Lib.hid Nl
  have Ft:=Lib.hid Nt
  have BW:=Lib.hid NB
  clear NB Nr Nb Nl Nt
  have cr:W2.cell? ⟨gr,2,none⟩=some (.int .u64 a2):=Fr.out.cell 2
  have ct:W2.cell? ⟨gt,2,none⟩=some (.int .u64 0):=Ft.out.cell 2
  have fz:W2.frozen? ⟨gt,2,none⟩=false:=Ft.out.frozen 2
  go_upto_region 6 with (simp only [h2])
  generalize hW3:(W2.setCell ⟨gt,2,none⟩ (.int .u64 s2))=W3 at *
  clear fz cr ct
  have Nt:=at_of hW3 (Ft.out.set 2 _)
  have Nr:=at_of hW3 (Fr.out.far (by exact fun e=>HDrt.out e.symm) _)
  have Nb:=at_of hW3 (Fb.out.far (by exact fun e=>HDbt.out e.symm) _)
  have Nl:=at_of hW3 (Fl.out.far (by exact fun e=>HDlt.out e.symm) _)
  have NB:=gr_of hW3 (BW.out.setCell HEt.out _)
  clear BW Fr Fb Fl Ft
  clear hW3
  have Fr:=Lib.hid Nr
  have Fb:=Lib.hid Nb
  have Fl:=Lib.hid Nl
  have Ft:=Lib.hid Nt
  have BW:=Lib.hid NB
  clear NB Nr Nb Nl Nt
  have cr:W3.cell? ⟨gr,3,none⟩=some (.int .u64 a3):=Fr.out.cell 3
  have ct:W3.cell? ⟨gt,3,none⟩=some (.int .u64 0):=Ft.out.cell 3
  have fz:W3.frozen? ⟨gt,3,none⟩=false:=Ft.out.frozen 3
  go_upto_region 7 with (simp only [h3])
  generalize hW4:(W3.setCell ⟨gt,3,none⟩ (.int .u64 s3))=W4 at *
  clear fz cr ct
  have Nt:=at_of hW4 (Ft.out.set 3 _)
  have Nr:=at_of hW4 (Fr.out.far (by exact fun e=>HDrt.out e.symm) _)
  have Nb:=at_of hW4 (Fb.out.far (by exact fun e=>HDbt.out e.symm) _)
  have Nl:=at_of hW4 (Fl.out.far (by exact fun e=>HDlt.out e.symm) _)
  have NB:=gr_of hW4 (BW.out.setCell HEt.out _)
  clear BW Fr Fb Fl Ft
  clear hW4
  have Fr:=Lib.hid Nr
  have Fb:=Lib.hid Nb
  have Fl:=Lib.hid Nl
  have Ft:=Lib.hid Nt
  have BW:=Lib.hid NB
  clear NB Nr Nb Nl Nt
  have ct:W4.cell? ⟨gt,0,none⟩=some (.int .u64 s0):=Ft.out.cell 0
  have cb:W4.cell? ⟨gb,0,none⟩=some (.int .u64 b0):=Fb.out.cell 0
  have cl:W4.cell? ⟨gl,0,none⟩=some (.int .u64 0):=Fl.out.cell 0
  have fz:W4.frozen? ⟨gl,0,none⟩=false:=Fl.out.frozen 0
  go_upto_region 8 with (simp only [k0])
  generalize hW5:(W4.setCell ⟨gl,0,none⟩ (.int .u64 d0))=W5 at *
  clear fz ct cb cl
  have Nl:=at_of hW5 (Fl.out.set 0 _)
  have Nr:=at_of hW5 (Fr.out.far (by exact fun e=>HDrl.out e.symm) _)
  have Nb:=at_of hW5 (Fb.out.far (by exact fun e=>HDbl.out e.symm) _)
  have Nt:=at_of hW5 (Ft.out.far (by exact fun e=>HDlt.out.symm e.symm) _)
  have NB:=gr_of hW5 (BW.out.setCell HEl.out _)
  clear BW Fr Fb Fl Ft
  clear hW5
  have Fr:=Lib.hid Nr
  have Fb:=Lib.hid Nb
  have Fl:=Lib.hid Nl
  have Ft:=Lib.hid Nt
  have BW:=Lib.hid NB
  clear NB Nr Nb Nl Nt
  have ct:W5.cell? ⟨gt,1,none⟩=some (.int .u64 s1):=Ft.out.cell 1
  have cb:W5.cell? ⟨gb,1,none⟩=some (.int .u64 b1):=Fb.out.cell 1
  have cl:W5.cell? ⟨gl,1,none⟩=some (.int .u64 0):=Fl.out.cell 1
  have fz:W5.frozen? ⟨gl,1,none⟩=false:=Fl.out.frozen 1
  go_upto_region 9 with (simp only [k1])
  generalize hW6:(W5.setCell ⟨gl,1,none⟩ (.int .u64 d1))=W6 at *
  clear fz ct cb cl
  have Nl:=at_of hW6 (Fl.out.set 1 _)
  have Nr:=at_of hW6 (Fr.out.far (by exact fun e=>HDrl.out e.symm) _)
  have Nb:=at_of hW6 (Fb.out.far (by exact fun e=>HDbl.out e.symm) _)
  have Nt:=at_of hW6 (Ft.out.far (by exact fun e=>HDlt.out.symm e.symm) _)
  have NB:=gr_of hW6 (BW.out.setCell HEl.out _)
  clear BW Fr Fb Fl Ft
  clear hW6
  have Fr:=Lib.hid Nr
  have Fb:=Lib.hid Nb
  have Fl:=Lib.hid Nl
  have Ft:=Lib.hid Nt
  have BW:=Lib.hid NB
  clear NB Nr Nb Nl Nt
  have ct:W6.cell? ⟨gt,2,none⟩=some (.int .u64 s2):=Ft.out.cell 2
  have cb:W6.cell? ⟨gb,2,none⟩=some (.int .u64 b2):=Fb.out.cell 2
  have cl:W6.cell? ⟨gl,2,none⟩=some (.int .u64 0):=Fl.out.cell 2
  have fz:W6.frozen? ⟨gl,2,none⟩=false:=Fl.out.frozen 2
  go_upto_region 10 with (simp only [k2])
  generalize hW7:(W6.setCell ⟨gl,2,none⟩ (.int .u64 d2))=W7 at *
  clear fz ct cb cl
  have Nl:=at_of hW7 (Fl.out.set 2 _)
  have Nr:=at_of hW7 (Fr.out.far (by exact fun e=>HDrl.out e.symm) _)
  have Nb:=at_of hW7 (Fb.out.far (by exact fun e=>HDbl.out e.symm) _)
  have Nt:=at_of hW7 (Ft.out.far (by exact fun e=>HDlt.out.symm e.symm) _)
  have NB:=gr_of hW7 (BW.out.setCell HEl.out _)
  clear BW Fr Fb Fl Ft
  clear hW7
  have Fr:=Lib.hid Nr
  have Fb:=Lib.hid Nb
  have Fl:=Lib.hid Nl
  have Ft:=Lib.hid Nt
  have BW:=Lib.hid NB
  clear NB Nr Nb Nl Nt
  have ct:W7.cell? ⟨gt,3,none⟩=some (.int .u64 s3):=Ft.out.cell 3
  have cb:W7.cell? ⟨gb,3,none⟩=some (.int .u64 b3):=Fb.out.cell 3
  have cl:W7.cell? ⟨gl,3,none⟩=some (.int .u64 0):=Fl.out.cell 3
  have fz:W7.frozen? ⟨gl,3,none⟩=false:=Fl.out.frozen 3
  go_upto_region 11 with (simp only [k3])
  generalize hW8:(W7.setCell ⟨gl,3,none⟩ (.int .u64 d3))=W8 at *
  clear fz ct cb cl
  have Nl:=at_of hW8 (Fl.out.set 3 _)
  have Nr:=at_of hW8 (Fr.out.far (by exact fun e=>HDrl.out e.symm) _)
  have Nb:=at_of hW8 (Fb.out.far (by exact fun e=>HDbl.out e.symm) _)
  have Nt:=at_of hW8 (Ft.out.far (by exact fun e=>HDlt.out.symm e.symm) _)
  have NB:=gr_of hW8 (BW.out.setCell HEl.out _)
  clear BW Fr Fb Fl Ft
  clear hW8
  have Fr:=Lib.hid Nr
  have Fb:=Lib.hid Nb
  have Fl:=Lib.hid Nl
  have Ft:=Lib.hid Nt
  have BW:=Lib.hid NB
  clear NB Nr Nb Nl Nt
  have ct0:W8.cell? ⟨gt,0,none⟩=some (.int .u64 s0):=Ft.out.cell 0
  have ct1:W8.cell? ⟨gt,1,none⟩=some (.int .u64 s1):=Ft.out.cell 1
  have ct2:W8.cell? ⟨gt,2,none⟩=some (.int .u64 s2):=Ft.out.cell 2
  have ct3:W8.cell? ⟨gt,3,none⟩=some (.int .u64 s3):=Ft.out.cell 3
  have cl0:W8.cell? ⟨gl,0,none⟩=some (.int .u64 d0):=Fl.out.cell 0
  have cl1:W8.cell? ⟨gl,1,none⟩=some (.int .u64 d1):=Fl.out.cell 1
  have cl2:W8.cell? ⟨gl,2,none⟩=some (.int .u64 d2):=Fl.out.cell 2
  have cl3:W8.cell? ⟨gl,3,none⟩=some (.int .u64 d3):=Fl.out.cell 3
  obtain ⟨f0,f1,f2,f3⟩:=frz4 Fl.out
  go_wp2
  exact bodyPost_ret (v:=.tuple #[.agg #[.int .u64 s0,.int .u64 s1,.int .u64 s2,.int .u64 s3],.int .u64 0]) (by simp [results,Tryd.results89,go_sem, *]) rfl
   ⟨rfl,(((BW.out.setCell HEl.out _).setCell HEl.out _).setCell HEl.out _).setCell HEl.out _⟩
 ·have hc':¬ (c3:Int)<(e3:Int):=by omega
  rw [if_neg hc]
  clear hc
  go_enter Tryd.func89,Tryd.ntmps89
  go_upto_region 3 with fail
  generalize hW0:((((w.alloc (.cells #[.int .u64 a0,.int .u64 a1,.int .u64 a2,.int .u64 a3] 120)).alloc (.cells #[.int .u64 b0,.int .u64 b1,.int .u64 b2,.int .u64 b3] 120)).alloc (.cells #[.int .u64 0,.int .u64 0,.int .u64 0,.int .u64 0] 120)).alloc (.cells #[.int .u64 0,.int .u64 0,.int .u64 0,.int .u64 0] 120))=W0 at *
  have Nr:At W0 (w.heap.size) _ _:=at_of hW0 ((((At.at_ _ _ _ _ (by simp)).alloc _).alloc _).alloc _)
  have Nb:At W0 (w.heap.size+1) _ _:=at_of hW0 (((At.at_ _ _ _ _ (by simp)).alloc _).alloc _)
  have Nl:At W0 (w.heap.size+1+1) _ _:=at_of hW0 ((At.at_ _ _ _ _ (by simp)).alloc _)
  have Nt:At W0 (w.heap.size+1+1+1) _ _:=at_of hW0 (At.at_ _ _ _ _ (by simp))
  have NB:=gr_of hW0 (gr_alloc (gr_alloc (gr_alloc (gr_alloc (Below.refl _ _) _) _) _) _)
  have Dlt:w.heap.size+1+1≠w.heap.size+1+1+1:=by omega
  have Drt:w.heap.size≠w.heap.size+1+1+1:=by omega
  have Dbt:w.heap.size+1≠w.heap.size+1+1+1:=by omega
  have Drl:w.heap.size≠w.heap.size+1+1:=by omega
  have Dbl:w.heap.size+1≠w.heap.size+1+1:=by omega
  have El:w.heap.size≤w.heap.size+1+1:=by omega
  have Et:w.heap.size≤w.heap.size+1+1+1:=by omega
  clear hW0
  generalize w.heap.size+1+1+1=gt at *
  generalize w.heap.size+1+1=gl at *
  generalize w.heap.size+1=gb at *
  obtain ⟨gr,hgr⟩:∃ gr,gr=w.heap.size:=⟨_,rfl⟩
  rw [← hgr] at Nr Drt Drl ⊢
  have HG:=Lib.hid hgr
  clear hgr
  have HDlt:=Lib.hid Dlt
  have HDrt:=Lib.hid Drt
  have HDbt:=Lib.hid Dbt
  have HDrl:=Lib.hid Drl
  have HDbl:=Lib.hid Dbl
  have HEl:=Lib.hid El
  have HEt:=Lib.hid Et
  clear Dlt Drt Dbt Drl Dbl El Et
  have Fr:=Lib.hid Nr
  have Fb:=Lib.hid Nb
  have Fl:=Lib.hid Nl
  have Ft:=Lib.hid Nt
  have BW:=Lib.hid NB
  clear NB Nr Nb Nl Nt
  have cr:W0.cell? ⟨gr,0,none⟩=some (.int .u64 a0):=Fr.out.cell 0
  have ct:W0.cell? ⟨gt,0,none⟩=some (.int .u64 0):=Ft.out.cell 0
  have fz:W0.frozen? ⟨gt,0,none⟩=false:=Ft.out.frozen 0
  go_upto_region 4 with (simp only [h0])
  generalize hW1:(W0.setCell ⟨gt,0,none⟩ (.int .u64 s0))=W1 at *
  clear fz cr ct
  have Nt:=at_of hW1 (Ft.out.set 0 _)
  have Nr:=at_of hW1 (Fr.out.far (by exact fun e=>HDrt.out e.symm) _)
  have Nb:=at_of hW1 (Fb.out.far (by exact fun e=>HDbt.out e.symm) _)
  have Nl:=at_of hW1 (Fl.out.far (by exact fun e=>HDlt.out e.symm) _)
  have NB:=gr_of hW1 (BW.out.setCell HEt.out _)
  clear BW Fr Fb Fl Ft
  clear hW1
  have Fr:=Lib.hid Nr
  have Fb:=Lib.hid Nb
  have Fl:=Lib.hid Nl
  have Ft:=Lib.hid Nt
  have BW:=Lib.hid NB
  clear NB Nr Nb Nl Nt
  have cr:W1.cell? ⟨gr,1,none⟩=some (.int .u64 a1):=Fr.out.cell 1
  have ct:W1.cell? ⟨gt,1,none⟩=some (.int .u64 0):=Ft.out.cell 1
  have fz:W1.frozen? ⟨gt,1,none⟩=false:=Ft.out.frozen 1
  go_upto_region 5 with (simp only [h1])
  generalize hW2:(W1.setCell ⟨gt,1,none⟩ (.int .u64 s1))=W2 at *
  clear fz cr ct
  have Nt:=at_of hW2 (Ft.out.set 1 _)
  have Nr:=at_of hW2 (Fr.out.far (by exact fun e=>HDrt.out e.symm) _)
  have Nb:=at_of hW2 (Fb.out.far (by exact fun e=>HDbt.out e.symm) _)
  have Nl:=at_of hW2 (Fl.out.far (by exact fun e=>HDlt.out e.symm) _)
  have NB:=gr_of hW2 (BW.out.setCell HEt.out _)
  clear BW Fr Fb Fl Ft
  clear hW2
  have Fr:=Lib.hid Nr
  have Fb:=Lib.hid Nb
  have Fl:=Lib.hid Nl
  have Ft:=Lib.hid Nt
  have BW:=Lib.hid NB
  clear NB Nr Nb Nl Nt
  have cr:W2.cell? ⟨gr,2,none⟩=some (.int .u64 a2):=Fr.out.cell 2
  have ct:W2.cell? ⟨gt,2,none⟩=some (.int .u64 0):=Ft.out.cell 2
  have fz:W2.frozen? ⟨gt,2,none⟩=false:=Ft.out.frozen 2
  go_upto_region 6 with (simp only [h2])
  generalize hW3:(W2.setCell ⟨gt,2,none⟩ (.int .u64 s2))=W3 at *
  clear fz cr ct
  have Nt:=at_of hW3 (Ft.out.set 2 _)
  have Nr:=at_of hW3 (Fr.out.far (by exact fun e=>HDrt.out e.symm) _)
  have Nb:=at_of hW3 (Fb.out.far (by exact fun e=>HDbt.out e.symm) _)
  have Nl:=at_of hW3 (Fl.out.far (by exact fun e=>HDlt.out e.symm) _)
  have NB:=gr_of hW3 (BW.out.setCell HEt.out _)
  clear BW Fr Fb Fl Ft
  clear hW3
  have Fr:=Lib.hid Nr
  have Fb:=Lib.hid Nb
  have Fl:=Lib.hid Nl
  have Ft:=Lib.hid Nt
  have BW:=Lib.hid NB
  clear NB Nr Nb Nl Nt
  have cr:W3.cell? ⟨gr,3,none⟩=some (.int .u64 a3):=Fr.out.cell 3
  have ct:W3.cell? ⟨gt,3,none⟩=some (.int .u64 0):=Ft.out.cell 3
  have fz:W3.frozen? ⟨gt,3,none⟩=false:=Ft.out.frozen 3
  go_upto_region 7 with (simp only [h3])
  generalize hW4:(W3.setCell ⟨gt,3,none⟩ (.int .u64 s3))=W4 at *
  clear fz cr ct
  have Nt:=at_of hW4 (Ft.out.set 3 _)
  have Nr:=at_of hW4 (Fr.out.far (by exact fun e=>HDrt.out e.symm) _)
  have Nb:=at_of hW4 (Fb.out.far (by exact fun e=>HDbt.out e.symm) _)
  have Nl:=at_of hW4 (Fl.out.far (by exact fun e=>HDlt.out e.symm) _)
  have NB:=gr_of hW4 (BW.out.setCell HEt.out _)
  clear BW Fr Fb Fl Ft
  clear hW4
  have Fr:=Lib.hid Nr
  have Fb:=Lib.hid Nb
  have Fl:=Lib.hid Nl
  have Ft:=Lib.hid Nt
  have BW:=Lib.hid NB
  clear NB Nr Nb Nl Nt
  have ct:W4.cell? ⟨gt,0,none⟩=some (.int .u64 s0):=Ft.out.cell 0
  have cb:W4.cell? ⟨gb,0,none⟩=some (.int .u64 b0):=Fb.out.cell 0
  have cl:W4.cell? ⟨gl,0,none⟩=some (.int .u64 0):=Fl.out.cell 0
  have fz:W4.frozen? ⟨gl,0,none⟩=false:=Fl.out.frozen 0
  go_upto_region 8 with (simp only [k0])
  generalize hW5:(W4.setCell ⟨gl,0,none⟩ (.int .u64 d0))=W5 at *
  clear fz ct cb cl
  have Nl:=at_of hW5 (Fl.out.set 0 _)
  have Nr:=at_of hW5 (Fr.out.far (by exact fun e=>HDrl.out e.symm) _)
  have Nb:=at_of hW5 (Fb.out.far (by exact fun e=>HDbl.out e.symm) _)
  have Nt:=at_of hW5 (Ft.out.far (by exact fun e=>HDlt.out.symm e.symm) _)
  have NB:=gr_of hW5 (BW.out.setCell HEl.out _)
  clear BW Fr Fb Fl Ft
  clear hW5
  have Fr:=Lib.hid Nr
  have Fb:=Lib.hid Nb
  have Fl:=Lib.hid Nl
  have Ft:=Lib.hid Nt
  have BW:=Lib.hid NB
  clear NB Nr Nb Nl Nt
  have ct:W5.cell? ⟨gt,1,none⟩=some (.int .u64 s1):=Ft.out.cell 1
  have cb:W5.cell? ⟨gb,1,none⟩=some (.int .u64 b1):=Fb.out.cell 1
  have cl:W5.cell? ⟨gl,1,none⟩=some (.int .u64 0):=Fl.out.cell 1
  have fz:W5.frozen? ⟨gl,1,none⟩=false:=Fl.out.frozen 1
  go_upto_region 9 with (simp only [k1])
  generalize hW6:(W5.setCell ⟨gl,1,none⟩ (.int .u64 d1))=W6 at *
  clear fz ct cb cl
  have Nl:=at_of hW6 (Fl.out.set 1 _)
  have Nr:=at_of hW6 (Fr.out.far (by exact fun e=>HDrl.out e.symm) _)
  have Nb:=at_of hW6 (Fb.out.far (by exact fun e=>HDbl.out e.symm) _)
  have Nt:=at_of hW6 (Ft.out.far (by exact fun e=>HDlt.out.symm e.symm) _)
  have NB:=gr_of hW6 (BW.out.setCell HEl.out _)
  clear BW Fr Fb Fl Ft
  clear hW6
  have Fr:=Lib.hid Nr
  have Fb:=Lib.hid Nb
  have Fl:=Lib.hid Nl
  have Ft:=Lib.hid Nt
  have BW:=Lib.hid NB
  clear NB Nr Nb Nl Nt
  have ct:W6.cell? ⟨gt,2,none⟩=some (.int .u64 s2):=Ft.out.cell 2
  have cb:W6.cell? ⟨gb,2,none⟩=some (.int .u64 b2):=Fb.out.cell 2
  have cl:W6.cell? ⟨gl,2,none⟩=some (.int .u64 0):=Fl.out.cell 2
  have fz:W6.frozen? ⟨gl,2,none⟩=false:=Fl.out.frozen 2
  go_upto_region 10 with (simp only [k2])
  generalize hW7:(W6.setCell ⟨gl,2,none⟩ (.int .u64 d2))=W7 at *
  clear fz ct cb cl
  have Nl:=at_of hW7 (Fl.out.set 2 _)
  have Nr:=at_of hW7 (Fr.out.far (by exact fun e=>HDrl.out e.symm) _)
  have Nb:=at_of hW7 (Fb.out.far (by exact fun e=>HDbl.out e.symm) _)
  have Nt:=at_of hW7 (Ft.out.far (by exact fun e=>HDlt.out.symm e.symm) _)
  have NB:=gr_of hW7 (BW.out.setCell HEl.out _)
  clear BW Fr Fb Fl Ft
  clear hW7
  have Fr:=Lib.hid Nr
  have Fb:=Lib.hid Nb
  have Fl:=Lib.hid Nl
  have Ft:=Lib.hid Nt
  have BW:=Lib.hid NB
  clear NB Nr Nb Nl Nt
  have ct:W7.cell? ⟨gt,3,none⟩=some (.int .u64 s3):=Ft.out.cell 3
  have cb:W7.cell? ⟨gb,3,none⟩=some (.int .u64 b3):=Fb.out.cell 3
  have cl:W7.cell? ⟨gl,3,none⟩=some (.int .u64 0):=Fl.out.cell 3
  have fz:W7.frozen? ⟨gl,3,none⟩=false:=Fl.out.frozen 3
  go_upto_region 11 with (simp only [k3])
  generalize hW8:(W7.setCell ⟨gl,3,none⟩ (.int .u64 d3))=W8 at *
  clear fz ct cb cl
  have Nl:=at_of hW8 (Fl.out.set 3 _)
  have Nr:=at_of hW8 (Fr.out.far (by exact fun e=>HDrl.out e.symm) _)
  have Nb:=at_of hW8 (Fb.out.far (by exact fun e=>HDbl.out e.symm) _)
  have Nt:=at_of hW8 (Ft.out.far (by exact fun e=>HDlt.out.symm e.symm) _)
  have NB:=gr_of hW8 (BW.out.setCell HEl.out _)
  clear BW Fr Fb Fl Ft
  clear hW8
  have Fr:=Lib.hid Nr
  have Fb:=Lib.hid Nb
  have Fl:=Lib.hid Nl
  have Ft:=Lib.hid Nt
  have BW:=Lib.hid NB
  clear NB Nr Nb Nl Nt
  have ct0:W8.cell? ⟨gt,0,none⟩=some (.int .u64 s0):=Ft.out.cell 0
  have ct1:W8.cell? ⟨gt,1,none⟩=some (.int .u64 s1):=Ft.out.cell 1
  have ct2:W8.cell? ⟨gt,2,none⟩=some (.int .u64 s2):=Ft.out.cell 2
  have ct3:W8.cell? ⟨gt,3,none⟩=some (.int .u64 s3):=Ft.out.cell 3
  have cl0:W8.cell? ⟨gl,0,none⟩=some (.int .u64 d0):=Fl.out.cell 0
  have cl1:W8.cell? ⟨gl,1,none⟩=some (.int .u64 d1):=Fl.out.cell 1
  have cl2:W8.cell? ⟨gl,2,none⟩=some (.int .u64 d2):=Fl.out.cell 2
  have cl3:W8.cell? ⟨gl,3,none⟩=some (.int .u64 d3):=Fl.out.cell 3
  obtain ⟨f0,f1,f2,f3⟩:=frz4 Fl.out
  go_wp2
  exact bodyPost_ret (v:=.tuple #[.agg #[.int .u64 d0,.int .u64 d1,.int .u64 d2,.int .u64 d3],.int .u64 1]) (by simp [results,Tryd.results89,go_sem, *]) rfl
   ⟨rfl,(((BW.out.setCell HEl.out _).setCell HEl.out _).setCell HEl.out _).setCell HEl.out _⟩
end Go.Proofs.YtlphnfajhpkleaaDoor
