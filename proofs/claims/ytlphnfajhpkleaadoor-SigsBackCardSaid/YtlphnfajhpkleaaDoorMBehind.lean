/-
 divides.behind: how often,and what is left,bit by bit.
-/
import Derived.Test.YtlphnfajhpkleaaDoorMBehN
import Derived.Test.YtlphnfajhpkleaaDoorMCoreH
import Derived.Test.YtlphnfajhpkleaaDoorMLen
namespace Go.Proofs.YtlphnfajhpkleaaDoor
open Go.RowKit
set_option linter.unusedSimpArgs false
set_option linter.unusedVariables false
attribute [local go_sem ↓] Go.wp_at_zero Go.wp_at_succ

theorem set_cell (X Y k x:Nat) (hk:k<4) (hx:x=wd Y k) (hy:∀ i,i≠k→wd Y i=wd X i) :
  ((ncs X):Array Value).setIfInBounds k (.int .u64 (x:Nat))=(ncs Y):=by
 subst hx
 match k,hk with
 | 0,_=>unfold ncs;rw [hy 1 (by decide),hy 2 (by decide),hy 3 (by decide)];rfl
 | 1,_=>unfold ncs;rw [hy 0 (by decide),hy 2 (by decide),hy 3 (by decide)];rfl
 | 2,_=>unfold ncs;rw [hy 0 (by decide),hy 1 (by decide),hy 3 (by decide)];rfl
 | 3,_=>unfold ncs;rw [hy 0 (by decide),hy 1 (by decide),hy 2 (by decide)];rfl

set_option maxRecDepth 100000 in
set_option maxHeartbeats 4000000 in
theorem behind_walk (R A B:Nat) (hR:R<B) (hA:A<2^256) (hB:B<2^256) (m h:Nat) (hm:m=undN R A B) (hm256:m≤256) (hh:h=wide R A/2^m) (hhB:h<B)
  (CADD:∀ w,Calls Tryd.prog 59 #[num (shN R (256-(m:Int))),num (shN A (-(m:Int)))] w fun e w'=>e=.returned (.tuple #[num h,.int .u64 0])∧Below w.heap.size w w') (w:World) :
  Calls Tryd.prog 72 #[num R,num A,num B] w fun e w'=>∃ Q r:Nat,(wide R A=Q*B+r∧r<B)∧e=.returned (.tuple #[num Q,num r])∧Below w.heap.size w w':=by
 have CU:=und_any R A B (by omega) hA hB
 rw [← hm] at CU
 have CS1:=shift_any R (by omega) (256-(m:Int)) (by omega) (by omega)
 have CS2:=shift_any A hA (-(m:Int)) (by omega) (by omega)
 obtain ⟨x1,hx1⟩:∃ x,shN R (256-(m:Int))=x:=⟨_,rfl⟩
 obtain ⟨x2,hx2⟩:∃ x,shN A (-(m:Int))=x:=⟨_,rfl⟩
 rw [hx1] at CS1 CADD
 rw [hx2] at CS2 CADD
 have AU:=Lib.hid CU;have AS1:=Lib.hid CS1;have AS2:=Lib.hid CS2;have AA:=Lib.hid CADD
 have HM:=Lib.hid hm;have HH:=Lib.hid hh
 clear CU CS1 CS2 CADD hm hh hx1 hx2
 go_enter Tryd.func72,Tryd.ntmps72
 go_wp2_with fail
 have BW:=Lib.hid (Below.refl w.heap.size w)
 have Nl:At (((((w.alloc (.cells (ncs R) 24)).alloc (.cells (ncs A) 24)).alloc (.cells (ncs B) 24)).alloc (.cells #[.int .u64 0,.int .u64 0,.int .u64 0,.int .u64 0] 24)).alloc (.cells #[.int .u64 0,.int .u64 0,.int .u64 0,.int .u64 0] 24)) (w.heap.size) 24 (ncs R):=((((At.at_ _ _ _ _ (by simp)).alloc _).alloc _).alloc _).alloc _
 have Na:At (((((w.alloc (.cells (ncs R) 24)).alloc (.cells (ncs A) 24)).alloc (.cells (ncs B) 24)).alloc (.cells #[.int .u64 0,.int .u64 0,.int .u64 0,.int .u64 0] 24)).alloc (.cells #[.int .u64 0,.int .u64 0,.int .u64 0,.int .u64 0] 24)) (w.heap.size+1) 24 (ncs A):=(((At.at_ _ _ _ _ (by simp)).alloc _).alloc _).alloc _
 have Nb:At (((((w.alloc (.cells (ncs R) 24)).alloc (.cells (ncs A) 24)).alloc (.cells (ncs B) 24)).alloc (.cells #[.int .u64 0,.int .u64 0,.int .u64 0,.int .u64 0] 24)).alloc (.cells #[.int .u64 0,.int .u64 0,.int .u64 0,.int .u64 0] 24)) (w.heap.size+1+1) 24 (ncs B):=((At.at_ _ _ _ _ (by simp)).alloc _).alloc _
 have Nq:At (((((w.alloc (.cells (ncs R) 24)).alloc (.cells (ncs A) 24)).alloc (.cells (ncs B) 24)).alloc (.cells #[.int .u64 0,.int .u64 0,.int .u64 0,.int .u64 0] 24)).alloc (.cells #[.int .u64 0,.int .u64 0,.int .u64 0,.int .u64 0] 24)) (w.heap.size+1+1+1) 24 #[.int .u64 0,.int .u64 0,.int .u64 0,.int .u64 0]:=(At.at_ _ _ _ _ (by simp)).alloc _
 have Eq:w.heap.size≤w.heap.size+1+1+1:=by have:=BW.out.size;omega
 have Dlq:w.heap.size≠w.heap.size+1+1+1:=by omega
 have Daq:w.heap.size+1≠w.heap.size+1+1+1:=by omega
 have Dbq:w.heap.size+1+1≠w.heap.size+1+1+1:=by omega
 have Nr:At (((((w.alloc (.cells (ncs R) 24)).alloc (.cells (ncs A) 24)).alloc (.cells (ncs B) 24)).alloc (.cells #[.int .u64 0,.int .u64 0,.int .u64 0,.int .u64 0] 24)).alloc (.cells #[.int .u64 0,.int .u64 0,.int .u64 0,.int .u64 0] 24)) (w.heap.size+1+1+1+1) 24 #[.int .u64 0,.int .u64 0,.int .u64 0,.int .u64 0]:=At.at_ _ _ _ _ (by simp)
 have Er:w.heap.size≤w.heap.size+1+1+1+1:=by have:=BW.out.size;omega
 have Dlr:w.heap.size≠w.heap.size+1+1+1+1:=by omega
 have Dar:w.heap.size+1≠w.heap.size+1+1+1+1:=by omega
 have Dbr:w.heap.size+1+1≠w.heap.size+1+1+1+1:=by omega
 have Dqr:w.heap.size+1+1+1≠w.heap.size+1+1+1+1:=by omega
 have NB:Below w.heap.size w (((((w.alloc (.cells (ncs R) 24)).alloc (.cells (ncs A) 24)).alloc (.cells (ncs B) 24)).alloc (.cells #[.int .u64 0,.int .u64 0,.int .u64 0,.int .u64 0] 24)).alloc (.cells #[.int .u64 0,.int .u64 0,.int .u64 0,.int .u64 0] 24)):=gr_alloc (gr_alloc (gr_alloc (gr_alloc (gr_alloc BW.out _) _) _) _) _
 clear BW 
 generalize (((((w.alloc (.cells (ncs R) 24)).alloc (.cells (ncs A) 24)).alloc (.cells (ncs B) 24)).alloc (.cells #[.int .u64 0,.int .u64 0,.int .u64 0,.int .u64 0] 24)).alloc (.cells #[.int .u64 0,.int .u64 0,.int .u64 0,.int .u64 0] 24))=W1 at *
 generalize w.heap.size+1+1+1+1=gr at *
 generalize w.heap.size+1+1+1=gq at *
 generalize w.heap.size+1+1=gb at *
 generalize w.heap.size+1=ga at *
 obtain ⟨gl,hg0⟩:∃ g,g=w.heap.size:=⟨_,rfl⟩
 rw [← hg0] at Nl ⊢
 rw [← hg0] at Dlq Dlr
 clear hg0
 have Fl:=Lib.hid Nl
 have Fa:=Lib.hid Na
 have Fb:=Lib.hid Nb
 have Fq:=Lib.hid Nq
 have Fr:=Lib.hid Nr
 have BW:=Lib.hid NB
 clear NB Nl Na Nb Nq Nr
 refine (AU.out _).mono ?_
 rintro e v2 ⟨rfl,z2⟩
 have Nl:=Lib.hid (Fl.out.on z2)
 have Na:=Lib.hid (Fa.out.on z2)
 have Nb:=Lib.hid (Fb.out.on z2)
 have Nq:=Lib.hid (Fq.out.on z2)
 have Nr:=Lib.hid (Fr.out.on z2)
 have NB:=Lib.hid (bel_tr BW.out z2)
 clear BW z2 Fl Fa Fb Fq Fr
 have Fl:=Nl
 have Fa:=Na
 have Fb:=Nb
 have Fq:=Nq
 have Fr:=Nr
 have BW:=NB
 clear NB Nl Na Nb Nq Nr
 go_wp2_with fail
 try simp only [List.append_eq,List.cons_append,List.nil_append]
 refine wp_region_noPanic ?_
 refine wp_region_held_drew (S:=fun w'=>True) (by kernel_rfl) (trivial) (fun _=>?_)
 refine wpAnyH_cores (fuel:=2) (⟨0,21,[],Kind.val (num R),false⟩::⟨1,22,[],Kind.val (.int .i64 (m:Nat)),true⟩::⟨2,23,[1],Kind.val (.int .i64 (256-(m:Int))),true⟩::⟨3,24,[0,2],Kind.val (num x1),false⟩::⟨4,25,[],Kind.val (num A),false⟩::⟨5,26,[],Kind.val (.int .i64 (m:Nat)),true⟩::⟨6,27,[5],Kind.val (.int .i64 (-(m:Int))),true⟩::⟨7,28,[4,6,3],Kind.val (num x2),false⟩::⟨8,29,[3,7],Kind.val (.tuple #[num h,.int .u64 0]),false⟩::⟨9,20,[8],Kind.val (.tuple #[num h,.int .u64 0]),true⟩::⟨10,30,[9],Kind.val (num h),true⟩::⟨11,31,[9],Kind.val (.int .u64 0),true⟩::⟨12,9,[],Kind.cell v2.heap.size 24 #[.int .u64 0,.int .u64 0,.int .u64 0,.int .u64 0],false⟩::[]) _ _ v2 _ ?_ ?_ ?_ ?_ ?_ ?_ ?_ ?_ ?_ ?_ ?_
 ·rfl
 ·kernel_rfl
 ·exact of_decide_eq_true rfl
 ·(repeat refine all_cons ⟨_,rfl,rfl⟩ ?_);exact all_nil
 ·exact fun _ hb=>trivial
 ·exact (Below.refl _ _).drew
 ·kernel_rfl
 ·exact fun _ _ _ _ _ h=>h
 ·(repeat (refine all_cons ?_ ?_;rotate_left));exact all_nil
  all_goals try exact core_pureAs _ (by rfl)
  ·exact core_move _ _ _ _ _ _ (by rfl) (by rfl) (ko 8)
  ·exact core_bin _ _ _ _ _ _ _ _ _ _ _ _ (by rfl) (by rfl) (known_const _) (kc 1 22) (fun ρ w hx hy=>by simp only [execOp,hx,hy];simp [go_sem];rw [IntKind.wrap_i64];omega)
  ·exact core_move _ _ _ _ _ _ (by rfl) (by rfl) (ko 8)
  ·exact core_un _ _ _ _ _ _ _ _ _ (by rfl) (by rfl) (kc 5 26) (fun ρ w hx=>by simp only [execOp,hx];simp [go_sem];rw [IntKind.wrap_i64];omega)
  ·exact core_move _ _ _ _ _ _ (by rfl) (by rfl) (kc 8 29)
  ·exact core_extract _ _ 0 _ _ _ _ _ (by rfl) (by rfl) (kc 9 20) (by rfl)
  ·exact core_extract _ _ 1 _ _ _ _ _ (by rfl) (by rfl) (kc 9 20) (by rfl)
 ·(repeat (refine all_cons ?_ ?_;rotate_left));exact all_nil
  all_goals try exact sA
  ·exact fun _=>core_load _ _ _ _ _ gl _ _ _ _ (by rfl) (by rfl) (ko 3) Fl.out
  ·exact fun _=>core_call _ 87 _ _ [.tmp 21,.tmp 23] _ _ _ _ _ _ (by rfl) Tryd.func87 (by kernel_rfl) (by rfl) (by rfl) (.cons (kc 0 21) (.cons (kc 2 23) .nil)) (AS1.out)
  ·exact fun _=>core_load _ _ _ _ _ ga _ _ _ _ (by rfl) (by rfl) (ko 4) Fa.out
  ·exact fun _=>core_call _ 87 _ _ [.tmp 25,.tmp 27] _ _ _ _ _ _ (by rfl) Tryd.func87 (by kernel_rfl) (by rfl) (by rfl) (.cons (kc 4 25) (.cons (kc 6 27) .nil)) (AS2.out)
  ·exact fun _=>core_call _ 59 _ _ [.tmp 24,.tmp 28] _ _ _ _ _ _ (by rfl) Tryd.func59 (by kernel_rfl) (by rfl) (by rfl) (.cons (kc 3 24) (.cons (kc 7 28) .nil)) (AA.out)
  ·exact fun _=>core_alloc _ _ _ _ _ (by rfl) (by rfl) (Nat.le_refl _)
 intro vs y3 hc
 obtain ⟨vv0,vv1,vv2,vv3,vv4,vv5,vv6,vv7,vv8,vv9,vv10,vv11,vv12,rfl⟩:=len13 vs hc.lv
 have qq0:=okv hc 0
 have qq1:=okv hc 1
 have qq2:=okv hc 2
 have qq3:=okv hc 3
 have qq4:=okv hc 4
 have qq5:=okv hc 5
 have qq6:=okv hc 6
 have qq7:=okv hc 7
 have qq8:=okv hc 8
 have qq9:=okv hc 9
 have qq10:=okv hc 10
 have qq11:=okv hc 11
 obtain ⟨xx,hx,gh,hv,Eh,Ah⟩:=hc.ok 12 _ rfl rfl
 have qq12:vv12=.pointer (some ⟨gh,0,none⟩):=(Option.some.inj (show some vv12=some xx from hx)).trans hv
 clear hx hv
 have BZ:=hc.bel
 clear hc
 have Nl:=Fl.out.on BZ
 have Na:=Fa.out.on BZ
 have Nb:=Fb.out.on BZ
 have Nq:=Fq.out.on BZ
 have Nr:=Fr.out.on BZ
 have Dlh:gl≠gh:=by have:=Fl.out.lt;omega
 have Dah:ga≠gh:=by have:=Fa.out.lt;omega
 have Dbh:gb≠gh:=by have:=Fb.out.lt;omega
 have Dqh:gq≠gh:=by have:=Fq.out.lt;omega
 have Drh:gr≠gh:=by have:=Fr.out.lt;omega
 have HSZ3:=BW.out.size
 have NB:=bel_tr BW.out BZ
 clear BW BZ Fl Fa Fb Fq Fr
 subst qq0 qq1 qq2 qq3 qq4 qq5 qq6 qq7 qq8 qq9 qq10 qq11 qq12
 simp only [List.map_cons,List.map_nil,over,Act.put,List.setIfInBounds_toArray,List.set_cons_zero,List.set_cons_succ]
 have OLD:=Ah
 replace Nl:=put4_far Nl Dlh (.int .u64 (wd h 0:Nat)) (.int .u64 (wd h 1:Nat)) (.int .u64 (wd h 2:Nat)) (.int .u64 (wd h 3:Nat))
 replace Na:=put4_far Na Dah (.int .u64 (wd h 0:Nat)) (.int .u64 (wd h 1:Nat)) (.int .u64 (wd h 2:Nat)) (.int .u64 (wd h 3:Nat))
 replace Nb:=put4_far Nb Dbh (.int .u64 (wd h 0:Nat)) (.int .u64 (wd h 1:Nat)) (.int .u64 (wd h 2:Nat)) (.int .u64 (wd h 3:Nat))
 replace Nq:=put4_far Nq Dqh (.int .u64 (wd h 0:Nat)) (.int .u64 (wd h 1:Nat)) (.int .u64 (wd h 2:Nat)) (.int .u64 (wd h 3:Nat))
 replace Nr:=put4_far Nr Drh (.int .u64 (wd h 0:Nat)) (.int .u64 (wd h 1:Nat)) (.int .u64 (wd h 2:Nat)) (.int .u64 (wd h 3:Nat))
 replace Ah:=put4_at Ah (.int .u64 (wd h 0:Nat)) (.int .u64 (wd h 1:Nat)) (.int .u64 (wd h 2:Nat)) (.int .u64 (wd h 3:Nat))
 replace NB:=put4_below NB (Nat.le_trans HSZ3 Eh) (.int .u64 (wd h 0:Nat)) (.int .u64 (wd h 1:Nat)) (.int .u64 (wd h 2:Nat)) (.int .u64 (wd h 3:Nat))
 refine store_one (i:=13) _ _ _ _ _ gh _ _ _ _ _ _ _ _ (by kernel_rfl) (by rfl) (by rfl) (by rfl) OLD (trivial) ?_
 clear OLD
 generalize (put4 y3 gh (.int .u64 (wd h 0:Nat)) (.int .u64 (wd h 1:Nat)) (.int .u64 (wd h 2:Nat)) (.int .u64 (wd h 3:Nat)))=y3_13 at *
 refine assign_one (i:=14) _ 10 _ _ _ _ (by kernel_rfl) (by rfl) (by rfl) (trivial) ?_
 try simp only [Act.put,List.setIfInBounds_toArray,List.set_cons_zero,List.set_cons_succ]
 refine wpAnyH_done (by kernel_rfl) ?_ _
 refine NoPanic.normal ?_
 have Fl:=Lib.hid Nl
 have Fa:=Lib.hid Na
 have Fb:=Lib.hid Nb
 have Fq:=Lib.hid Nq
 have Fr:=Lib.hid Nr
 have Fh:=Lib.hid Ah
 have BW:=Lib.hid NB
 clear NB Nl Na Nb Nq Nr Ah
 clear Eh
 clear HSZ3
 go_wp2_with fail
 try simp only [List.append_eq,List.cons_append,List.nil_append]
 refine wp_region_noPanic ?_
 refine wp_region_held_drew (S:=fun w'=>True) (by kernel_rfl) (trivial) (fun _=>?_)
 refine wpAnyH_cores (fuel:=2) (⟨0,32,[],Kind.val (num h),false⟩::⟨1,33,[0],Kind.val (num h),false⟩::⟨2,34,[],Kind.val (num B),false⟩::⟨3,35,[2,1],Kind.val (num B),false⟩::⟨4,11,[],Kind.cell y3_13.heap.size 120 #[.int .u64 0,.int .u64 0,.int .u64 0,.int .u64 0],false⟩::⟨5,12,[],Kind.cell y3_13.heap.size 120 #[.int .u64 0,.int .u64 0,.int .u64 0,.int .u64 0],false⟩::[]) _ _ y3_13 _ ?_ ?_ ?_ ?_ ?_ ?_ ?_ ?_ ?_ ?_ ?_
 ·rfl
 ·kernel_rfl
 ·exact of_decide_eq_true rfl
 ·(repeat refine all_cons ⟨_,rfl,rfl⟩ ?_);exact all_nil
 ·exact fun _ hb=>trivial
 ·exact (Below.refl _ _).drew
 ·kernel_rfl
 ·exact fun _ _ _ _ _ h=>h
 ·(repeat (refine all_cons ?_ ?_;rotate_left));exact all_nil
  all_goals try exact core_pureAs _ (by rfl)
 ·(repeat (refine all_cons ?_ ?_;rotate_left));exact all_nil
  ·exact fun _=>core_load _ _ _ _ _ gh _ _ _ _ (by rfl) (by rfl) (ko 9) Fh.out
  ·exact fun _=>core_call _ 88 _ _ [.tmp 32] _ _ _ _ _ _ (by rfl) Tryd.func88 (by kernel_rfl) (by rfl) (by rfl) (.cons (kc 0 32) .nil) (hold_any h)
  ·exact fun _=>core_load _ _ _ _ _ gb _ _ _ _ (by rfl) (by rfl) (ko 5) Fb.out
  ·exact fun _=>core_call _ 88 _ _ [.tmp 34] _ _ _ _ _ _ (by rfl) Tryd.func88 (by kernel_rfl) (by rfl) (by rfl) (.cons (kc 2 34) .nil) (hold_any B)
  ·exact fun _=>core_allocH _ _ _ _ _ (by rfl) (by rfl) (Nat.le_refl _)
  ·exact fun _=>core_allocH _ _ _ _ _ (by rfl) (by rfl) (Nat.le_refl _)
 intro vs y4 hc
 obtain ⟨vv0,vv1,vv2,vv3,vv4,vv5,rfl⟩:=len6 vs hc.lv
 have qq0:=okv hc 0
 have qq1:=okv hc 1
 have qq2:=okv hc 2
 have qq3:=okv hc 3
 obtain ⟨xx,hx,grs,hv,Ers,Ars⟩:=hc.ok 4 _ rfl rfl
 have qq4:vv4=.pointer (some ⟨grs,0,none⟩):=(Option.some.inj (show some vv4=some xx from hx)).trans hv
 clear hx hv
 obtain ⟨xx,hx,gby,hv,Eby,Aby⟩:=hc.ok 5 _ rfl rfl
 have qq5:vv5=.pointer (some ⟨gby,0,none⟩):=(Option.some.inj (show some vv5=some xx from hx)).trans hv
 clear hx hv
 have Drsby:grs≠gby:=fun e=>hc.far 4 5 _ _ rfl rfl rfl rfl (by decide) rfl rfl (by show some vv4=some vv5;rw [qq4,qq5,e])
 have BZ:=hc.bel
 clear hc
 have Nl:=Fl.out.on BZ
 have Na:=Fa.out.on BZ
 have Nb:=Fb.out.on BZ
 have Nq:=Fq.out.on BZ
 have Nr:=Fr.out.on BZ
 have Nh:=Fh.out.on BZ
 have Dlrs:gl≠grs:=by have:=Fl.out.lt;omega
 have Dars:ga≠grs:=by have:=Fa.out.lt;omega
 have Dbrs:gb≠grs:=by have:=Fb.out.lt;omega
 have Dqrs:gq≠grs:=by have:=Fq.out.lt;omega
 have Drrs:gr≠grs:=by have:=Fr.out.lt;omega
 have Dhrs:gh≠grs:=by have:=Fh.out.lt;omega
 have EErs:w.heap.size≤grs:=Nat.le_trans BW.out.size Ers
 have Dlby:gl≠gby:=by have:=Fl.out.lt;omega
 have Daby:ga≠gby:=by have:=Fa.out.lt;omega
 have Dbby:gb≠gby:=by have:=Fb.out.lt;omega
 have Dqby:gq≠gby:=by have:=Fq.out.lt;omega
 have Drby:gr≠gby:=by have:=Fr.out.lt;omega
 have Dhby:gh≠gby:=by have:=Fh.out.lt;omega
 have HSZ4:=BW.out.size
 have NB:=bel_tr BW.out BZ
 clear BW BZ Fl Fa Fb Fq Fr Fh
 subst qq0 qq1 qq2 qq3 qq4 qq5
 simp only [List.map_cons,List.map_nil,over,Act.put,List.setIfInBounds_toArray,List.set_cons_zero,List.set_cons_succ]
 have OLD:=Ars
 replace Nl:=put4_far Nl Dlrs (.int .u64 (wd h 0:Nat)) (.int .u64 (wd h 1:Nat)) (.int .u64 (wd h 2:Nat)) (.int .u64 (wd h 3:Nat))
 replace Na:=put4_far Na Dars (.int .u64 (wd h 0:Nat)) (.int .u64 (wd h 1:Nat)) (.int .u64 (wd h 2:Nat)) (.int .u64 (wd h 3:Nat))
 replace Nb:=put4_far Nb Dbrs (.int .u64 (wd h 0:Nat)) (.int .u64 (wd h 1:Nat)) (.int .u64 (wd h 2:Nat)) (.int .u64 (wd h 3:Nat))
 replace Nq:=put4_far Nq Dqrs (.int .u64 (wd h 0:Nat)) (.int .u64 (wd h 1:Nat)) (.int .u64 (wd h 2:Nat)) (.int .u64 (wd h 3:Nat))
 replace Nr:=put4_far Nr Drrs (.int .u64 (wd h 0:Nat)) (.int .u64 (wd h 1:Nat)) (.int .u64 (wd h 2:Nat)) (.int .u64 (wd h 3:Nat))
 replace Nh:=put4_far Nh Dhrs (.int .u64 (wd h 0:Nat)) (.int .u64 (wd h 1:Nat)) (.int .u64 (wd h 2:Nat)) (.int .u64 (wd h 3:Nat))
 replace Ars:=put4_at Ars (.int .u64 (wd h 0:Nat)) (.int .u64 (wd h 1:Nat)) (.int .u64 (wd h 2:Nat)) (.int .u64 (wd h 3:Nat))
 replace Aby:=put4_far Aby Drsby.symm (.int .u64 (wd h 0:Nat)) (.int .u64 (wd h 1:Nat)) (.int .u64 (wd h 2:Nat)) (.int .u64 (wd h 3:Nat))
 replace NB:=put4_below NB (Nat.le_trans HSZ4 Ers) (.int .u64 (wd h 0:Nat)) (.int .u64 (wd h 1:Nat)) (.int .u64 (wd h 2:Nat)) (.int .u64 (wd h 3:Nat))
 refine store_oneH (i:=6) _ _ _ _ _ grs _ _ _ _ _ _ _ _ (by kernel_rfl) (by rfl) (by rfl) (by rfl) OLD (trivial) ?_
 clear OLD
 generalize (put4 y4 grs (.int .u64 (wd h 0:Nat)) (.int .u64 (wd h 1:Nat)) (.int .u64 (wd h 2:Nat)) (.int .u64 (wd h 3:Nat)))=y4_6 at *
 have OLD:=Aby
 replace Nl:=put4_far Nl Dlby (.int .u64 (wd B 0:Nat)) (.int .u64 (wd B 1:Nat)) (.int .u64 (wd B 2:Nat)) (.int .u64 (wd B 3:Nat))
 replace Na:=put4_far Na Daby (.int .u64 (wd B 0:Nat)) (.int .u64 (wd B 1:Nat)) (.int .u64 (wd B 2:Nat)) (.int .u64 (wd B 3:Nat))
 replace Nb:=put4_far Nb Dbby (.int .u64 (wd B 0:Nat)) (.int .u64 (wd B 1:Nat)) (.int .u64 (wd B 2:Nat)) (.int .u64 (wd B 3:Nat))
 replace Nq:=put4_far Nq Dqby (.int .u64 (wd B 0:Nat)) (.int .u64 (wd B 1:Nat)) (.int .u64 (wd B 2:Nat)) (.int .u64 (wd B 3:Nat))
 replace Nr:=put4_far Nr Drby (.int .u64 (wd B 0:Nat)) (.int .u64 (wd B 1:Nat)) (.int .u64 (wd B 2:Nat)) (.int .u64 (wd B 3:Nat))
 replace Nh:=put4_far Nh Dhby (.int .u64 (wd B 0:Nat)) (.int .u64 (wd B 1:Nat)) (.int .u64 (wd B 2:Nat)) (.int .u64 (wd B 3:Nat))
 replace Ars:=put4_far Ars Drsby (.int .u64 (wd B 0:Nat)) (.int .u64 (wd B 1:Nat)) (.int .u64 (wd B 2:Nat)) (.int .u64 (wd B 3:Nat))
 replace Aby:=put4_at Aby (.int .u64 (wd B 0:Nat)) (.int .u64 (wd B 1:Nat)) (.int .u64 (wd B 2:Nat)) (.int .u64 (wd B 3:Nat))
 replace NB:=put4_below NB (Nat.le_trans HSZ4 Eby) (.int .u64 (wd B 0:Nat)) (.int .u64 (wd B 1:Nat)) (.int .u64 (wd B 2:Nat)) (.int .u64 (wd B 3:Nat))
 refine store_oneH (i:=7) _ _ _ _ _ gby _ _ _ _ _ _ _ _ (by kernel_rfl) (by rfl) (by rfl) (by rfl) OLD (trivial) ?_
 clear OLD
 generalize (put4 y4_6 gby (.int .u64 (wd B 0:Nat)) (.int .u64 (wd B 1:Nat)) (.int .u64 (wd B 2:Nat)) (.int .u64 (wd B 3:Nat)))=y4_7 at *
 refine wpAnyH_done (by kernel_rfl) ?_ _
 refine NoPanic.normal ?_
 have Fl:=Lib.hid Nl
 have Fa:=Lib.hid Na
 have Fb:=Lib.hid Nb
 have Fq:=Lib.hid Nq
 have Fr:=Lib.hid Nr
 have Fh:=Lib.hid Nh
 have Frs:=Lib.hid Ars
 have Fby:=Lib.hid Aby
 have BW:=Lib.hid NB
 clear NB Nl Na Nb Nq Nr Nh Ars Aby
 clear Ers
 have Ers:=EErs
 clear Eby
 clear HSZ4
 go_wp2_with fail
 clear Fl
 clear Fb
 clear Fh
 go_loopw [37] (fun s wr=>∃ (i Q r:Nat),i≤m∧s=.int .i64 (i:Nat)∧Hid (At wr ga 24 (ncs A)∧At wr gby 120 (ncs B)∧At wr grs 120 (ncs r)∧At wr gq 24 #[.int .u64 (wd (Q*2^(m-i)) 0:Nat),.int .u64 (wd (Q*2^(m-i)) 1:Nat),.int .u64 (wd (Q*2^(m-i)) 2:Nat),.int .u64 (wd (Q*2^(m-i)) 3:Nat)]∧At wr gr 24 #[.int .u64 0,.int .u64 0,.int .u64 0,.int .u64 0]∧Below w.heap.size w wr∧r<B∧wide R A/2^(m-i)=Q*B+r)) (fun s _=>m-(intOf s).toNat)
 case atStart=>
  refine ⟨0,0,h,by omega,rfl,⟨Fa.out,Fby.out,Frs.out,?_,Fr.out,BW.out,hhB,by rw [Nat.sub_zero,← HH.out];simp⟩⟩
  have e:∀ k,wd (0*2^(m-0)) k=0:=fun k=>by simp [wd]
  (try unfold ncs);rw [e,e,e,e];exact Fq.out
 case round=>
  obtain ⟨i,Q,r,hi,rfl,hM⟩:=hrel
  clear Fa Fby Frs Fq Fr BW
  by_cases hlt:i<m
  ·obtain ⟨p,hp⟩:∃ p,m=i+1+p:=⟨m-i-1,by omega⟩
   obtain ⟨bb,hbb⟩:∃ bb,bt A (p:Int)=bb:=⟨_,rfl⟩
   have CBit:=bit_any A hA (p:Int)
   have hb1:bb≤1:=by rw [← hbb];unfold bt;split <;> omega
   rw [hbb] at CBit
   obtain ⟨L,t,hL,ht,hst,CST⟩:=step_ex r B bb hM.out.2.2.2.2.2.2.1 hB hb1
   have ABit:=Lib.hid CBit;have AST:=Lib.hid CST;have HST:=Lib.hid hst;have HBB:=Lib.hid hbb;have HP:=Lib.hid hp
   have gp:(m:Int)-1-(i:Int)=(p:Nat):=by omega
   have hi256:i≤255:=by omega
   have hp256:p≤255:=by omega
   clear CBit CST hst hbb hp
   have Fa:=Lib.hid hM.out.1;have Fby:=Lib.hid hM.out.2.1;have Frs:=Lib.hid hM.out.2.2.1;have Fq:=Lib.hid hM.out.2.2.2.1;have Fr:=Lib.hid hM.out.2.2.2.2.1;have BW:=Lib.hid hM.out.2.2.2.2.2.1;have HV:=Lib.hid hM.out.2.2.2.2.2.2.2;have HRB:=Lib.hid hM.out.2.2.2.2.2.2.1
   clear hM
   go_wp2_with fail
   try simp only [List.append_eq,List.cons_append,List.nil_append]
   refine wp_region_noPanic ?_
   refine wp_region_held_drew (S:=fun w'=>True) (by kernel_rfl) (trivial) (fun _=>?_)
   refine wpAnyH_cores (fuel:=2) (⟨0,45,[],Kind.val (num r),false⟩::⟨1,46,[],Kind.val (num B),false⟩::⟨2,47,[],Kind.val (num A),false⟩::⟨3,48,[],Kind.val (.int .i64 (p:Nat)),true⟩::⟨4,49,[2,3],Kind.val (.int .u64 (bb:Nat)),false⟩::⟨5,50,[0,1,4],Kind.val (.tuple #[num L,.int .u64 (t:Nat)]),false⟩::⟨6,44,[5],Kind.val (.tuple #[num L,.int .u64 (t:Nat)]),true⟩::⟨7,51,[6],Kind.val (num L),true⟩::⟨8,52,[6],Kind.val (.int .u64 (t:Nat)),true⟩::[]) _ _ wr _ ?_ ?_ ?_ ?_ ?_ ?_ ?_ ?_ ?_ ?_ ?_
   ·rfl
   ·kernel_rfl
   ·exact of_decide_eq_true rfl
   ·(repeat refine all_cons ⟨_,rfl,rfl⟩ ?_);exact all_nil
   ·exact fun _ hb=>trivial
   ·exact (Below.refl _ _).drew
   ·kernel_rfl
   ·exact fun _ _ _ _ _ h=>h
   ·(repeat (refine all_cons ?_ ?_;rotate_left));exact all_nil
    all_goals try exact core_pureAs _ (by rfl)
    ·exact core_move _ _ _ _ _ _ (by rfl) (by rfl) (ko 14)
    ·exact core_move _ _ _ _ _ _ (by rfl) (by rfl) (kc 5 50)
    ·exact core_extract _ _ 0 _ _ _ _ _ (by rfl) (by rfl) (kc 6 44) (by rfl)
    ·exact core_extract _ _ 1 _ _ _ _ _ (by rfl) (by rfl) (kc 6 44) (by rfl)
   ·(repeat (refine all_cons ?_ ?_;rotate_left));exact all_nil
    all_goals try exact sA
    ·exact fun _=>core_loadH _ _ _ _ _ grs _ _ _ _ (by rfl) (by rfl) (ko 11) Frs.out
    ·exact fun _=>core_loadH _ _ _ _ _ gby _ _ _ _ (by rfl) (by rfl) (ko 12) Fby.out
    ·exact fun _=>core_load _ _ _ _ _ ga _ _ _ _ (by rfl) (by rfl) (ko 4) Fa.out
    ·exact fun _=>core_call _ 51 _ _ [.tmp 47,.tmp 48] _ _ _ _ _ _ (by rfl) Tryd.func51 (by kernel_rfl) (by rfl) (by rfl) (.cons (kc 2 47) (.cons (kc 3 48) .nil)) (ABit.out)
    ·exact fun _=>core_call _ 89 _ _ [.tmp 45,.tmp 46,.tmp 49] _ _ _ _ _ _ (by rfl) Tryd.func89 (by kernel_rfl) (by rfl) (by rfl) (.cons (kc 0 45) (.cons (kc 1 46) (.cons (kc 4 49) .nil))) (AST.out)
   intro vs y5 hc
   obtain ⟨vv0,vv1,vv2,vv3,vv4,vv5,vv6,vv7,vv8,rfl⟩:=len9 vs hc.lv
   have qq0:=okv hc 0
   have qq1:=okv hc 1
   have qq2:=okv hc 2
   have qq3:=okv hc 3
   have qq4:=okv hc 4
   have qq5:=okv hc 5
   have qq6:=okv hc 6
   have qq7:=okv hc 7
   have qq8:=okv hc 8
   have BZ:=hc.bel
   clear hc
   have Na:=Fa.out.on BZ
   have Nby:=Fby.out.on BZ
   have Nrs:=Frs.out.on BZ
   have Nq:=Fq.out.on BZ
   have Nr:=Fr.out.on BZ
   have HSZ5:=BW.out.size
   have NB:=bel_tr BW.out BZ
   clear BW BZ Fa Fby Frs Fq Fr
   subst qq0 qq1 qq2 qq3 qq4 qq5 qq6 qq7 qq8
   simp only [List.map_cons,List.map_nil,over,Act.put,List.setIfInBounds_toArray,List.set_cons_zero,List.set_cons_succ]
   have OLD:=Nrs
   replace Na:=put4_far Na Dars (.int .u64 (wd L 0:Nat)) (.int .u64 (wd L 1:Nat)) (.int .u64 (wd L 2:Nat)) (.int .u64 (wd L 3:Nat))
   replace Nby:=put4_far Nby Drsby.symm (.int .u64 (wd L 0:Nat)) (.int .u64 (wd L 1:Nat)) (.int .u64 (wd L 2:Nat)) (.int .u64 (wd L 3:Nat))
   replace Nrs:=put4_at Nrs (.int .u64 (wd L 0:Nat)) (.int .u64 (wd L 1:Nat)) (.int .u64 (wd L 2:Nat)) (.int .u64 (wd L 3:Nat))
   replace Nq:=put4_far Nq Dqrs (.int .u64 (wd L 0:Nat)) (.int .u64 (wd L 1:Nat)) (.int .u64 (wd L 2:Nat)) (.int .u64 (wd L 3:Nat))
   replace Nr:=put4_far Nr Drrs (.int .u64 (wd L 0:Nat)) (.int .u64 (wd L 1:Nat)) (.int .u64 (wd L 2:Nat)) (.int .u64 (wd L 3:Nat))
   replace NB:=put4_below NB Ers (.int .u64 (wd L 0:Nat)) (.int .u64 (wd L 1:Nat)) (.int .u64 (wd L 2:Nat)) (.int .u64 (wd L 3:Nat))
   refine store_oneH (i:=9) _ _ _ _ _ grs _ _ _ _ _ _ _ _ (by kernel_rfl) (by rfl) (by rfl) (by rfl) OLD (trivial) ?_
   clear OLD
   generalize (put4 y5 grs (.int .u64 (wd L 0:Nat)) (.int .u64 (wd L 1:Nat)) (.int .u64 (wd L 2:Nat)) (.int .u64 (wd L 3:Nat)))=y5_9 at *
   refine assign_one (i:=10) _ 15 _ _ _ _ (by kernel_rfl) (by rfl) (by rfl) (trivial) ?_
   try simp only [Act.put,List.setIfInBounds_toArray,List.set_cons_zero,List.set_cons_succ]
   refine wpAnyH_done (by kernel_rfl) ?_ _
   refine NoPanic.normal ?_
   have Fa:=Lib.hid Na
   have Fby:=Lib.hid Nby
   have Frs:=Lib.hid Nrs
   have Fq:=Lib.hid Nq
   have Fr:=Lib.hid Nr
   have BW:=Lib.hid NB
   clear NB Na Nby Nrs Nq Nr
   clear HSZ5
   go_wp2_with fail
   obtain ⟨k,hk⟩:∃ k,k=p/64:=⟨_,rfl⟩
   obtain ⟨j,hj⟩:∃ j,j=p%64:=⟨_,rfl⟩
   obtain ⟨b1,b2,b3⟩:=bit_in Q p t ht k j hk hj
   have e1:m-i=p+1:=by have:=HP.out;omega
   have NQ:=Fq.out
   rw [e1] at NQ
   have gd:Int.tdiv (p:Int) 64=(k:Nat):=by rw [Int.tdiv_eq_ediv_of_nonneg (by omega)];omega
   have gd2:(p:Int)/64=(k:Nat):=by omega
   have gm:Int.tmod (p:Int) 64=(j:Nat):=by rw [Int.tmod_eq_emod_of_nonneg (by omega)];omega
   have gm2:(p:Int)%64=(j:Nat):=by omega
   have k0:(0:Int)≤(k:Int):=by omega
   have k4:(k:Int)<4:=by omega
   have k4n:k<4:=by omega
   have j0:(0:Int)≤(j:Int):=by omega
   have j64:(j:Int)<64:=by omega
   have z64:(64:Int)≠0:=by omega
   have gw:IntKind.i64.wrap ((k:Nat):Int)=(k:Nat):=by rw [IntKind.wrap_i64];omega
   have gwj:IntKind.i64.wrap ((j:Nat):Int)=(j:Nat):=by rw [IntKind.wrap_i64];omega
   have cq:y5_9.drew.cell? ⟨gq,k,none⟩=some (.int .u64 (wd (Q*2^(p+1)) k:Nat)):=by
    rw [NQ.drew.cell]
    match k,k4n with
    | 0,_ | 1,_ | 2,_ | 3,_=>rfl
   have fq:y5_9.drew.frozen? ⟨gq,k,none⟩=false:=NQ.drew.frozen k
   have gs:IntKind.u64.wrap ((t:Int)*2^j)=((t*2^j:Nat):Int):=by rw [show (t:Int)*2^j=((t*2^j:Nat):Int) by simp,IntKind.wrap_u64];omega
   have go:bits .or .u64 ((wd (Q*2^(p+1)) k:Nat):Int) ((t*2^j:Nat):Int)=((wd ((2*Q+t)*2^p) k:Nat):Int):=by rw [bits_or_u64_nat _ _ (wd_lt _ _) b2,b1]
   have HB1:=Lib.hid b3;have HE1:=Lib.hid e1;have HKK:=Lib.hid hk;have NQQ:=Lib.hid NQ;have HB2:=Lib.hid b2
   clear b1 b3 e1 hk hj NQ b2
   generalize hX:wd (Q*2^(p+1)) k=xq at *
   generalize hY:wd ((2*Q+t)*2^p) k=yq at *
   generalize hZ:t*2^j=zq at *
   have HX:=Lib.hid hX;have HY:=Lib.hid hY;have HZ:=Lib.hid hZ
   clear hX hY hZ
   refine wp_region_still_tail 10 (by kernel_rfl) (by kernel_rfl) ?_
   simp only [List.take_succ_cons,List.take_zero,List.drop_succ_cons,List.drop_zero]
   change wpStill _ _ y5_9.drew (fun a'=>wpList _ _ _ _ a' y5_9.drew) _ _
   obtain ⟨wj,hwj⟩:∃ wj,y5_9.drew=wj:=⟨_,rfl⟩
   have hwj':=Lib.hid hwj
   rw [hwj] at cq fq ⊢
   clear hwj
   repeat still_step
   refine wpStill_nil ?_
   go_wp2
   go_roundw
   case rel=>
    have hp:=HP.out
    have e2:m-(i+1)=p:=by omega
    (repeat apply Exists.intro)
    refine ⟨⟨i+1,2*Q+t,L,by omega,?_,?_⟩,rfl⟩
    ·go_num
    rw [e2,← hwj'.out]
    have hne:gq≠ga∧gq≠gby∧gq≠grs∧gq≠gr:=⟨by first | exact Daq.symm | exact Dqa,by first | exact Dqby | exact Dbyq.symm,by first | exact Dqrs | exact Drsq.symm,by first | exact Dqr | exact Drq.symm⟩
    refine ⟨Fa.out.drew.far (by exact hne.1) _,Fby.out.drew.far (by exact hne.2.1) _,Frs.out.drew.far (by exact hne.2.2.1) _,?_,Fr.out.drew.far (by exact hne.2.2.2) _,BW.out.drew.setCell Eq _,hL,?_⟩
    ·have:=NQQ.out.drew.set k (.int .u64 (yq:Nat))
     rw [set_cell _ ((2*Q+t)*2^p) k yq k4n HY.out.symm HB1.out] at this
     exact this
    ·have hv:=HV.out
     rw [HE1.out] at hv
     exact beh_round R A B p Q r L t (by omega) hv (by rw [HBB.out];exact HST.out)
   case measure=>simp [intOf];omega
  ·obtain rfl:i=m:=by omega
   have Fa:=Lib.hid hM.out.1;have Fby:=Lib.hid hM.out.2.1;have Frs:=Lib.hid hM.out.2.2.1;have NQ:=hM.out.2.2.2.1;have Fr:=Lib.hid hM.out.2.2.2.2.1;have BW:=Lib.hid hM.out.2.2.2.2.2.1;have HV:=Lib.hid hM.out.2.2.2.2.2.2.2;have HRB:=Lib.hid hM.out.2.2.2.2.2.2.1
   clear hM
   rw [Nat.sub_self,Nat.pow_zero,Nat.mul_one] at NQ
   have Fq:=Lib.hid NQ
   clear NQ
   go_wp2_with fail
   try simp only [List.append_eq,List.cons_append,List.nil_append]
   refine wp_region_noPanic ?_
   refine wp_region_held_drew (S:=fun w'=>True) (by kernel_rfl) (trivial) (fun _=>?_)
   refine wpAnyH_cores (fuel:=2) (⟨0,64,[],Kind.val (num Q),false⟩::⟨1,65,[],Kind.val (num r),false⟩::⟨2,66,[1],Kind.val (num r),false⟩::[]) _ _ wr _ ?_ ?_ ?_ ?_ ?_ ?_ ?_ ?_ ?_ ?_ ?_
   ·rfl
   ·kernel_rfl
   ·exact of_decide_eq_true rfl
   ·(repeat refine all_cons ⟨_,rfl,rfl⟩ ?_);exact all_nil
   ·exact fun _ hb=>trivial
   ·exact (Below.refl _ _).drew
   ·kernel_rfl
   ·exact fun _ _ _ _ _ h=>h
   ·(repeat (refine all_cons ?_ ?_;rotate_left));exact all_nil
    all_goals try exact core_pureAs _ (by rfl)
   ·(repeat (refine all_cons ?_ ?_;rotate_left));exact all_nil
    ·exact fun _=>core_load _ _ _ _ _ gq _ _ _ _ (by rfl) (by rfl) (ko 6) Fq.out
    ·exact fun _=>core_loadH _ _ _ _ _ grs _ _ _ _ (by rfl) (by rfl) (ko 11) Frs.out
    ·exact fun _=>core_call _ 90 _ _ [.tmp 65] _ _ _ _ _ _ (by rfl) Tryd.func90 (by kernel_rfl) (by rfl) (by rfl) (.cons (kc 1 65) .nil) (hnum_any r)
   intro vs y6 hc
   obtain ⟨vv0,vv1,vv2,rfl⟩:=len3 vs hc.lv
   have qq0:=okv hc 0
   have qq1:=okv hc 1
   have qq2:=okv hc 2
   have BZ:=hc.bel
   clear hc
   have Na:=Fa.out.on BZ
   have Nby:=Fby.out.on BZ
   have Nrs:=Frs.out.on BZ
   have Nq:=Fq.out.on BZ
   have Nr:=Fr.out.on BZ
   have HSZ6:=BW.out.size
   have NB:=bel_tr BW.out BZ
   clear BW BZ Fa Fby Frs Fq Fr
   subst qq0 qq1 qq2
   simp only [List.map_cons,List.map_nil,over,Act.put,List.setIfInBounds_toArray,List.set_cons_zero,List.set_cons_succ]
   have OLD:=Nq
   replace Na:=put4_far Na Daq (.int .u64 (wd Q 0:Nat)) (.int .u64 (wd Q 1:Nat)) (.int .u64 (wd Q 2:Nat)) (.int .u64 (wd Q 3:Nat))
   replace Nby:=put4_far Nby Dqby.symm (.int .u64 (wd Q 0:Nat)) (.int .u64 (wd Q 1:Nat)) (.int .u64 (wd Q 2:Nat)) (.int .u64 (wd Q 3:Nat))
   replace Nrs:=put4_far Nrs Dqrs.symm (.int .u64 (wd Q 0:Nat)) (.int .u64 (wd Q 1:Nat)) (.int .u64 (wd Q 2:Nat)) (.int .u64 (wd Q 3:Nat))
   replace Nq:=put4_at Nq (.int .u64 (wd Q 0:Nat)) (.int .u64 (wd Q 1:Nat)) (.int .u64 (wd Q 2:Nat)) (.int .u64 (wd Q 3:Nat))
   replace Nr:=put4_far Nr Dqr.symm (.int .u64 (wd Q 0:Nat)) (.int .u64 (wd Q 1:Nat)) (.int .u64 (wd Q 2:Nat)) (.int .u64 (wd Q 3:Nat))
   replace NB:=put4_below NB Eq (.int .u64 (wd Q 0:Nat)) (.int .u64 (wd Q 1:Nat)) (.int .u64 (wd Q 2:Nat)) (.int .u64 (wd Q 3:Nat))
   refine store_one (i:=3) _ _ _ _ _ gq _ _ _ _ _ _ _ _ (by kernel_rfl) (by rfl) (by rfl) (by rfl) OLD (trivial) ?_
   clear OLD
   generalize (put4 y6 gq (.int .u64 (wd Q 0:Nat)) (.int .u64 (wd Q 1:Nat)) (.int .u64 (wd Q 2:Nat)) (.int .u64 (wd Q 3:Nat)))=y6_3 at *
   have OLD:=Nr
   replace Na:=put4_far Na Dar (.int .u64 (wd r 0:Nat)) (.int .u64 (wd r 1:Nat)) (.int .u64 (wd r 2:Nat)) (.int .u64 (wd r 3:Nat))
   replace Nby:=put4_far Nby Drby.symm (.int .u64 (wd r 0:Nat)) (.int .u64 (wd r 1:Nat)) (.int .u64 (wd r 2:Nat)) (.int .u64 (wd r 3:Nat))
   replace Nrs:=put4_far Nrs Drrs.symm (.int .u64 (wd r 0:Nat)) (.int .u64 (wd r 1:Nat)) (.int .u64 (wd r 2:Nat)) (.int .u64 (wd r 3:Nat))
   replace Nq:=put4_far Nq Dqr (.int .u64 (wd r 0:Nat)) (.int .u64 (wd r 1:Nat)) (.int .u64 (wd r 2:Nat)) (.int .u64 (wd r 3:Nat))
   replace Nr:=put4_at Nr (.int .u64 (wd r 0:Nat)) (.int .u64 (wd r 1:Nat)) (.int .u64 (wd r 2:Nat)) (.int .u64 (wd r 3:Nat))
   replace NB:=put4_below NB Er (.int .u64 (wd r 0:Nat)) (.int .u64 (wd r 1:Nat)) (.int .u64 (wd r 2:Nat)) (.int .u64 (wd r 3:Nat))
   refine store_one (i:=4) _ _ _ _ _ gr _ _ _ _ _ _ _ _ (by kernel_rfl) (by rfl) (by rfl) (by rfl) OLD (trivial) ?_
   clear OLD
   generalize (put4 y6_3 gr (.int .u64 (wd r 0:Nat)) (.int .u64 (wd r 1:Nat)) (.int .u64 (wd r 2:Nat)) (.int .u64 (wd r 3:Nat)))=y6_4 at *
   refine wpAnyH_done (by kernel_rfl) ?_ _
   refine NoPanic.normal ?_
   have Fa:=Lib.hid Na
   have Fby:=Lib.hid Nby
   have Frs:=Lib.hid Nrs
   have Fq:=Lib.hid Nq
   have Fr:=Lib.hid Nr
   have BW:=Lib.hid NB
   clear NB Na Nby Nrs Nq Nr
   clear HSZ6
   have Lq:=Fq.out.lt
   obtain ⟨cq0,cq1,cq2,cq3⟩:=cel4 Fq.out
   have Lr:=Fr.out.lt
   obtain ⟨cr0,cr1,cr2,cr3⟩:=cel4 Fr.out
   obtain ⟨fq0,fq1,fq2,fq3⟩:=frz4 Fq.out
   obtain ⟨fr0,fr1,fr2,fr3⟩:=frz4 Fr.out
   go_wp2_with fail
   have HV2:=HV.out
   rw [Nat.sub_self,Nat.pow_zero,Nat.div_one] at HV2
   have HV3:=Lib.hid HV2
   clear HV2
   refine bodyPost_ret (v:=.tuple #[num Q,num r]) (by simp [results,Tryd.results72,go_sem, *]) rfl ⟨Q,r,⟨HV3.out,HRB.out⟩,rfl,BW.out⟩

/-- divides.behind -/
theorem behind_ex (R A B:Nat) (hR:R<B) (hA:A<2^256) (hB:B<2^256):∃ Q r:Nat,Q<2^256∧r<B∧wide R A=Q*B+r ∧
  ∀ w,Calls Tryd.prog 72 #[num R,num A,num B] w fun e w'=>e=.returned (.tuple #[num Q,num r])∧Below w.heap.size w w':=by
 obtain ⟨S,c,hS,hc,he,C⟩:=add_ex (shN R (256-(undN R A B:Int))) (shN A (-(undN R A B:Int))) (sh_lt R (by omega) _) (sh_lt A hA _)
 have h1:=und_ahead R A B hR hB hA _ rfl
 have h2:=und_top R A B hR hA
 rw [h1] at he
 have hc0:c=0:=by omega
 subst hc0
 have hw:=behind_walk R A B hR hA hB (undN R A B) S rfl (und_le R A B) (by omega) (by omega) C
 have hB0:0<B:=by omega
 have hq:wide R A/B<2^256:=by
  refine Nat.div_lt_of_lt_mul ?_
  unfold wide
  have:(R+1)*2^256≤B*2^256:=Nat.mul_le_mul_right _ hR
  rw [Nat.add_mul] at this;omega
 refine ⟨wide R A/B,wide R A%B,hq,Nat.mod_lt _ hB0,by rw [Nat.mul_comm];exact (Nat.div_add_mod _ _).symm,fun w=>(hw w).mono ?_⟩
 rintro e w' ⟨Q,r,⟨h3,h4⟩,he,hb⟩
 have e1:wide R A/B=Q:=by rw [h3,Nat.mul_comm,Nat.mul_add_div hB0,Nat.div_eq_of_lt h4,Nat.add_zero]
 have e2:wide R A%B=r:=by rw [h3,Nat.mul_comm,Nat.mul_add_mod,Nat.mod_eq_of_lt h4]
 rw [e1,e2]
 exact ⟨he,hb⟩
end Go.Proofs.YtlphnfajhpkleaaDoor
