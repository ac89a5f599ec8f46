/-
 shas.takenIn: a block is taken in by eight numbers.
-/
import Derived.Test.YtlphnfajhpkleaaDoorMBySpread
namespace Go.Proofs.YtlphnfajhpkleaaDoor.By
set_option maxRecDepth 100000
open Go.RowKit
set_option linter.unusedSimpArgs false
set_option linter.unusedVariables false

/-- what the two tables hold -/
structure Tabs (w:World):Prop where
 k:∀ i,i<64→w.cell? ⟨1,i,none⟩=some (.int .u32 (cubes.getD i 0:Nat))
 h:w.rangeAt 0 0 (hs init.list)
theorem Tabs.lt1 {w:World} (h:Tabs w):1<w.heap.size:=World.block_lt_of_cell? w _ (h.k 0 (by decide))
theorem Tabs.on {w w':World} (h:Tabs w) (hb:Below w.heap.size w w'):Tabs w':=
 ⟨fun i hi=>cell_on hb (h.k i hi),fun j v hv=>cell_on hb (h.h j v hv)⟩
theorem zero_eight:(Tryd.prog.info? 111).map (·.zero)=some (some (.agg (hs (List.replicate 8 0)).toArray)):=by kernel_rfl
theorem size_eight:(Tryd.prog.info? 111).map (·.size)=some 8:=by kernel_rfl
theorem under_eight:Tryd.prog.underlying 111=some (.array 8 109):=by kernel_rfl
theorem size_block:(Tryd.prog.info? 112).map (·.size)=some 64:=by kernel_rfl
theorem under_block:Tryd.prog.underlying 112=some (.array 64 5):=by kernel_rfl
theorem cubes_lt' (i:Nat):cubes.getD i 0<4294967296:=getD_lt _ cubes_lt i
/-- the first so many are added -/
def mix (l m:List Nat) (i:Nat):List Nat:=(List.range 8).map fun j=>if j<i then (l.getD j 0+m.getD j 0)%4294967296 else l.getD j 0
theorem mix_len (l m:List Nat) (i:Nat):(mix l m i).length=8:=by simp [mix]
theorem mix_at (l m:List Nat) (i:Nat) (h:i<8):(mix l m i).getD i 0=l.getD i 0:=by simp [mix,h]
theorem mix_set (l m:List Nat) (i:Nat) (h:i<8):(mix l m i).set i ((l.getD i 0+m.getD i 0)%4294967296)=mix l m (i+1):=by
 apply List.ext_getElem
 ·simp [mix]
 ·intro j h1 h2
  simp only [mix,List.getElem_set,List.getElem_map,List.getElem_range]
  by_cases e:i=j
  ·subst e;simp
  ·rw [if_neg e]
   by_cases h3:j<i
   ·rw [if_pos h3,if_pos (by omega)]
   ·rw [if_neg h3,if_neg (by omega)]
theorem mix_zero (s:St) (m:List Nat):mix s.list m 0=s.list:=by simp [mix,St.list,List.range_succ]
theorem mix_all (s x:St):mix s.list x.list 8=(s.add x).list:=by simp [mix,St.list,St.add,List.range_succ]
theorem list_lt {s:St} (o:s.Ok):∀ x∈s.list,x<4294967296:=by
 intro x hx
 simp only [St.list,List.mem_cons,List.not_mem_nil,or_false] at hx
 rcases hx with rfl | rfl | rfl | rfl | rfl | rfl | rfl | rfl
 all_goals first | exact o.a | exact o.b | exact o.c | exact o.d | exact o.e | exact o.f | exact o.g | exact o.h

set_option maxRecDepth 100000 in
set_option maxHeartbeats 8000000 in
theorem taken_ok (s:St) (B:List Nat) (o:s.Ok) (hl:B.length=64) (hb:∀ y∈B,y<256) (w:World) (T:Tabs w) :
  Calls Tryd.prog 83 #[.agg (hs s.list).toArray,.agg (bs B).toArray] w fun e w'=>e=.returned (.agg (hs (comp s B).list).toArray)∧Below w.heap.size w w':=by
 have HB:=Lib.hid hb
 have HL:=Lib.hid hl
 have HO:=Lib.hid o
 clear hb hl
 go_enter Tryd.func83,Tryd.ntmps83
 go_wp2_with (first | (refine law_box (d:=2) (ty:=111) (hs s.list).toArray rfl ?_;intro w1 N1) | (refine law_box (d:=3) (ty:=112) (bs B).toArray rfl ?_;intro w2 N2) | (refine law_alloc (d:=4) (ty:=111) _ zero_eight ?_;intro w3 N3))
 have L1:=(N1.at_.on N2.bel).on N3.bel
 have L2:=N2.at_.on N3.bel
 have L3:=N3.at_
 have BW:=bel_tr (bel_tr N1.bel N2.bel) N3.bel
 have e1:=N1.size
 have e2:=N2.size
 have E2:w.heap.size≤w1.heap.size:=by omega
 have E3:w.heap.size≤w2.heap.size:=by omega
 have D12:w.heap.size≠w1.heap.size:=by omega
 have D13:w.heap.size≠w2.heap.size:=by omega
 have D23:w1.heap.size≠w2.heap.size:=by omega
 have TT:=Lib.hid (T.on BW)
 clear N1 N2 N3 e1 e2 T
 generalize hg3:w2.heap.size=gr at *
 generalize hg2:w1.heap.size=gb at *
 obtain ⟨gn,hg1⟩:∃ g,g=w.heap.size:=⟨_,rfl⟩
 rw [← hg1] at L1 D12 D13 ⊢
 have E1:w.heap.size≤gn:=by omega
 have C0:w3.cell? ⟨gn,0,none⟩=some (.int .u32 (s.a:Nat)):=L1.cell 0
 have C1:w3.cell? ⟨gn,1,none⟩=some (.int .u32 (s.b:Nat)):=L1.cell 1
 have C2:w3.cell? ⟨gn,2,none⟩=some (.int .u32 (s.c:Nat)):=L1.cell 2
 have C3:w3.cell? ⟨gn,3,none⟩=some (.int .u32 (s.d:Nat)):=L1.cell 3
 have C4:w3.cell? ⟨gn,4,none⟩=some (.int .u32 (s.e:Nat)):=L1.cell 4
 have C5:w3.cell? ⟨gn,5,none⟩=some (.int .u32 (s.f:Nat)):=L1.cell 5
 have C6:w3.cell? ⟨gn,6,none⟩=some (.int .u32 (s.g:Nat)):=L1.cell 6
 have C7:w3.cell? ⟨gn,7,none⟩=some (.int .u32 (s.h:Nat)):=L1.cell 7
 have LG:=L1.lt
 have M1:=Lib.hid L1
 have M2:=Lib.hid L2
 have M3:=Lib.hid L3
 have MB:=Lib.hid BW
 clear L1 L2 L3 BW hg1 hg2 hg3
 obtain ⟨sa,hsa⟩:∃ x,s.a=x:=⟨_,rfl⟩
 obtain ⟨sb,hsb⟩:∃ x,s.b=x:=⟨_,rfl⟩
 obtain ⟨sc,hsc⟩:∃ x,s.c=x:=⟨_,rfl⟩
 obtain ⟨sd,hsd⟩:∃ x,s.d=x:=⟨_,rfl⟩
 obtain ⟨se,hse⟩:∃ x,s.e=x:=⟨_,rfl⟩
 obtain ⟨sf,hsf⟩:∃ x,s.f=x:=⟨_,rfl⟩
 obtain ⟨sg,hsg⟩:∃ x,s.g=x:=⟨_,rfl⟩
 obtain ⟨sh,hsh⟩:∃ x,s.h=x:=⟨_,rfl⟩
 rw [hsa] at C0
 rw [hsb] at C1
 rw [hsc] at C2
 rw [hsd] at C3
 rw [hse] at C4
 rw [hsf] at C5
 rw [hsg] at C6
 rw [hsh] at C7
 have HS:Hid (s=⟨sa,sb,sc,sd,se,sf,sg,sh⟩):=Lib.hid (by rw [← hsa,← hsb,← hsc,← hsd,← hse,← hsf,← hsg,← hsh])
 clear hsa hsb hsc hsd hse hsf hsg hsh
 go_wp2
 try simp only [List.append_eq,List.cons_append,List.nil_append]
 refine wp_region_noPanic ?_
 refine wp_region_held_drew (S:=fun w'=>Below w3.heap.size w3 w') (by kernel_rfl) ((Below.refl _ _).drew) (fun _=>?_)
 refine wpAnyH_cores (fuel:=8) (⟨0,19,[],Kind.val (.pointer (some ⟨gn,0,none⟩)),true⟩::⟨1,20,[0],Kind.val (.int .u32 (sa:Nat)),true⟩::⟨2,21,[1],Kind.val (.pointer (some ⟨gn,1,none⟩)),true⟩::⟨3,22,[2],Kind.val (.int .u32 (sb:Nat)),true⟩::⟨4,23,[3],Kind.val (.pointer (some ⟨gn,2,none⟩)),true⟩::⟨5,24,[4],Kind.val (.int .u32 (sc:Nat)),true⟩::⟨6,25,[5],Kind.val (.pointer (some ⟨gn,3,none⟩)),true⟩::⟨7,26,[6],Kind.val (.int .u32 (sd:Nat)),true⟩::⟨8,27,[7],Kind.val (.pointer (some ⟨gn,4,none⟩)),true⟩::⟨9,28,[8],Kind.val (.int .u32 (se:Nat)),true⟩::⟨10,29,[9],Kind.val (.pointer (some ⟨gn,5,none⟩)),true⟩::⟨11,30,[10],Kind.val (.int .u32 (sf:Nat)),true⟩::⟨12,31,[11],Kind.val (.pointer (some ⟨gn,6,none⟩)),true⟩::⟨13,32,[12],Kind.val (.int .u32 (sg:Nat)),true⟩::⟨14,33,[13],Kind.val (.pointer (some ⟨gn,7,none⟩)),true⟩::⟨15,34,[14],Kind.val (.int .u32 (sh:Nat)),true⟩::[]) _ _ w3 _ ?_ ?_ ?_ ?_ ?_ ?_ ?_ ?_ ?_ ?_ ?_
 ·rfl
 ·kernel_rfl
 ·exact of_decide_eq_true (by kernel_rfl)
 ·(repeat refine all_cons ⟨_,by rfl,by rfl⟩ ?_);exact all_nil
 ·exact fun _ hb=>hb
 ·exact (Below.refl _ _).drew
 ·kernel_rfl
 ·exact fun _ _ _ _ _ h=>h
 ·(repeat (refine all_cons ?_ ?_;rotate_left));exact all_nil
  ·exact core_held2C _ _ _ _ _ _ _ _ _ _ (by rfl) (by rfl) (ko 2) (known_const _) (fun ρ w kx ky hs=>atE gn (0) (by omega) kx ky)
  ·exact core_heldC _ _ _ _ _ _ _ _ (by rfl) (by rfl) (kc 0 19) (fun ρ w kx hs=>load32 _ _ _ kx ((hs.cell LG).trans (C0)))
  ·exact core_held2C _ _ _ _ _ _ _ _ _ _ (by rfl) (by rfl) (ko 2) (known_const _) (fun ρ w kx ky hs=>atE gn (1) (by omega) kx ky)
  ·exact core_heldC _ _ _ _ _ _ _ _ (by rfl) (by rfl) (kc 2 21) (fun ρ w kx hs=>load32 _ _ _ kx ((hs.cell LG).trans (C1)))
  ·exact core_held2C _ _ _ _ _ _ _ _ _ _ (by rfl) (by rfl) (ko 2) (known_const _) (fun ρ w kx ky hs=>atE gn (2) (by omega) kx ky)
  ·exact core_heldC _ _ _ _ _ _ _ _ (by rfl) (by rfl) (kc 4 23) (fun ρ w kx hs=>load32 _ _ _ kx ((hs.cell LG).trans (C2)))
  ·exact core_held2C _ _ _ _ _ _ _ _ _ _ (by rfl) (by rfl) (ko 2) (known_const _) (fun ρ w kx ky hs=>atE gn (3) (by omega) kx ky)
  ·exact core_heldC _ _ _ _ _ _ _ _ (by rfl) (by rfl) (kc 6 25) (fun ρ w kx hs=>load32 _ _ _ kx ((hs.cell LG).trans (C3)))
  ·exact core_held2C _ _ _ _ _ _ _ _ _ _ (by rfl) (by rfl) (ko 2) (known_const _) (fun ρ w kx ky hs=>atE gn (4) (by omega) kx ky)
  ·exact core_heldC _ _ _ _ _ _ _ _ (by rfl) (by rfl) (kc 8 27) (fun ρ w kx hs=>load32 _ _ _ kx ((hs.cell LG).trans (C4)))
  ·exact core_held2C _ _ _ _ _ _ _ _ _ _ (by rfl) (by rfl) (ko 2) (known_const _) (fun ρ w kx ky hs=>atE gn (5) (by omega) kx ky)
  ·exact core_heldC _ _ _ _ _ _ _ _ (by rfl) (by rfl) (kc 10 29) (fun ρ w kx hs=>load32 _ _ _ kx ((hs.cell LG).trans (C5)))
  ·exact core_held2C _ _ _ _ _ _ _ _ _ _ (by rfl) (by rfl) (ko 2) (known_const _) (fun ρ w kx ky hs=>atE gn (6) (by omega) kx ky)
  ·exact core_heldC _ _ _ _ _ _ _ _ (by rfl) (by rfl) (kc 12 31) (fun ρ w kx hs=>load32 _ _ _ kx ((hs.cell LG).trans (C6)))
  ·exact core_held2C _ _ _ _ _ _ _ _ _ _ (by rfl) (by rfl) (ko 2) (known_const _) (fun ρ w kx ky hs=>atE gn (7) (by omega) kx ky)
  ·exact core_heldC _ _ _ _ _ _ _ _ (by rfl) (by rfl) (kc 14 33) (fun ρ w kx hs=>load32 _ _ _ kx ((hs.cell LG).trans (C7)))
 ·(repeat (refine all_cons ?_ ?_;rotate_left));exact all_nil
  all_goals try exact sA
 intro vs y1 hc
 obtain ⟨vv0,vv1,vv2,vv3,vv4,vv5,vv6,vv7,vv8,vv9,vv10,vv11,vv12,vv13,vv14,vv15,rfl⟩:=len16 vs hc.lv
 have qq0:=okv hc 0
 have qq1:=okv hc 1
 have qq2:=okv hc 2
 have qq3:=okv hc 3
 have qq4:=okv hc 4
 have qq5:=okv hc 5
 have qq6:=okv hc 6
 have qq7:=okv hc 7
 have qq8:=okv hc 8
 have qq9:=okv hc 9
 have qq10:=okv hc 10
 have qq11:=okv hc 11
 have qq12:=okv hc 12
 have qq13:=okv hc 13
 have qq14:=okv hc 14
 have qq15:=okv hc 15
 have BZ:=hc.bel
 clear hc
 subst qq0 qq1 qq2 qq3 qq4 qq5 qq6 qq7 qq8 qq9 qq10 qq11 qq12 qq13 qq14 qq15
 simp only [List.map_cons,List.map_nil,over,Act.put,List.setIfInBounds_toArray,List.set_cons_zero,List.set_cons_succ]
 refine assign_one (i:=16) _ 5 _ _ _ (.int .u32 (sa:Nat)) (by kernel_rfl) (by rfl) (by rfl) (BZ) ?_
 try simp only [Act.put,List.setIfInBounds_toArray,List.set_cons_zero,List.set_cons_succ]
 refine assign_one (i:=17) _ 6 _ _ _ (.int .u32 (sb:Nat)) (by kernel_rfl) (by rfl) (by rfl) (BZ) ?_
 try simp only [Act.put,List.setIfInBounds_toArray,List.set_cons_zero,List.set_cons_succ]
 refine assign_one (i:=18) _ 7 _ _ _ (.int .u32 (sc:Nat)) (by kernel_rfl) (by rfl) (by rfl) (BZ) ?_
 try simp only [Act.put,List.setIfInBounds_toArray,List.set_cons_zero,List.set_cons_succ]
 refine assign_one (i:=19) _ 8 _ _ _ (.int .u32 (sd:Nat)) (by kernel_rfl) (by rfl) (by rfl) (BZ) ?_
 try simp only [Act.put,List.setIfInBounds_toArray,List.set_cons_zero,List.set_cons_succ]
 refine assign_one (i:=20) _ 9 _ _ _ (.int .u32 (se:Nat)) (by kernel_rfl) (by rfl) (by rfl) (BZ) ?_
 try simp only [Act.put,List.setIfInBounds_toArray,List.set_cons_zero,List.set_cons_succ]
 refine assign_one (i:=21) _ 10 _ _ _ (.int .u32 (sf:Nat)) (by kernel_rfl) (by rfl) (by rfl) (BZ) ?_
 try simp only [Act.put,List.setIfInBounds_toArray,List.set_cons_zero,List.set_cons_succ]
 refine assign_one (i:=22) _ 11 _ _ _ (.int .u32 (sg:Nat)) (by kernel_rfl) (by rfl) (by rfl) (BZ) ?_
 try simp only [Act.put,List.setIfInBounds_toArray,List.set_cons_zero,List.set_cons_succ]
 refine assign_one (i:=23) _ 12 _ _ _ (.int .u32 (sh:Nat)) (by kernel_rfl) (by rfl) (by rfl) (BZ) ?_
 try simp only [Act.put,List.setIfInBounds_toArray,List.set_cons_zero,List.set_cons_succ]
 refine wpAnyH_done (by kernel_rfl) ?_ _
 refine NoPanic.normal ?_
 replace M1:=Lib.hid (M1.out.on BZ)
 replace M2:=Lib.hid (M2.out.on BZ)
 replace M3:=Lib.hid (M3.out.on BZ)
 replace MB:=Lib.hid (bel_tr MB.out BZ)
 replace TT:=Lib.hid (TT.out.on BZ)
 clear BZ C0 C1 C2 C3 C4 C5 C6 C7 LG
 have hbl:Hid ((bs B).length=64):=Lib.hid (by rw [bs_len,HL.out])
 obtain ⟨xb,hxb⟩:∃ xb,bs B=xb:=⟨_,rfl⟩
 have SP:Hid (∀ w,Calls Tryd.prog 92 #[.agg xb.toArray] w fun e w'=>e=.returned (.agg (hs (sched B)).toArray)∧Below w.heap.size w w'):=Lib.hid (fun w=>by rw [← hxb];exact spread_ok B HL.out HB.out w)
 rw [hxb] at M2 hbl
 clear hxb
 go_wp2_with (first | (refine law_load (ty:=112) gb 0 xb _ rfl M2.out.all under_block rfl (by rw [size_block,hbl.out]) ?_) | (go_at_call 92;refine (SP.out _).mono ?_;rintro e w5 ⟨rfl,B5⟩))
 replace M1:=Lib.hid (M1.out.on B5)
 replace M3:=Lib.hid (M3.out.on B5)
 replace MB:=Lib.hid (bel_tr MB.out B5)
 replace TT:=Lib.hid (TT.out.on B5)
 have WL:=Lib.hid (sched_lt B HB.out)
 have WN:=Lib.hid (sched_len B)
 obtain ⟨ws,hws⟩:∃ ws,sched B=ws:=⟨_,rfl⟩
 have HW:=Lib.hid hws
 rw [hws] at WL WN ⊢
 obtain ⟨xw,hxw⟩:∃ xw,(hs ws).toArray=xw:=⟨_,rfl⟩
 have XW:Hid (∀ k,k<64→xw[k]? = some (.int .u32 (ws.getD k 0:Nat))):=Lib.hid (fun k hk=>by rw [← hxw,List.getElem?_toArray];exact hs_at ws k (by rw [WN.out];exact hk))
 rw [hxw]
 clear hws hxw B5 M2 SP hbl
 go_loopw [5,6,7,8,9,10,11,12,37] (fun va vb vc vd ve vf vg vh s' wr=>∃ (i:Nat) (st:St),i≤64∧st=rounds cubes ws s i∧s'=.int .i64 i∧va=.int .u32 (st.a:Nat)∧vb=.int .u32 (st.b:Nat)∧vc=.int .u32 (st.c:Nat)∧vd=.int .u32 (st.d:Nat)∧ve=.int .u32 (st.e:Nat)∧vf=.int .u32 (st.f:Nat)∧vg=.int .u32 (st.g:Nat)∧vh=.int .u32 (st.h:Nat)∧At wr gn 111 (hs s.list).toArray∧At wr gr 111 (hs (List.replicate 8 0)).toArray∧Tabs wr∧Below w.heap.size w wr) (fun _ _ _ _ _ _ _ _ s' _=>64-(intOf s').toNat)
 case atStart=>exact ⟨0,s,by omega,rfl,rfl,by rw [HS.out],by rw [HS.out],by rw [HS.out],by rw [HS.out],by rw [HS.out],by rw [HS.out],by rw [HS.out],by rw [HS.out],M1.out,M3.out,TT.out,MB.out⟩
 case round=>
  obtain ⟨i,⟨a,b,c,d,e,f,g,h⟩,hi,hst,rfl,rfl,rfl,rfl,rfl,rfl,rfl,rfl,rfl,P1,P3,PT,PB⟩:=hrel
  clear M1 M3 TT MB
  have Q1:=Lib.hid P1
  have Q3:=Lib.hid P3
  have QT:=Lib.hid PT
  have QB:=Lib.hid PB
  have QS:=Lib.hid hst
  clear P1 P3 PT PB hst
  by_cases hlt:i<64
  ·have OK:=QS.out ▸ rounds_ok (K:=cubes) (W:=ws) HO.out i
   have oa:=OK.a
   have ob:=OK.b
   have oc:=OK.c
   have od:=OK.d
   have oe:=OK.e
   have of:=OK.f
   have og:=OK.g
   have oh:=OK.h
   simp only at oa ob oc od oe of og oh
   have NX:=Lib.hid (show rounds cubes ws s (i+1)=St.rnd ⟨a,b,c,d,e,f,g,h⟩ (cubes.getD i 0) (ws.getD i 0) by rw [rounds,← QS.out])
   have KC:=QT.out.k i hlt
   have okk:=cubes_lt' i
   have oww:=getD_lt ws WL.out i
   have XI:=XW.out i hlt
   have LT:=QT.out.lt1
   generalize cubes.getD i 0=kk at *
   generalize ws.getD i 0=ww at *
   clear OK
   have IX:=fun w=>inst64 i hlt xw _ XI w
   have hlt':(i:Int)<64:=by omega
   clear XI
   go_wp2
   try simp only [List.append_eq,List.cons_append,List.nil_append]
   refine wp_region_noPanic ?_
   refine wp_region_held_drew (S:=fun w'=>Below wr.heap.size wr w') (by kernel_rfl) ((Below.refl _ _).drew) (fun _=>?_)
   refine wpAnyH_cores (fuel:=1) (⟨0,41,[],Kind.val (.int .u32 (h:Nat)),true⟩::⟨1,42,[0],Kind.val (.int .u32 (e:Nat)),true⟩::⟨5,46,[1],Kind.val (.int .u32 (e:Nat)),true⟩::⟨6,47,[2],Kind.val (.int .u32 (f:Nat)),true⟩::⟨7,48,[2,3],Kind.val (.int .u32 ((e) &&& (f):Nat)),true⟩::⟨8,49,[4],Kind.val (.int .u32 (e:Nat)),true⟩::⟨9,50,[5],Kind.val (.int .u32 ((4294967295-(e)):Nat)),true⟩::⟨10,51,[6],Kind.val (.int .u32 (g:Nat)),true⟩::⟨11,52,[6,7],Kind.val (.int .u32 (((4294967295-(e))) &&& (g):Nat)),true⟩::⟨12,53,[4,8],Kind.val (.int .u32 (((e) &&& (f)) ||| (((4294967295-(e))) &&& (g)):Nat)),true⟩::⟨14,55,[9],Kind.val (.int .i64 (i:Nat)),true⟩::⟨15,56,[10],Kind.val (.pointer (some ⟨1,i,none⟩)),true⟩::⟨16,57,[11],Kind.val (.int .u32 (kk:Nat)),true⟩::⟨18,59,[12],Kind.val (.int .u32 (ww:Nat)),true⟩::⟨2,43,[13],Kind.slice wr.heap.size 3 #[.int .i64 6,.int .i64 11,.int .i64 25] 3,false⟩::⟨3,44,[1,13,14],Kind.val (.int .u32 (turn e [6,11,25]:Nat)),false⟩::⟨4,45,[0,13,15],Kind.val (.int .u32 ((h+(turn e [6,11,25]))%4294967296:Nat)),true⟩::⟨13,54,[9,13,16],Kind.val (.int .u32 ((((h+(turn e [6,11,25]))%4294967296)+(((e) &&& (f)) ||| (((4294967295-(e))) &&& (g))))%4294967296:Nat)),true⟩::⟨17,58,[12,13,17],Kind.val (.int .u32 ((((((h+(turn e [6,11,25]))%4294967296)+(((e) &&& (f)) ||| (((4294967295-(e))) &&& (g))))%4294967296)+kk)%4294967296:Nat)),true⟩::⟨19,60,[13,18],Kind.val (.int .u32 ((((((((h+(turn e [6,11,25]))%4294967296)+(((e) &&& (f)) ||| (((4294967295-(e))) &&& (g))))%4294967296)+kk)%4294967296)+ww)%4294967296:Nat)),true⟩::[]) _ _ wr _ ?_ ?_ ?_ ?_ ?_ ?_ ?_ ?_ ?_ ?_ ?_
   ·rfl
   ·kernel_rfl
   ·exact of_decide_eq_true (by kernel_rfl)
   ·(repeat refine all_cons ⟨_,by rfl,by rfl⟩ ?_);exact all_nil
   ·exact fun _ hb=>hb
   ·exact (Below.refl _ _).drew
   ·kernel_rfl
   ·exact fun _ _ _ _ _ h=>h
   ·(repeat (refine all_cons ?_ ?_;rotate_left));exact all_nil
    ·exact core_move _ _ _ _ _ _ (by rfl) (by rfl) (ko 12)
    ·exact core_move _ _ _ _ _ _ (by rfl) (by rfl) (ko 9)
    ·exact core_move _ _ _ _ _ _ (by rfl) (by rfl) (ko 9)
    ·exact core_move _ _ _ _ _ _ (by rfl) (by rfl) (ko 10)
    ·exact core_held2C _ _ _ _ _ _ _ _ _ _ (by rfl) (by rfl) (kc 2 46) (kc 3 47) (fun ρ w kx ky hs=>and32 _ _ (oe) (of) kx ky)
    ·exact core_move _ _ _ _ _ _ (by rfl) (by rfl) (ko 9)
    ·exact core_heldC _ _ _ _ _ _ _ _ (by rfl) (by rfl) (kc 5 49) (fun ρ w kx hs=>not32 _ (oe) kx)
    ·exact core_move _ _ _ _ _ _ (by rfl) (by rfl) (ko 11)
    ·exact core_held2C _ _ _ _ _ _ _ _ _ _ (by rfl) (by rfl) (kc 6 50) (kc 7 51) (fun ρ w kx ky hs=>and32 _ _ (Nat.lt_of_le_of_lt (Nat.sub_le _ _) (by decide)) (og) kx ky)
    ·exact core_held2C _ _ _ _ _ _ _ _ _ _ (by rfl) (by rfl) (kc 4 48) (kc 8 52) (fun ρ w kx ky hs=>or32 _ _ (lt32_and (oe)) (lt32_and (Nat.lt_of_le_of_lt (Nat.sub_le _ _) (by decide))) kx ky)
    ·exact core_move _ _ _ _ _ _ (by rfl) (by rfl) (ko 13)
    ·exact core_held2C _ _ _ _ _ _ _ _ _ _ (by rfl) (by rfl) (known_global 1) (kc 10 55) (fun ρ w kx ky hs=>at64 1 (i) (by omega) kx ky)
    ·exact core_heldC _ _ _ _ _ _ _ _ (by rfl) (by rfl) (kc 11 56) (fun ρ w kx hs=>load32 _ _ _ kx ((hs.cell LT).trans (KC)))
    ·exact core_move _ _ _ _ _ _ (by rfl) (by rfl) (ko 14)
    ·exact core_pureAs _ (by rfl)
    ·exact core_pureAs _ (by rfl)
    ·exact core_held2C _ _ _ _ _ _ _ _ _ _ (by rfl) (by rfl) (kc 0 41) (kc 15 44) (fun ρ w kx ky hs=>add32 _ _ kx ky)
    ·exact core_held2C _ _ _ _ _ _ _ _ _ _ (by rfl) (by rfl) (kc 16 45) (kc 9 53) (fun ρ w kx ky hs=>add32 _ _ kx ky)
    ·exact core_held2C _ _ _ _ _ _ _ _ _ _ (by rfl) (by rfl) (kc 17 54) (kc 12 57) (fun ρ w kx ky hs=>add32 _ _ kx ky)
    ·exact core_held2C _ _ _ _ _ _ _ _ _ _ (by rfl) (by rfl) (kc 18 58) (kc 13 59) (fun ρ w kx ky hs=>add32 _ _ kx ky)
   ·(repeat (refine all_cons ?_ ?_;rotate_left));exact all_nil
    all_goals try exact sA
    ·exact fun _=>core_build _ _ _ _ _ _ _ _ _ _ (by rfl) (by rfl) (Nat.le_refl _) (fun ρ w hc=>build3 6 11 25 hc)
    ·exact fun _=>core_callS _ 93 _ _ _ 43 _ _ _ _ _ _ _ 14 _ _ _ _ (by rfl) Tryd.func93 (by kernel_rfl) (by rfl) (by rfl) (kc 1 42) (of_decide_eq_true (by rfl)) (by rfl) (by rfl) (by rfl) (fun w g h=>turned_ok _ _ 3 3 [6,11,25] w (oe) (by decide) (At.rdI h [6,11,25]) (by decide))
   intro vs y2 hc
   obtain ⟨vv0,vv1,vv2,vv3,vv4,vv5,vv6,vv7,vv8,vv9,vv10,vv11,vv12,vv13,vv14,vv15,vv16,vv17,vv18,vv19,rfl⟩:=len20 vs hc.lv
   have qq0:=okv hc 0
   have qq1:=okv hc 1
   have qq2:=okv hc 2
   have qq3:=okv hc 3
   have qq4:=okv hc 4
   have qq5:=okv hc 5
   have qq6:=okv hc 6
   have qq7:=okv hc 7
   have qq8:=okv hc 8
   have qq9:=okv hc 9
   have qq10:=okv hc 10
   have qq11:=okv hc 11
   have qq12:=okv hc 12
   have qq13:=okv hc 13
   obtain ⟨xx,hx,gg14,hv,_,_⟩:=hc.ok 14 _ rfl rfl
   have qq14:vv14=.slice (some ⟨gg14,0,none⟩) 3 3:=(Option.some.inj (show some vv14=some xx from hx)).trans hv
   clear hx hv
   have qq15:=okv hc 15
   have qq16:=okv hc 16
   have qq17:=okv hc 17
   have qq18:=okv hc 18
   have qq19:=okv hc 19
   have BZ:=hc.bel
   clear hc
   subst qq0 qq1 qq2 qq3 qq4 qq5 qq6 qq7 qq8 qq9 qq10 qq11 qq12 qq13 qq14 qq15 qq16 qq17 qq18 qq19
   simp only [List.map_cons,List.map_nil,over,Act.put,List.setIfInBounds_toArray,List.set_cons_zero,List.set_cons_succ]
   refine assign_one (i:=20) _ 15 _ _ _ (.int .u32 ((((((((h+(turn e [6,11,25]))%4294967296)+(((e) &&& (f)) ||| (((4294967295-(e))) &&& (g))))%4294967296)+kk)%4294967296)+ww)%4294967296:Nat)) (by kernel_rfl) (by rfl) (by rfl) (BZ) ?_
   try simp only [Act.put,List.setIfInBounds_toArray,List.set_cons_zero,List.set_cons_succ]
   refine wpAnyH_done (by kernel_rfl) ?_ _
   refine NoPanic.normal ?_
   replace Q1:=Lib.hid (Q1.out.on BZ)
   replace Q3:=Lib.hid (Q3.out.on BZ)
   replace QB:=Lib.hid (bel_tr QB.out BZ)
   replace QT:=Lib.hid (QT.out.on BZ)
   obtain ⟨t,ht⟩:∃ t,St.t ⟨a,b,c,d,e,f,g,h⟩ kk ww=t:=⟨_,rfl⟩
   have ht':(((((((h+(turn e [6,11,25]))%4294967296)+(((e) &&& (f)) ||| (((4294967295-(e))) &&& (g))))%4294967296)+kk)%4294967296)+ww)%4294967296=t:=ht
   rw [ht']
   have HT:=Lib.hid ht
   clear ht ht' BZ KC LT IX okk oww
   obtain ⟨p1,e1⟩:∃ p,a &&& b=p:=⟨_,rfl⟩
   obtain ⟨p2,e2⟩:∃ p,a &&& c=p:=⟨_,rfl⟩
   obtain ⟨p3,e3⟩:∃ p,b &&& c=p:=⟨_,rfl⟩
   obtain ⟨q1,e4⟩:∃ p,p1 ||| p2=p:=⟨_,rfl⟩
   obtain ⟨q2,e5⟩:∃ p,q1 ||| p3=p:=⟨_,rfl⟩
   obtain ⟨r,e6⟩:∃ p,turn a [2,13,22]=p:=⟨_,rfl⟩
   have l1:p1<4294967296:=e1 ▸ lt32_and oa
   have l2:p2<4294967296:=e2 ▸ lt32_and oa
   have l3:p3<4294967296:=e3 ▸ lt32_and ob
   have l4:q1<4294967296:=e4 ▸ lt32_or l1 l2
   have A1:bits BinOp.and IntKind.u32 (a:Int) (b:Int)=(p1:Int):=by rw [u32_and_nat _ _ oa ob,e1]
   have A2:bits BinOp.and IntKind.u32 (a:Int) (c:Int)=(p2:Int):=by rw [u32_and_nat _ _ oa oc,e2]
   have A3:bits BinOp.and IntKind.u32 (b:Int) (c:Int)=(p3:Int):=by rw [u32_and_nat _ _ ob oc,e3]
   have A4:bits BinOp.or IntKind.u32 (p1:Int) (p2:Int)=(q1:Int):=by rw [u32_or_nat _ _ l1 l2,e4]
   have A5:bits BinOp.or IntKind.u32 (q1:Int) (p3:Int)=(q2:Int):=by rw [u32_or_nat _ _ l4 l3,e5]
   have HU:Hid (St.u ⟨a,b,c,d,e,f,g,h⟩=(r+q2)%4294967296):=Lib.hid (by show (turn a [2,13,22]+((a &&& b ||| a &&& c) ||| b &&& c))%4294967296=_;rw [e1,e2,e3,e4,e5,e6])
   have C6:Hid (Calls Tryd.prog 93 #[.int .u32 (a:Nat),.slice (some ⟨y2.heap.size,0,none⟩) 3 3] (y2.alloc (.cells #[.int .i64 2,.int .i64 13,.int .i64 22] 3)) fun e w'=>e=.returned (.int .u32 (r:Nat))∧(y2.alloc (.cells #[.int .i64 2,.int .i64 13,.int .i64 22] 3))=w'):=
    Lib.hid (by rw [← e6];exact turned_ok a _ 3 3 [2,13,22] _ oa (by decide) (At.rdI (At.new _ _ _) [2,13,22]) (by decide))
   clear e1 e2 e3 e4 e5 e6 l1 l2 l3 l4 oa ob oc od oe of og oh
   go_wp2_with (go_at_call 93;refine C6.out.mono ?_;rintro e' w' ⟨rfl,rfl⟩)
   go_roundw
   case rel=>
    have hnext:=NX.out
    have ra:((St.rnd ⟨a,b,c,d,e,f,g,h⟩ kk ww).a:Int)=((t:Int)+((r:Int)+(q2:Int))%4294967296)%4294967296:=by
     show (((St.t ⟨a,b,c,d,e,f,g,h⟩ kk ww+St.u ⟨a,b,c,d,e,f,g,h⟩)%4294967296:Nat):Int)=_
     rw [HT.out,HU.out];omega
    have re:((St.rnd ⟨a,b,c,d,e,f,g,h⟩ kk ww).e:Int)=((d:Int)+(t:Int))%4294967296:=by
     show (((d+St.t ⟨a,b,c,d,e,f,g,h⟩ kk ww)%4294967296:Nat):Int)=_
     rw [HT.out];omega
    refine ⟨i+1,St.rnd ⟨a,b,c,d,e,f,g,h⟩ kk ww,by omega,hnext.symm,by go_num,?_,rfl,rfl,rfl,?_,rfl,rfl,rfl,Q1.out.alloc _,Q3.out.alloc _,QT.out.on (gr_alloc (Below.refl _ _) _),gr_alloc QB.out _⟩
    ·rw [ra]
    ·rw [re]
   case measure=>simp [intOf];omega
  ·obtain rfl:i=64:=by omega
   have FIN:Hid (comp s B=s.add ⟨a,b,c,d,e,f,g,h⟩):=Lib.hid (by rw [comp,HW.out,← QS.out])
   have LM:Hid ((⟨a,b,c,d,e,f,g,h⟩:St).list=[a,b,c,d,e,f,g,h]):=Lib.hid rfl
   clear QS hi hlt HS HW XW WL WN
   go_wp2
   obtain ⟨lm,hlm⟩:∃ l:List Nat,l=[a,b,c,d,e,f,g,h]:=⟨_,rfl⟩
   have XE:Hid (∀ k,k<8→(#[.int .u32 (a:Nat),.int .u32 (b:Nat),.int .u32 (c:Nat),.int .u32 (d:Nat),.int .u32 (e:Nat),.int .u32 (f:Nat),.int .u32 (g:Nat),.int .u32 (h:Nat)]:Array Value)[k]? = some (.int .u32 (lm.getD k 0:Nat))):=Lib.hid (fun k hk=>by
    rw [show (#[.int .u32 (a:Nat),.int .u32 (b:Nat),.int .u32 (c:Nat),.int .u32 (d:Nat),.int .u32 (e:Nat),.int .u32 (f:Nat),.int .u32 (g:Nat),.int .u32 (h:Nat)]:Array Value)=(hs lm).toArray by rw [hlm];rfl,List.getElem?_toArray]
    exact hs_at lm k (by rw [hlm];exact hk))
   generalize (#[.int .u32 (a:Nat),.int .u32 (b:Nat),.int .u32 (c:Nat),.int .u32 (d:Nat),.int .u32 (e:Nat),.int .u32 (f:Nat),.int .u32 (g:Nat),.int .u32 (h:Nat)]:Array Value)=xe at *
   have MZ:Hid (mix s.list lm 0=s.list):=Lib.hid (mix_zero s lm)
   have MA:Hid (mix s.list lm 8=(comp s B).list):=Lib.hid (by rw [FIN.out,← mix_all,LM.out,hlm])
   have SL:=Lib.hid (list_lt HO.out)
   clear hlm LM FIN
   go_loopw [98] (fun s' wr=>∃ i:Nat,i≤8∧s'=.int .i64 i∧At wr gn 111 (hs (mix s.list lm i)).toArray∧At wr gr 111 (hs (List.replicate 8 0)).toArray∧Below w.heap.size w wr) (fun s' _=>8-(intOf s').toNat)
   case atStart=>exact ⟨0,by omega,rfl,by rw [MZ.out];exact Q1.out,Q3.out,QB.out⟩
   case round=>
    obtain ⟨i,hi,rfl,P1,P3,PB⟩:=hrel
    clear Q1 Q3 QB QT MZ
    by_cases hlt:i<8
    ·have hlt':(i:Int)<8:=by omega
     have IX:=fun w=>instE i hlt xe _ (XE.out i hlt) w
     have OLD:=P1.word i (by rw [mix_len];exact hlt)
     rw [mix_at _ _ _ hlt] at OLD
     have FRZ:=P1.frozen i
     have LG:=P1.lt
     have MS:=Lib.hid (mix_set s.list lm i hlt)
     generalize lm.getD i 0=q at *
     generalize s.list.getD i 0=p at *
     have R1:=Lib.hid P1
     have R3:=Lib.hid P3
     have RB:=Lib.hid PB
     clear P1 P3 PB
     go_wp2
     go_roundw
     case rel=>
      refine ⟨i+1,by omega,by go_num,?_,R3.out.far (p:=⟨gn,i,none⟩) (fun e=>D13 e) _,RB.out.setCell E1 _⟩
      have h:=R1.out.set i (.int .u32 ((p+q)%4294967296:Nat))
      rw [List.setIfInBounds_toArray,hs_set,MS.out] at h
      exact h
     case measure=>simp [intOf];omega
    ·obtain rfl:i=8:=by omega
     have hlt':¬ ((8:Nat):Int)<8:=by omega
     rw [MA.out] at P1
     have ho:Hid (∀ u∈hs (comp s B).list,u.oneCell'=true):=Lib.hid (hs_one _)
     have hL:Hid ((hs (comp s B).list).length=8):=Lib.hid (by simp [hs_len,St.list])
     obtain ⟨xs,hxs⟩:∃ xs,hs (comp s B).list=xs:=⟨_,rfl⟩
     have HXS:=Lib.hid hxs
     rw [hxs] at P1 hL ho
     have zz:Hid ((hs (List.replicate 8 0)).length=8):=Lib.hid (by simp [hs_len])
     generalize hs (List.replicate 8 0)=zs at *
     have R1:=Lib.hid P1
     have R3:=Lib.hid P3
     have RB:=Lib.hid PB
     clear P1 P3 PB hxs hi hlt
     go_wp2_with (first | (refine law_load (ty:=111) gn 0 xs _ rfl R1.out.all under_eight rfl (by rw [size_eight,hL.out]) ?_) | (refine law_store (ty:=111) gr 0 _ _ xs rfl rfl R3.out (by simp [hL.out,zz.out]) (by rw [size_eight,hL.out]) ho.out ?_;intro w7 P7))
     have L7:=P7.at_
     rw [put_all _ _ (by rw [hL.out,zz.out])] at L7
     refine ret_cell (ty:=111) rfl gr _ xs _ rfl L7 under_eight rfl (by rw [size_eight,hL.out]) rfl ⟨by rw [HXS.out],RB.out.grown P7.grown (by have:=RB.out.size;omega) (by simp;omega)⟩
end Go.Proofs.YtlphnfajhpkleaaDoor.By
