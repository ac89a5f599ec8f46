/-
 A hash is equal to itself.
-/
import Derived.Test.YtlphnfajhpkleaaDoorProg
import Derived.Deep.QuietTactic
import Derived.BigQuiet
import Derived.Outline
import Derived.Laws.AppendOwnNone
import Derived.Lib.Hide
import Derived.Test.YtlphnfajhpkleaaDoorMByLaw
import Derived.Test.YtlphnfajhpkleaaDoorMByPutL
import Derived.Test.YtlphnfajhpkleaaDoorMBySet
import Derived.Test.YtlphnfajhpkleaaDoorMByTaken
namespace Go.Proofs.YtlphnfajhpkleaaDoor.By
set_option maxRecDepth 100000
open Go.RowKit
set_option linter.unusedSimpArgs false
set_option linter.unusedVariables false

end Go.Proofs.YtlphnfajhpkleaaDoor.By

/-
 The statements' helpers TwinBytes (a copy with one byte of spare room behind it) and LeftBytes (it is as it was).
-/
namespace Go.Proofs.YtlphnfajhpkleaaDoor.By
set_option maxRecDepth 100000
set_option linter.unusedSimpArgs false
set_option linter.unusedVariables false
open Go.RowKit

def Twin (w:World) (g:Nat) (l:List Nat):Prop:=At w g 5 (bs (l++[77])).toArray

theorem Twin.rd {w:World} {g:Nat} {l:List Nat} (h:Twin w g l):Rd w (some ⟨g,0,none⟩) l.length (bs l):=by
 refine ⟨bs_len l,fun _=>⟨g,0,rfl,h.lt,fun j u hu=>?_⟩⟩
 rw [Nat.zero_add,At.cell h j,bs_append]
 have hj:j<(bs l).length:=(List.getElem?_eq_some_iff.1 hu).1
 simp only [List.getElem?_toArray]
 rw [List.getElem?_append_left hj]
 exact hu
theorem Twin.own {w:World} {g N:Nat} {l:List Nat} (h:Twin w g l) (hN:N≤g) (hl:l.length+1≤maxLen):w.ownsRow N 5 1 (.slice (some ⟨g,0,none⟩) l.length (l.length+1)) l.length (bs l):=by
 have:=at_own (base:=N) (n:=l.length) (c:=l.length+1) h hN (by omega) hl (by simp [bs])
 rwa [show (bs (l++[77])).toArray.toList.take l.length=bs l by simp [bs]] at this

end Go.Proofs.YtlphnfajhpkleaaDoor.By

/-
 A sum that is not there,or that New did not make: Write and Hash.
-/
namespace Go.Proofs.YtlphnfajhpkleaaDoor.By
set_option maxRecDepth 100000
open Go.RowKit
set_option linter.unusedSimpArgs false
set_option linter.unusedVariables false

/-- there is none,or its first cell says so -/
def Gone (w:World) (v:Value):Prop:=v=.pointer none∨∃ g,v=.pointer (some ⟨g,0,none⟩)∧w.cell? ⟨g,0,none⟩=some (.bool false)
theorem absent_no (g:Nat) (w:World) (h:w.cell? ⟨g,0,none⟩=some (.bool true)) :
  Calls Tryd.prog 82 #[.pointer (some ⟨g,0,none⟩)] w fun e w'=>e=.returned (.bool false)∧w=w':=by
 go_enter Tryd.func82,Tryd.ntmps82
 go_wp2
 go_ret
 exact ⟨rfl,rfl⟩
theorem Gone.on {v:Value} {w w':World} (h:Gone w v) (hb:Below w.heap.size w w'):Gone w' v:=by
 rcases h with rfl | ⟨g,rfl,h⟩
 ·exact .inl rfl
 ·exact .inr ⟨g,rfl,cell_on hb h⟩
theorem zero_hash:(Tryd.prog.info? 28).map (·.zero)=some (some (.agg (bs (List.replicate 32 0)).toArray)):=by kernel_rfl
theorem size_hash:(Tryd.prog.info? 28).map (·.size)=some 32:=by kernel_rfl
theorem under_hash:Tryd.prog.underlying 28=some (.array 32 5):=by kernel_rfl
end Go.Proofs.YtlphnfajhpkleaaDoor.By


/-
 Small laws of rows: append onto a row of the call's own;a byte of a block;a block that is made and written.
-/
namespace Go.Proofs.YtlphnfajhpkleaaDoor.By
set_option maxRecDepth 100000
open Go.RowKit
set_option linter.unusedSimpArgs false
set_option linter.unusedVariables false

/-- append onto a row of the call's own,from a slice that reads as a list,nil too -/
theorem wpList_append_rd {P:Program} (w:World) {ops:Array Oper} {rest:List Oper} {o:Oper} {a:Act} {Q:Exit→Act→World→Prop} (hgd:o.guard=none) (s x:Operand) (t:TypeId)
  (ho:o.op=.call { callee:=.builtin .append,args:=#[s,x],argTypes:=#[t,t] })
  (base:Nat) (e:TypeId) (i:TypeInfo) (z:Value) (bytes:Nat) (ht:P.underlying t=some (.slice e)) (hi:P.info? e=some i) (hz:i.zero=some z)
  (hsize:i.size=1) (hby:i.bytes=bytes) (hzs:z.cells.size=1)
  (v:Value) (n:Nat) (xs:List Value) (hs:a.eval s=v) (hown:w.ownsRow base e 1 v n xs)
  (A:Option Addr) (m c:Nat) (news:List Value) (hx:a.eval x=.slice A m c) (hnil:A=none→m=0∧c=0) (hr:Rd w A m news) (h1:∀ u∈news,u.oneCell'=true)
  (h63:n+m≤maxLen) (hbytes:(n+m)*bytes≤140737488355328) (hbase:base≤w.heap.size)
  (h:∀ v' w',w'.ownsRow base e 1 v' (n+m) (xs++news)→w.grownBy w' v.ownBlock→wpList P ops Q rest (a.put o.dst v') w') :
  wpList P ops Q (o::rest) a w:=by
 cases A with
 | none=>
  obtain ⟨rfl,rfl⟩:=hnil rfl
  have hn:news=[]:=List.eq_nil_of_length_eq_zero hr.1
  subst hn
  exact wpList_append_own_none hgd s x t ho base e i 1 ht hi v n xs hs hown hx (h v w (by simpa using hown) (World.grownBy.refl _ _))
 | some ad=>exact wpList_append_own w hgd s x t ho base e i z 1 bytes ht hi hz hsize hby hzs (by decide) v n xs hs hown ad m c news hx (by rw [hr.1,Nat.mul_one]) (hr.src ad rfl) h1 h63 hbytes hbase fun v' w' h2 h3 _=>h v' w' h2 h3

theorem At.byte {w:World} {g:Nat} {t:TypeId} {l:List Nat} (h:At w g t (bs l).toArray) (k:Nat) (hk:k<l.length):w.cell? ⟨g,k,none⟩=some (.int .u8 (l.getD k 0:Nat)):=by
 rw [h.cell,List.getElem?_toArray];exact bs_at l k hk
theorem Twin.on {w w':World} {g:Nat} {l:List Nat} (h:Twin w g l) (hb:Below w.heap.size w w'):Twin w' g l:=At.on h hb
theorem New.put {w w1 w2:World} {t:TypeId} {cs cs':Array Value} (h:New w w1 t cs) (p:Put w1 w2 w.heap.size t cs'):Below w.heap.size w w2:=
 h.bel.grown p.grown (by rw [h.size];omega) (fun k e=>by injection e with e;omega)
end Go.Proofs.YtlphnfajhpkleaaDoor.By

/-
 shas.told: four bytes each.
-/
namespace Go.Proofs.YtlphnfajhpkleaaDoor.By
set_option maxRecDepth 100000
open Go.RowKit
set_option linter.unusedSimpArgs false
set_option linter.unusedVariables false

theorem Rd.range {w:World} {b o n:Nat} {xs:List Value} (h:Rd w (some ⟨b,o,none⟩) n xs):w.rangeAt b o xs:=fun j v hj=>by
 have hn:0<n:=by have:=(List.getElem?_eq_some_iff.1 hj).1;have:=h.1;omega
 obtain ⟨b',o',e,_,hc⟩:=h.2 hn
 injection e with e
 injection e with e1 e2
 subst e1 e2
 exact hc j v hj
theorem told_step (l:List Nat) (i:Nat) (h:i<l.length):(l.take i).flatMap (be 4)++be 4 (l.getD i 0)=(l.take (i+1)).flatMap (be 4):=by
 rw [List.take_succ_eq_append_getElem h,List.flatMap_append,List.getD_eq_getElem?_getD,List.getElem?_eq_getElem h]
 simp
theorem told_len (l:List Nat):(l.flatMap (be 4)).length=4*l.length:=by
 induction l with
 | nil=>rfl
 | cons x l ih=>simp [ih,be_len];omega

theorem arr_run (A:Option Addr) (c:Nat) (w:World):(Instr.arrayAt 28 (.slice A 32 c)).run Tryd.prog w=.ok (.pointer A) w:=by
 simp only [Instr.arrayAt,Sem.run_bind,run_underlying under_hash,Result.andThen_ok]
 simp
set_option maxRecDepth 100000 in
set_option maxHeartbeats 4000000 in
theorem told_ok (s:St) (o:s.Ok) (w:World) :
  Calls Tryd.prog 85 #[.agg (hs s.list).toArray] w fun e w'=>e=.returned (.agg (bs (s.list.flatMap (be 4))).toArray)∧Below w.heap.size w w':=by
 have SL:=Lib.hid (list_lt o)
 have SN:Hid (s.list.length=8):=Lib.hid rfl
 have hL:Hid ((hs s.list).length=8):=Lib.hid rfl
 generalize s.list=l at *
 have XE:Hid (∀ k,k<8→(hs l).toArray[k]? = some (.int .u32 (l.getD k 0:Nat))):=Lib.hid (fun k hk=>by rw [List.getElem?_toArray];exact hs_at l k (by rw [SN.out];exact hk))
 obtain ⟨xs,hxs⟩:∃ xs,hs l=xs:=⟨_,rfl⟩
 rw [hxs] at XE hL ⊢
 clear hxs o
 go_enter Tryd.func85,Tryd.ntmps85
 go_wp2_with (first | (refine law_box (d:=1) (ty:=111) xs.toArray rfl ?_;intro w1 N1) | (refine law_alloc (d:=2) (ty:=28) _ zero_hash ?_;intro w2 N2) | (refine law_load (ty:=111) w.heap.size 0 xs _ rfl (N1.at_.on N2.bel).all under_eight rfl (by rw [size_eight,hL.out]) ?_))
 have L2:=N2.at_
 have BW:=bel_tr N1.bel N2.bel
 have E2:w.heap.size≤w1.heap.size:=N1.bel.size
 clear N1 N2
 generalize w1.heap.size=gr at *
 have M2:=Lib.hid L2
 have MB:=Lib.hid BW
 clear L2 BW
 go_loopw [3,7] (fun v s' wr=>∃ (i:Nat) (A:Option Addr),i≤8∧s'=.int .i64 i∧v=.slice A (4*i) (4*i)∧(A=none→4*i=0∧4*i=0)∧Rd wr A (4*i) (bs ((l.take i).flatMap (be 4)))∧At wr gr 28 (bs (List.replicate 32 0)).toArray∧Below w.heap.size w wr) (fun _ s' _=>8-(intOf s').toNat)
 case atStart=>exact ⟨0,none,by omega,rfl,rfl,fun _=>⟨rfl,rfl⟩,Rd.nil _ _,M2.out,MB.out⟩
 case round=>
  obtain ⟨i,A,hi,rfl,rfl,hA,hr,P2,PB⟩:=hrel
  clear M2 MB
  by_cases hlt:i<8
  ·have hlt':(i:Int)<8:=by omega
   have IX:=fun w=>instE i hlt xs.toArray _ (XE.out i hlt) w
   have lx:=getD_lt l SL.out i
   have st:=Lib.hid (told_step l i (by rw [SN.out];exact hlt))
   generalize l.getD i 0=x at *
   have cv:IntKind.u64.wrap (x:Int)=(x:Int):=by rw [IntKind.wrap_u64];omega
   have C:=Lib.hid (put_any A (4*i) (4*i) 4 x 4 _ wr (.inr (.inl ⟨by decide,by decide,rfl⟩)) (by omega) (Nat.le_refl _) hA hr (by omega))
   have Q2:=Lib.hid P2
   have QB:=Lib.hid PB
   clear P2 PB hr hA
   have e4:(4:Int)*(i:Int)=((4*i:Nat):Int):=by omega
   go_wp2_with (go_at_call 68;refine C.out.mono ?_;rintro e w' ⟨rfl,hown,hb⟩)
   go_roundw
   case rel=>
    have hR:=Rd.own hown
    rw [st.out] at hR
    exact ⟨i+1,_,by omega,by go_num,rfl,(fun h=>by cases h),hR,Q2.out.on hb,bel_tr QB.out hb⟩
   case measure=>simp [intOf];omega
  ·obtain rfl:i=8:=by omega
   obtain ⟨b,off,rfl,hbs,_⟩:=hr.spot (show 0<4*8 by omega)
   rw [List.take_of_length_le (by rw [SN.out];omega)] at hr
   have RG:=Lib.hid hr.range
   have hL2:Hid ((bs (l.flatMap (be 4))).length=32):=Lib.hid (by rw [bs_len,told_len,SN.out])
   have ho:=Lib.hid (bs_one (l.flatMap (be 4)))
   obtain ⟨ys,hys⟩:∃ ys,bs (l.flatMap (be 4))=ys:=⟨_,rfl⟩
   have HYS:=Lib.hid hys
   rw [hys] at RG hL2 ho
   have zz:Hid ((bs (List.replicate 32 0)).length=32):=Lib.hid (by simp [bs_len])
   generalize bs (List.replicate 32 0)=zs at *
   have Q2:=Lib.hid P2
   have QB:=Lib.hid PB
   clear P2 PB hr hA hys hi hlt
   have IA:=fun w=>arr_run (some ⟨b,off,none⟩) 32 w
   go_wp2_with (first | (refine law_load (ty:=28) b off ys _ rfl RG.out under_hash rfl (by rw [size_hash,hL2.out]) ?_) | (refine law_store (ty:=28) gr 0 _ _ ys rfl rfl Q2.out (by simp [hL2.out,zz.out]) (by rw [size_hash,hL2.out]) ho.out ?_;intro w7 P7))
   have L7:=P7.at_
   rw [put_all _ _ (by rw [hL2.out,zz.out])] at L7
   refine ret_cell (ty:=28) rfl gr _ ys _ rfl L7 under_hash rfl (by rw [size_hash,hL2.out]) rfl ⟨by rw [HYS.out],QB.out.grown P7.grown (by have:=QB.out.size;omega) (by simp;omega)⟩
end Go.Proofs.YtlphnfajhpkleaaDoor.By

/-
 shas.ending: what follows so many bytes,so that all are whole blocks.
-/
namespace Go.Proofs.YtlphnfajhpkleaaDoor.By
set_option maxRecDepth 100000
open Go.RowKit
set_option linter.unusedSimpArgs false
set_option linter.unusedVariables false

theorem made_bytes (n:Nat):(madeCells #[Value.int IntKind.u8 0] n).toList=bs (List.replicate n 0):=by
 apply List.ext_getElem
 ·simp [madeCells,bs]
 ·intro i h1 h2
  simp [madeCells,bs,Value.cells,Nat.mod_one]
set_option maxRecDepth 100000 in
theorem ending_ok (n:Nat) (hn:n<1099511627776) (w:World) :
  Calls Tryd.prog 84 #[.int .u64 (n:Nat)] w fun e w'=>∃ g,w.heap.size≤g∧e=.returned (.slice (some ⟨g,0,none⟩) (noughts n+9) (noughts n+9))∧Rd w' (some ⟨g,0,none⟩) (noughts n+9) (bs (tail n))∧Below w.heap.size w w':=by
 obtain ⟨i0,hi,hz0,hz1,hz2⟩:=info_parts Tryd.info5
 obtain ⟨r,hr⟩:∃ r,n%64=r:=⟨_,rfl⟩
 obtain ⟨q,hq⟩:∃ q,noughts n=q:=⟨_,rfl⟩
 have hrl:r<64:=by omega
 have hql:q<64:=by rw [← hq];unfold noughts;omega
 have HQ:Hid (q=(128-(r+9))%64):=Lib.hid (by rw [← hq,← hr];rfl)
 have HT:=Lib.hid (show tail n=(128::List.replicate q 0)++be 8 (8*n) by rw [tail,hq])
 rw [hq]
 have F1:Int.tmod (n:Int) 64=(r:Int):=by rw [← hr];exact Int.ofNat_tmod n 64
 have F2:IntKind.u64.wrap (r:Int)=(r:Int):=by rw [IntKind.wrap_u64];omega
 clear hr hq
 go_enter Tryd.func84,Tryd.ntmps84
 go_wp2_with (at_make;refine wpList_make_full _ rfl _ _ 64 rfl w.heap.size 5 i0 (.int .u8 0) 1 Tryd.underlying64 hi hz0 hz1 _ _ _ _ (q+1) rfl rfl ?hL ?hC ?b2 ?b3 (Nat.le_refl _) ?_)
 case hL=>have:=HQ.out;omega
 case hC=>have:=HQ.out;omega
 case b2=>rw [hz2];omega
 case b3=>unfold maxLen;omega
 intro w0 hown0 hgrow0
 have hb0:Below w.heap.size w w0:=(Below.refl _ _).grown hgrow0 (Nat.le_refl _) (by simp)
 rw [made_bytes] at hown0
 obtain ⟨cur,hat,_,_,_,hsz,htk⟩:=own_at hown0
 rw [List.take_of_length_le (by simp;omega)] at htk
 have hcur:cur=(bs (List.replicate (q+1) 0)).toArray:=by rw [← htk]
 subst hcur
 have c0:w0.cell? ⟨w.heap.size,0,none⟩=some (.int .u8 0):=by rw [hat.cell];simp [bs,List.replicate_succ]
 have f0:=hat.frozen 0
 have LG:=hat.lt
 have HAT:=Lib.hid hat
 have HB0:=Lib.hid hb0
 obtain ⟨g,hg⟩:∃ g,g=w.heap.size:=⟨_,rfl⟩
 rw [← hg] at c0 f0 LG HAT ⊢
 have EG:w.heap.size≤g:=by omega
 clear hown0 hgrow0 hb0 hat hsz htk hg
 have hpos:(0:Int)<(q:Int)+1:=by omega
 have hAt2:Hid (At (w0.setCell ⟨g,0,none⟩ (.int .u8 128)) g 5 (bs (128::List.replicate q 0)).toArray):=Lib.hid (by
  have h:=HAT.out.set 0 (.int .u8 (128:Nat))
  rw [List.setIfInBounds_toArray,bs_set,List.replicate_succ,List.set_cons_zero] at h
  exact h)
 have HB2:Hid (Below w.heap.size w (w0.setCell ⟨g,0,none⟩ (.int .u8 128))):=Lib.hid (HB0.out.setCell EG _)
 have C:=Lib.hid (put_any (some ⟨g,0,none⟩) (q+1) (q+1) 8 (8*n) 8 (128::List.replicate q 0) (w0.setCell ⟨g,0,none⟩ (.int .u8 128)) (.inr (.inl ⟨by decide,by decide,rfl⟩)) (by omega) (Nat.le_refl _) (fun h=>by cases h)
  (by have:=hAt2.out.rdB 0 (Nat.zero_le _);simpa [Nat.add_comm] using this) (by omega))
 have m8:IntKind.u64.wrap (8*(n:Int))=((8*n:Nat):Int):=by rw [IntKind.wrap_u64];omega
 clear HAT HB0
 go_wp2_with fail
 rw [show (8:Int)*(n:Int)=((8*n:Nat):Int) by omega]
 refine C.out.mono ?_
 rintro e w' ⟨rfl,hown,hb⟩
 have hR:=Rd.own hown
 rw [← HT.out] at hR
 have hle:w.heap.size≤(w0.setCell ⟨g,0,none⟩ (.int .u8 128)).heap.size+1:=by have:=HB2.out.size;omega
 clear C hAt2 hown
 go_wp2
 go_ret
 have es:(w0.setCell ⟨g,0,none⟩ (.int .u8 128)).heap.size=w0.heap.size:=by simp [World.setCell]
 rw [es] at hR hle
 refine ⟨_,hle,?_,hR,bel_tr HB2.out hb⟩
 show Ending.returned (Value.slice (some ⟨_,0,none⟩) (q+1+8) (q+1+8))=_
 rw [show q+1+8=q+9 by omega]
end Go.Proofs.YtlphnfajhpkleaaDoor.By

/-
 ShasNone: a sum that is not there,or that no call made,takes nothing,and has noughts.
-/
namespace Go.Proofs.YtlphnfajhpkleaaDoor.By
set_option maxRecDepth 100000
open Go.RowKit
set_option linter.unusedSimpArgs false
set_option linter.unusedVariables false

/-- a sum's cells: made,how many bytes,the numbers,the block -/
def sumC (m:Bool) (n:Nat) (S B:List Nat):List Value:=.bool m::.int .u64 (n:Nat)::(hs S++bs B)
end Go.Proofs.YtlphnfajhpkleaaDoor.By

/-
 shas.New: a sum of no bytes so far;how a sum lies in memory;the operations on its fields.
-/
namespace Go.Proofs.YtlphnfajhpkleaaDoor.By
set_option maxRecDepth 100000
open Go.RowKit
set_option linter.unusedSimpArgs false
set_option linter.unusedVariables false

/-- block g is a sum of the bytes l so far -/
def SumAt (w:World) (g:Nat) (l:List Nat):Prop:=
 ∃ B:List Nat,B.length=64∧(∀ y∈B,y<256)∧At w g 114 (sumC true l.length (run init l (l.length/64)).list B).toArray∧B.take (l.length%64)=l.drop (64*(l.length/64))
theorem SumAt.on {w w':World} {g:Nat} {l:List Nat} (h:SumAt w g l) (hb:Below w.heap.size w w'):SumAt w' g l:=by
 obtain ⟨B,h1,h2,h3,h4⟩:=h
 exact ⟨B,h1,h2,h3.on hb,h4⟩
theorem SumAt.lt {w:World} {g:Nat} {l:List Nat} (h:SumAt w g l):g<w.heap.size:=by
 obtain ⟨B,h1,h2,h3,h4⟩:=h
 exact h3.lt
theorem SumAt.grown {w w':World} {g k:Nat} {l:List Nat} (h:SumAt w g l) (hg:w.grownBy w' (some k)) (hne:g≠k):SumAt w' g l:=by
 obtain ⟨B,h1,h2,h3,h4⟩:=h
 exact ⟨B,h1,h2,h3.grown hg (by simpa using hne),h4⟩
theorem Tabs.grown {w w':World} {g:Nat} (h:Tabs w) (hg:w.grownBy w' (some g)) (h0:g≠0) (h1:g≠1):Tabs w':=by
 refine ⟨fun i hi=>?_,fun j v hv=>?_⟩
 ·have:=h.k i hi
  have hb:=hg.block 1 h.lt1 (by simpa using fun e=>h1 e.symm)
  simpa [World.cell?,hb] using this
 ·have:=h.h j v hv
  have hb:=hg.block 0 (by have:=h.lt1;omega) (by simpa using fun e=>h0 e.symm)
  simpa [World.cell?,hb] using this
/-- a block's new bytes -/
theorem block_step (B L x:List Nat) (r:Nat) (hB:B.length=64) (hr:r=L.length%64) (hx:r+x.length≤64) (h:B.take r=L.drop (64*(L.length/64))) :
  (B.take r++x++B.drop (r+x.length)).length=64∧(B.take r++x++B.drop (r+x.length)).take (r+x.length)=(L++x).drop (64*(L.length/64)):=by
 have hl:(B.take r).length=r:=by rw [List.length_take];omega
 refine ⟨by simp;omega,?_⟩
 rw [List.take_append_of_le_length (by simp;omega),List.take_of_length_le (by simp;omega),h,List.drop_append_of_le_length (by omega)]
theorem size_sum:(Tryd.prog.info? 114).map (·.size)=some 74:=by kernel_rfl
theorem sumC_len (m:Bool) (n:Nat) (S B:List Nat) (hS:S.length=8) (hB:B.length=64):(sumC m n S B).length=74:=by simp [sumC,hs_len,bs_len,hS,hB]
theorem build_sum (w:World):(Instr.build 114 #[(0,.bool true),(2,.agg (hs init.list).toArray)]).run Tryd.prog w=.ok (.agg (sumC true 0 init.list (List.replicate 64 0)).toArray) w:=by kernel_rfl
section
variable {ops:Array Oper} {Q:Exit→Act→World→Prop} {rest:List Oper} {a:Act} {w:World} {d:Tmp} {ty:TypeId} {pos:String} {after:Array Edge} {x y:Operand}
theorem law_buildSum (hx:a.eval x=.agg (hs init.list).toArray)
  (h:wpList Tryd.prog ops Q rest (a.put (some d) (.agg (sumC true 0 init.list (List.replicate 64 0)).toArray)) w):wpList Tryd.prog ops Q (⟨some d,.build 114 #[(0,.const (.bool true)),(2,x)],ty,pos,after,none⟩::rest) a w:=by
 refine law_value rfl ?_ h
 have e:(#[(0,Operand.const (.bool true)),(2,x)]:Array (Nat × Operand)).map (fun p=>(p.1,a.eval p.2))=#[(0,.bool true),(2,.agg (hs init.list).toArray)]:=by simp only [List.map_toArray,List.map_cons,List.map_nil,hx];rfl
 simp only [execOp]
 rw [show (#[(0,Operand.const (.bool true)),(2,x)]:Array (Nat × Operand)).map (fun (i,x)=>(i,a.eval x))=#[(0,.bool true),(2,.agg (hs init.list).toArray)] from e]
 simp only [Sem.run_bind,build_sum,Result.andThen_ok,Sem.run_pure]
end
set_option maxRecDepth 100000 in
theorem new_ok (w:World) (T:Tabs w):Calls Tryd.prog 65 #[] w fun e w'=>e=.returned (.pointer (some ⟨w.heap.size,0,none⟩))∧SumAt w' w.heap.size []∧Below w.heap.size w w':=by
 have TT:=Lib.hid T
 clear T
 go_enter Tryd.func65,Tryd.ntmps65
 go_wp2_with (first | (refine law_load (ty:=111) 0 0 (hs init.list) _ rfl TT.out.h under_eight rfl (by rw [size_eight];rfl) ?_) | (refine law_buildSum rfl ?_) | (refine law_box (ty:=114) (sumC true 0 init.list (List.replicate 64 0)).toArray rfl ?_;intro w1 N1))
 go_ret
 exact ⟨rfl,⟨List.replicate 64 0,by simp,by intro y hy;rw [(List.mem_replicate.1 hy).2];decide,N1.at_,rfl⟩,N1.bel⟩
end Go.Proofs.YtlphnfajhpkleaaDoor.By

/-
 How a sum goes on,in words of lists;a sum's cells written anew.
-/
namespace Go.Proofs.YtlphnfajhpkleaaDoor.By
set_option maxRecDepth 100000
open Go.RowKit
set_option linter.unusedSimpArgs false
set_option linter.unusedVariables false

def B' (B xs:List Nat) (r:Nat):List Nat:=B.take r++xs++B.drop (r+xs.length)
theorem B'_len (B xs:List Nat) (r:Nat) (hB:B.length=64) (hx:r+xs.length≤64):(B' B xs r).length=64:=by simp [B'];omega
theorem B'_lt (B xs:List Nat) (r:Nat) (hB:∀ y∈B,y<256) (hx:∀ y∈xs,y<256):∀ y∈B' B xs r,y<256:=by
 intro y hy
 simp only [B',List.mem_append] at hy
 rcases hy with (hy | hy) | hy
 ·exact hB y (List.mem_of_mem_take hy)
 ·exact hx y hy
 ·exact hB y (List.mem_of_mem_drop hy)
theorem B'_take (B L x:List Nat) (r:Nat) (hB:B.length=64) (hr:L.length%64=r) (hx:r+x.length≤64) (h:B.take r=L.drop (64*(L.length/64))) :
  (B' B x r).take (r+x.length)=(L++x).drop (64*(L.length/64)):=(block_step B L x r hB hr.symm hx h).2
theorem next_in (B L x:List Nat) (r:Nat) (hB:B.length=64) (hr:L.length%64=r) (hx:r+x.length≤64) (h:B.take r=L.drop (64*(L.length/64))) (hz:(L.length+x.length)%64≠0) :
  run init (L++x) ((L++x).length/64)=run init L (L.length/64)∧(B' B x r).take ((L++x).length%64)=(L++x).drop (64*((L++x).length/64)):=by
 have e1:(L++x).length/64=L.length/64:=by rw [List.length_append];omega
 have e2:(L++x).length%64=r+x.length:=by rw [List.length_append];omega
 rw [e1,e2]
 exact ⟨run_append _ _ _ _ (by omega),B'_take B L x r hB hr hx h⟩
theorem next_full (B L x:List Nat) (r:Nat) (hB:B.length=64) (hr:L.length%64=r) (hx:r+x.length≤64) (hx0:0<x.length) (h:B.take r=L.drop (64*(L.length/64))) (hz:(L.length+x.length)%64=0) :
  run init (L++x) ((L++x).length/64)=comp (run init L (L.length/64)) (B' B x r)∧(B' B x r).take ((L++x).length%64)=(L++x).drop (64*((L++x).length/64)):=by
 have e1:(L++x).length/64=L.length/64+1:=by rw [List.length_append];omega
 have e2:(L++x).length%64=0:=by rw [List.length_append];exact hz
 have e3:r+x.length=64:=by omega
 have e4:=B'_take B L x r hB hr hx h
 rw [e3,List.take_of_length_le (by rw [B'_len B x r hB hx];omega)] at e4
 rw [e1,e2]
 refine ⟨?_,?_⟩
 ·rw [run,run_append _ _ _ _ (by omega),← e4,List.take_of_length_le (by rw [B'_len B x r hB hx];omega)]
 ·rw [List.take_zero,List.drop_of_length_le (by rw [List.length_append];omega)]
theorem put_block (m:Bool) (N:Nat) (S B xs:List Nat) (r:Nat) (hS:S.length=8) (hB:B.length=64) (hx:r+xs.length≤64) :
  put (sumC m N S B).toArray (10+r) (bs xs)=(sumC m N S (B' B xs r)).toArray:=by
 have h8:(hs S).length=8:=by rw [hs_len,hS]
 have hh:(Value.bool m::Value.int .u64 (N:Nat)::hs S).length=10:=by simp [h8]
 have e:sumC m N S B=(Value.bool m::Value.int .u64 (N:Nat)::hs S)++bs B:=rfl
 rw [put_list _ _ _ (by rw [sumC_len _ _ _ _ hS hB,bs_len];omega),e,List.take_append,List.drop_append,hh,List.take_of_length_le (by rw [hh];omega),List.drop_of_length_le (by rw [hh,bs_len];omega),bs_len,bs_take',bs_drop']
 rw [show 10+r-10=r by omega,show 10+r+xs.length-10=r+xs.length by omega]
 simp [sumC,B',bs_append]
theorem put_nums (m:Bool) (N:Nat) (S S' B:List Nat) (hS:S.length=8) (hS':S'.length=8) (hB:B.length=64) :
  put (sumC m N S B).toArray 2 (hs S')=(sumC m N S' B).toArray:=by
 have h8:(hs S).length=8:=by rw [hs_len,hS]
 have e:sumC m N S B=[Value.bool m,Value.int .u64 (N:Nat)]++(hs S++bs B):=rfl
 rw [put_list _ _ _ (by rw [sumC_len _ _ _ _ hS hB,hs_len];omega),e,List.take_append,List.drop_append,hs_len,hS']
 simp [sumC,List.drop_append,h8]
theorem grown_of {w w':World} {g:Option Nat} (h:Below w.heap.size w w'):w.grownBy w' g:=⟨h.os,h.tape,h.output,h.size,fun i hi _=>h.block i hi⟩
theorem Rd.grown {w w':World} {g n:Nat} {A:Option Addr} {xs:List Value} (h:Rd w A n xs) (far:∀ b o,A=some ⟨b,o,none⟩→b≠g) (hg:w.grownBy w' (some g)):Rd w' A n xs:=by
 refine ⟨h.1,fun hp=>?_⟩
 obtain ⟨b,o,e,hb,hc⟩:=h.2 hp
 refine ⟨b,o,e,Nat.lt_of_lt_of_le hb hg.size,fun j u hj=>?_⟩
 have hbl:=hg.block b hb (by simpa using far b o e)
 have:=hc j u hj
 simpa [World.cell?,hbl] using this
section
variable {ops:Array Oper} {Q:Exit→Act→World→Prop} {rest:List Oper} {a:Act} {w:World} {d:Tmp} {ty:TypeId} {pos:String} {after:Array Edge} {x y:Operand}
theorem sliceS_run (b o n c t:Nat) (htn:t≤n) (hnc:n≤c) (hc:c≤9223372036854775807) (htp:0<t) {ρ:Operand→Value} {dst:Option Tmp} {gd:Option (Nat × Bool)} (hx:ρ x=.slice (some ⟨b,o,none⟩) n c) (hy:ρ y=.int .i64 (t:Nat)) :
  (execOp ρ ⟨dst,.slice 64 x (some y) none none,ty,pos,after,gd⟩).run Tryd.prog w=.ok (.value (.slice (some ⟨b,if t<c then o+t else o,none⟩) (n-t) (c-t))) w:=by
 have h1:(t:Int)≤n:=by omega
 have h2:(n:Int)≤c:=by omega
 have h3:((n:Int)-(t:Int)).toNat=n-t:=by omega
 have h4:((c:Int)-(t:Int)).toNat=c-t:=by omega
 by_cases hlt:t<c
 ·have h5:¬ c=t:=by omega
  have h6:¬ c≤t:=by omega
  simp [execOp,hx,hy,go_sem,h1,h2,h3,h4,hlt,h5,h6]
 ·obtain rfl:c=t:=by omega
  obtain rfl:n=c:=by omega
  simp [execOp,hx,hy,go_sem]
theorem law_sliceS (b o n c t:Nat) (htn:t≤n) (hnc:n≤c) (hc:c≤9223372036854775807) (htp:0<t) (hx:a.eval x=.slice (some ⟨b,o,none⟩) n c) (hy:a.eval y=.int .i64 (t:Nat))
  (h:∀ o',Hid (o'=if t<c then o+t else o)→wpList Tryd.prog ops Q rest (a.put (some d) (.slice (some ⟨b,o',none⟩) (n-t) (c-t))) w):wpList Tryd.prog ops Q (⟨some d,.slice 64 x (some y) none none,ty,pos,after,none⟩::rest) a w:=
 law_value rfl (sliceS_run b o n c t htn hnc hc htp hx hy) (h _ (Lib.hid rfl))
end
end Go.Proofs.YtlphnfajhpkleaaDoor.By
