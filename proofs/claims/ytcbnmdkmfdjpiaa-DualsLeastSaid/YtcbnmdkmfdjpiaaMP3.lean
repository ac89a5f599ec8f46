import Derived.Deep.Cut
import Derived.Test.YtcbnmdkmfdjpiaaMGCore
import Derived.Test.YtcbnmdkmfdjpiaaMPt
import Derived.Test.YtcbnmdkmfdjpiaaMShort
namespace Go.Proofs.Ytcbnmdkmfdjpiaa
set_option maxRecDepth 100000
set_option linter.unusedSimpArgs false
set_option linter.unusedVariables false
open Go.RowKit Go.WideShapes Go.ChangeShapes Go.ChangeAt

theorem Try.cellsG:Try.prog.cellsOf 26=16:=by kernel_rfl
section
variable {H:Type} {enc:TypeId × Value→H} {w:World} {held:Bool}
theorem open_group {base:Nat} {v:Value} {d:DataW H} {p:List MemPlace} (hv:Value.okWide Try.prog w .any base 26 v) (h:DataW.Trod enc Try.prog w 0 (fun _=>true) held 26 v d p) :
  ∃ P Q G H':Nat,v=grp P Q G H'∧P<2^256∧Q<2^256∧G<2^256∧H'<2^256:=by
 obtain ⟨cs,rfl,hsz⟩:∃ cs,v=.agg cs∧cs.size=Try.prog.cellsOf 26:=by
  simp only [Value.okWide,Try.underlying26] at hv
  obtain ⟨cs,h1,h2,_⟩:=hv
  exact ⟨cs,h1,h2⟩
 obtain ⟨fuel,hf⟩:=h
 obtain ⟨xs,m,hm,_,hl,hlen,hf⟩:=DataW.trod_struct Try.underlying26 hf
 rw [Try.cellsG] at hsz
 obtain ⟨cs⟩:=cs
 match cs,hsz with
 | [c0,c1,c2,c3,c4,c5,c6,c7,c8,c9,c10,c11,c12,c13,c14,c15],_=>
  match xs,hlen with
  | [y0,y1,y2,y3],_=>
   simp only [Value.cells] at hf
   have h0:DataW.trod enc Try.prog w 0 (fun _=>true) held m 24 [c0,c1,c2,c3]=some y0:=by simpa [Try.cells24] using hf 0 _ rfl
   have h1:DataW.trod enc Try.prog w 0 (fun _=>true) held m 24 [c4,c5,c6,c7]=some y1:=by simpa [Try.cells24] using hf 1 _ rfl
   have h2:DataW.trod enc Try.prog w 0 (fun _=>true) held m 24 [c8,c9,c10,c11]=some y2:=by simpa [Try.cells24] using hf 2 _ rfl
   have h3:DataW.trod enc Try.prog w 0 (fun _=>true) held m 24 [c12,c13,c14,c15]=some y3:=by simpa [Try.cells24] using hf 3 _ rfl
   obtain ⟨P,hP,rfl,rfl,rfl,rfl⟩:=Jag h0
   obtain ⟨Q,hQ,rfl,rfl,rfl,rfl⟩:=Jag h1
   obtain ⟨G,hG,rfl,rfl,rfl,rfl⟩:=Jag h2
   obtain ⟨K,hK,rfl,rfl,rfl,rfl⟩:=Jag h3
   exact ⟨P,Q,G,K,rfl,hP,hQ,hG,hK⟩
end
def RN (n0:Nat) (w:World) (a:Option Addr) (n cap:Nat) (xs:List Nat):Prop:=xs.length=n∧NSl n0 w a cap xs
theorem RN.get {n0:Nat} {w:World} {a:Option Addr} {n cap:Nat} {xs:List Nat} (h:RN n0 w a n cap xs) {i:Nat} (hi:i<n):∃ g o,a=some ⟨g,o,none⟩∧∃ hl:i<xs.length,xs[i]<2^256∧∀ u,Below n0 w u→C4 u g (o+i*4) xs[i]:=by
 have hl:i<xs.length:=by rw [h.1];exact hi
 obtain ⟨g,o,ha,hg,h0,h1,h2,h3⟩:=h.2.get hl rfl
 exact ⟨g,o,ha,hl,h.2.2.2.1 _ (List.getElem_mem hl),fun u hb=>⟨(hb.cell (p:=⟨g,o+i*4,none⟩) hg).trans h0,(hb.cell (p:=⟨g,o+i*4+1,none⟩) hg).trans h1,(hb.cell (p:=⟨g,o+i*4+2,none⟩) hg).trans h2,(hb.cell (p:=⟨g,o+i*4+3,none⟩) hg).trans h3⟩⟩
theorem RN.len {n0:Nat} {w:World} {a:Option Addr} {n cap:Nat} {xs:List Nat} (h:RN n0 w a n cap xs):n≤cap∧cap≤9223372036854775807:=⟨by rw [← h.1];exact h.2.1,h.2.2.1⟩
theorem RN.room {n0:Nat} {w:World} {a:Option Addr} {n cap:Nat} {xs:List Nat} (h:RN n0 w a n cap xs) {i:Nat} (hi:i<n):IntKind.i64.wrap ((i:Int)+1)=((i+1:Nat):Int):=by
 have:=h.len
 rw [IntKind.wrap_i64];omega
theorem RN.wr {n0:Nat} {w:World} {a:Option Addr} {n cap:Nat} {xs:List Nat} (h:RN n0 w a n cap xs) {i:Nat} (hi:i≤n):IntKind.i64.wrap (i:Int)=(i:Int):=by
 have:=h.len
 rw [IntKind.wrap_i64];omega
theorem RN.on {n0:Nat} {w w':World} {a:Option Addr} {n cap:Nat} {xs:List Nat} (h:RN n0 w a n cap xs) (hb:Below n0 w w'):RN n0 w' a n cap xs:=⟨h.1,h.2.below hb⟩
def Jbr (Q:Nat) (xs:List Nat):Bool:=xs.all fun x=>decide (1<Q∧x<Q)
theorem expB_all {Q:Nat} {xs:List Nat} (h:Jbr Q xs=true):∀ x∈xs,1<Q∧x<Q:=fun x hx=>of_decide_eq_true (List.all_eq_true.1 h x hx)
section
variable {a:Act} {N:Nat} {L:List (Nat × Value)} {df:List Deferred} {w:World} {P:Program}
theorem Jfp {fn:Func} (F:Fr a N L df) {s t:Nat} {u v:Value} (hf:fn.results=#[.tmp s,.tmp t]) (h1:lk L s=some u) (h2:lk L t=some v):(results fn a.tmps).run P w=.ok (.tuple #[u,v]) w:=by
 have e1:=F.get s _ h1
 have e2:=F.get t _ h2
 rw [Array.getD_eq_getD_getElem?] at e1 e2
 simp [results,hf,go_sem,e1,e2]
theorem res_T {fn:Func} (F:Fr a N L df) {s gs P Q G H M:Nat} (hf:fn.results=#[.cell s 59]) (h1:lk L s=some (.pointer (some ⟨gs,0,none⟩)))
  (A1:At w gs 59 (tcs P Q G H M)):(results fn a.tmps).run Try.prog w=.ok (tal P Q G H M) w:=
 results_cell_row hf a.tmps w gs _ (tcs P Q G H M) (0,0) _ (F.get s _ h1) A1 Try.underlying59 rfl Try.sizeT
end
set_option maxRecDepth 100000 in
set_option maxHeartbeats 800000 in
theorem areExp_any (P Q G H n cap:Nat) (pa:Option Addr) (xs:List Nat) (w0:World) (hQ:Q<2^256) (r:RN w0.heap.size w0 pa n cap xs):Calls Try.prog 28 #[grp P Q G H,.slice pa n cap] w0 fun e w'=>e=.returned (.bool (Jbr Q xs))∧Below w0.heap.size w0 w':=by
 refine Ka (args:=[grp P Q G H,.slice pa n cap]) Try.func28 rfl Try.ntmps28 (by rfl) fun a F HM=>?_
 refine Kgr ?_
 refine Jn F HM (Ja rfl _) rfl (by rfl) (Kl (F.ev rfl)) fun a w gg F HM=>?_
 refine lxv (.bool false) F (Jg rfl) fun a F=>?_
 refine Jf ?_
 refine Kgr ?_
 refine lxv (.slice pa n cap) F (Jb (F.ev rfl)) fun a F=>?_
 refine lxv (.int .i64 (n:Nat)) F (Ui (F.ev rfl)) fun a F=>?_
 refine lxv (.int .i64 0) F (Jb rfl) fun a F=>?_
 refine Jf ?_
 refine Kgq ?_
 refine wp_loop (fun a w=>∃ i:Nat,i≤n∧Fr a 25 [(11,.int .i64 (i:Nat)),(9,.slice pa n cap),(10,.int .i64 (n:Nat)),(2,.pointer (some ⟨gg,0,none⟩))] []∧Mem w0.heap.size w0 w [(gg,26,gcs P Q G H)]∧Jbr Q (xs.take i)=true) (fun a _=>n-(intOf (a.tmps.getD 11 undef)).toNat) ⟨0,Nat.zero_le _,F.sub [11,9,10,2],HM,by simp [Jbr]⟩ ?_
 clear F HM
 rintro aS wS ⟨i,hi,FS,HM,HE⟩
 have F:=FS
 by_cases hlt:i<n
 ·refine Kgr ?_
  refine lxv (.bool true) F (Kh (u:=.int .i64 (i:Nat)) (v:=.int .i64 (n:Nat)) (fun ρ hx hy=>by simp only [execOp,hx,hy];simp [go_sem];omega) (F.ev rfl) (F.ev rfl)) fun a F=>?_
  refine Jf ?_
  refine Kgq ?_
  refine wp_cond_true (F.ev rfl) ?_
  obtain ⟨gl,ol,rfl,hil,hxb,hc⟩:=r.get hlt
  have htk:xs.take (i+1)=xs.take i++[xs[i]]:=List.take_succ_eq_append_getElem hil
  generalize xs[i]=x at *
  refine Kgr ?_
  refine lxv (.pointer (some ⟨gl,ol+i*4,none⟩)) F (Vx hlt (F.ev rfl) (F.ev rfl)) fun a F=>?_
  refine lxv (num x) F (Va (F.ev rfl) (hc _ HM.bel)) fun a F=>?_
  refine Jn F HM (Ja rfl _) rfl (by rfl) (Kc) fun a w gx F HM=>?_
  refine Jw F HM (Ja rfl _) rfl (k:=0) rfl (Jz (F.ev rfl) (F.ev rfl) (HM.get 0 rfl)) (M2:=[(gx,24,ncs x),(gg,26,gcs P Q G H)]) (rfl) fun w HM=>?_
  refine Jf ?_
  by_cases hgd:1<Q∧x<Q
  ·refine Kgr ?_
   refine lxv (grp P Q G H) F (Jr (F.ev rfl) (HM.get 1 rfl)) fun a F=>?_
   refine lxv (num x) F (Ke (F.ev rfl) (HM.get 0 rfl)) fun a F=>?_
   refine lxv (num x) F (Ke (F.ev rfl) (HM.get 0 rfl)) fun a F=>?_
   refine Jp F (Ja rfl _) rfl (by rfl) (Jh Try.func10 (by kernel_rfl) (by rfl) (.cons (F.ev rfl) (.cons (F.ev rfl) (.cons (F.ev rfl) .nil))) _) ((Jcc P Q G H x x hQ hgd.1 hgd.2 hgd.2) _) fun a w z F=>?_
   replace HM:=HM.on z
   clear z
   refine lxv (.tuple #[num (((x+x)%Q)),.int .i64 0]) F (Jb (F.ev rfl)) fun a F=>?_
   refine lxv (num (((x+x)%Q))) F (Jk (F.ev rfl) rfl) fun a F=>?_
   refine lxv (.int .i64 0) F (Jk (F.ev rfl) rfl) fun a F=>?_
   refine Jn F HM (Ja rfl _) rfl (by rfl) (Kc) fun a w gv F HM=>?_
   refine Jw F HM (Ja rfl _) rfl (k:=0) rfl (Jz (F.ev rfl) (F.ev rfl) (HM.get 0 rfl)) (M2:=[(gv,24,ncs (((x+x)%Q))),(gx,24,ncs x),(gg,26,gcs P Q G H)]) (rfl) fun w HM=>?_
   refine lxv (.int .i64 0) F (Jg (F.ev rfl)) fun a F=>?_
   refine Jf ?_
   refine Kgr ?_
   refine lxv (.int .i64 0) F (Jb (F.ev rfl)) fun a F=>?_
   refine lxv (.bool false) F (Kh (u:=.int .i64 0) (v:=.int .i64 0) (fun ρ hx hy=>by simp only [execOp,hx,hy];simp [go_sem]) (F.ev rfl) rfl) fun a F=>?_
   refine Jf ?_
   refine Kgq ?_
   refine wp_cond_false (F.ev rfl) ?_
   refine Kgr ?_
   refine lxv (.int .i64 ((i+1:Nat):Int)) F (Kh (u:=.int .i64 (i:Nat)) (v:=.int .i64 1) (fun ρ hx hy=>by simp only [execOp,hx,hy];simp [go_sem,r.room hlt]) (F.ev rfl) rfl) fun a F=>?_
   refine lxv (.int .i64 ((i+1:Nat):Int)) F (Jb (F.ev rfl)) fun a F=>?_
   refine Jf ?_
   replace HM:=HM.erase 0 (M2:=[(gx,24,ncs x),(gg,26,gcs P Q G H)]) rfl
   replace HM:=HM.erase 0 (M2:=[(gg,26,gcs P Q G H)]) rfl
   refine Jv ?_
   refine ⟨⟨i+1,by omega,F.sub [11,9,10,2],HM,?_⟩,?_⟩
   ·rw [htk];unfold Jbr at HE ⊢;rw [List.all_append,HE];simp [hgd]
   ·show n-(intOf (a.tmps.getD 11 undef)).toNat<n-(intOf (aS.tmps.getD 11 undef)).toNat
    rw [F.get 11 _ rfl,FS.get 11 _ rfl]
    show n-((i+1:Nat):Int).toNat<n-((i:Nat):Int).toNat
    omega
  ·refine Kgr ?_
   refine lxv (grp P Q G H) F (Jr (F.ev rfl) (HM.get 1 rfl)) fun a F=>?_
   refine lxv (num x) F (Ke (F.ev rfl) (HM.get 0 rfl)) fun a F=>?_
   refine lxv (num x) F (Ke (F.ev rfl) (HM.get 0 rfl)) fun a F=>?_
   refine Jp F (Ja rfl _) rfl (by rfl) (Jh Try.func10 (by kernel_rfl) (by rfl) (.cons (F.ev rfl) (.cons (F.ev rfl) (.cons (F.ev rfl) .nil))) _) ((Jes P Q G H x x hQ hxb hxb (fun h=>hgd ⟨h.1,h.2.1⟩)) _) fun a w z F=>?_
   replace HM:=HM.on z
   clear z
   refine lxv (.tuple #[num 0,.int .i64 1]) F (Jb (F.ev rfl)) fun a F=>?_
   refine lxv (num 0) F (Jk (F.ev rfl) rfl) fun a F=>?_
   refine lxv (.int .i64 1) F (Jk (F.ev rfl) rfl) fun a F=>?_
   refine Jn F HM (Ja rfl _) rfl (by rfl) (Kc) fun a w gv F HM=>?_
   refine Jw F HM (Ja rfl _) rfl (k:=0) rfl (Jz (F.ev rfl) (F.ev rfl) (HM.get 0 rfl)) (M2:=[(gv,24,ncs 0),(gx,24,ncs x),(gg,26,gcs P Q G H)]) (rfl) fun w HM=>?_
   refine lxv (.int .i64 1) F (Jg (F.ev rfl)) fun a F=>?_
   refine Jf ?_
   refine Kgr ?_
   refine lxv (.int .i64 1) F (Jb (F.ev rfl)) fun a F=>?_
   refine lxv (.bool true) F (Kh (u:=.int .i64 1) (v:=.int .i64 0) (fun ρ hx hy=>by simp only [execOp,hx,hy];simp [go_sem]) (F.ev rfl) rfl) fun a F=>?_
   refine Jf ?_
   refine Kgq ?_
   refine wp_cond_true (F.ev rfl) ?_
   refine Kgr ?_
   refine lxv (.bool false) F (Jg rfl) fun a F=>?_
   refine Jf ?_
   have hV:Jbr Q xs=false:=by
    rw [← List.take_append_drop (i+1) xs,htk];unfold Jbr;rw [List.all_append,List.all_append];simp [hgd]
   rw [hV]
   refine Kgq ?_
   refine wp_ret ?_
   repeat (first | refine Ju ?_ | refine Jo ?_)
   exact Kt F HM (Kq F rfl (s:=4) rfl)
 ·refine Kgr ?_
  refine lxv (.bool false) F (Kh (u:=.int .i64 (i:Nat)) (v:=.int .i64 (n:Nat)) (fun ρ hx hy=>by simp only [execOp,hx,hy];simp [go_sem];omega) (F.ev rfl) (F.ev rfl)) fun a F=>?_
  refine Jf ?_
  refine Kgq ?_
  refine wp_cond_false (F.ev rfl) ?_
  refine Kgq ?_
  refine wp_exit ?_
  repeat (first | refine Us ?_ | refine Un ?_)
  have hV:Jbr Q xs=true:=by rw [← HE,List.take_of_length_le (by have:=r.1;omega)]
  refine Kgr ?_
  refine lxv (.bool true) F (Jg rfl) fun a F=>?_
  refine Jf ?_
  rw [hV]
  refine Kgq ?_
  refine wp_ret ?_
  repeat (first | refine Ju ?_ | refine Jo ?_)
  exact Kt F HM (Kq F rfl (s:=4) rfl)

open Go.RowKit Go.WideShapes Go.ChangeShapes Go.ChangeAt
section
variable {H:Type} {enc:TypeId × Value→H} {w:World} {held:Bool}
theorem choose_n {n:Nat} {R:Nat→Nat→Prop} (h:∀ i,i<n→∃ p,R i p):∃ l:List Nat,l.length=n∧∀ i (hi:i<l.length),R i (l[i]):=by
 induction n with
 | zero=>exact ⟨[],rfl,fun i hi=>absurd hi (Nat.not_lt_zero _)⟩
 | succ n ih=>
  obtain ⟨l,hl,hR⟩:=ih fun i hi=>h i (by omega)
  obtain ⟨p,hp⟩:=h n (by omega)
  refine ⟨l++[p],by simp [hl],fun i hi=>?_⟩
  by_cases e:i<l.length
  ·rw [List.getElem_append_left e];exact hR i e
  ·have:i=n:=by simp at hi;omega
   subst this
   rw [List.getElem_append_right (by omega)]
   simp [hl];exact hp
theorem open_numsC {fuel:Nat} {v':Value} {x:DataW H × List MemPlace} (hf:DataW.trod enc Try.prog w 0 (fun _=>true) held fuel 27 [v']=some x) :
  ∃ (xs:List Nat) (a:Option Addr) (cap:Nat),v'=.slice a xs.length cap∧RN w.heap.size w a xs.length cap xs:=by
 rcases DataW.trod_slice Try.underlying27 hf with ⟨hc',_⟩ | ⟨a,len,cap,elems,rest,k,hk,hc',_,_,hlc,hcm,hel,hget,_⟩
 ·obtain rfl:v'=.slice none 0 0:=by simpa using hc'
  exact ⟨[],none,0,rfl,rfl,Nat.le_refl _,by decide,fun _ h=>(by cases h),Or.inl rfl⟩
 ·obtain rfl:v'=.slice (some a) len cap:=by simpa using hc'
  rw [Try.cells24] at hget
  have sp0:0<len→a.spot=none:=by
   intro hi
   have hg:=hget 0 hi
   rw [List.getElem?_eq_getElem (by omega)] at hg
   obtain ⟨ci,hci,ht⟩:=Option.bind_eq_some_iff.1 hg
   obtain ⟨_,hcl,hcell⟩:=World.cells?_some hci
   have h0:=hcell 0 (by omega)
   rw [List.getElem?_eq_getElem (by omega)] at h0
   simpa [Addr.add] using World.cell?_spot h0
  have each:∀ i,i<len→∃ p:Nat,p<2^256∧a.spot=none∧a.block<w.heap.size∧∀ k,k<4→w.cell? ⟨a.block,a.off+i*4+k,none⟩=some (.int .u64 (wd p k)):=by
   intro i hi
   have hg:=hget i hi
   rw [List.getElem?_eq_getElem (by omega)] at hg
   obtain ⟨ci,hci,ht⟩:=Option.bind_eq_some_iff.1 hg
   obtain ⟨_,hcl,hcell⟩:=World.cells?_some hci
   match ci,hcl with
   | [c0,c1,c2,c3],_=>
    obtain ⟨p,hp,rfl,rfl,rfl,rfl⟩:=Jag ht
    have sp:a.spot=none:=sp0 (by omega)
    have cell:∀ j (hj:j<4),w.cell? ⟨a.block,a.off+i*4+j,none⟩=some (.int .u64 (wd p j)):=by
     intro j hj
     have:=hcell j hj
     obtain ⟨b,off,spot⟩:=a
     simp only at sp
     subst sp
     rw [Addr.add_lit,Addr.add_lit] at this
     rw [this]
     match j,hj with
     | 0,_=>rfl
     | 1,_=>rfl
     | 2,_=>rfl
     | 3,_=>rfl
    exact ⟨p,hp,sp,World.block_lt_of_cell? w ⟨a.block,a.off+i*4+0,none⟩ (cell 0 (by omega)),cell⟩
  obtain ⟨xs,hl,hR⟩:=choose_n each
  refine ⟨xs,some a,cap,by rw [hl],rfl,by rw [hl];exact hlc,by unfold maxLen at hcm;omega,fun x hx=>?_,?_⟩
  ·obtain ⟨i,hi,rfl⟩:=List.getElem_of_mem hx
   exact (hR i hi).1
  ·rcases Nat.eq_zero_or_pos xs.length with h0 | h0
   ·exact Or.inl (List.length_eq_zero_iff.1 h0)
   ·right
    obtain ⟨_,sp,hb,_⟩:=hR 0 h0
    obtain ⟨b,off,spot⟩:=a
    simp only at sp hb
    subst sp
    exact ⟨b,off,rfl,hb,fun i hi=>(hR i hi).2.2.2⟩
theorem open_nums {base:Nat} {v:Value} {d:DataW H} {p:List MemPlace} (hv:Value.okWide Try.prog w .any base 27 v) (h:DataW.Trod enc Try.prog w 0 (fun _=>true) held 27 v d p) :
  ∃ (xs:List Nat) (a:Option Addr) (cap:Nat),v=.slice a xs.length cap∧RN w.heap.size w a xs.length cap xs:=by
 obtain ⟨fuel,hf⟩:=h
 have hone:∃ v',v.cells.toList=[v']∧v'=v:=by
  rcases v with _ | _ | _ | _ | _ | _ | _ | _ <;> first | exact ⟨_,rfl,rfl⟩ | (simp [Value.okWide,Cell.okWide,Cell.ok,Try.underlying27] at hv)
 obtain ⟨v',hc,rfl⟩:=hone
 rw [hc] at hf
 exact open_numsC hf
end
theorem Jdv {Q x c:Nat} (h1:1<Q) (z:Int):(Ki Q z*x%Q+c)%Q=Ki Q ((c:Int)+(x:Int)*z):=by
 refine Cg.eq (Nat.mod_lt _ (by omega)) (Vr h1 _) ?_
 rw [Int.natCast_emod,Int.natCast_add,Int.natCast_emod,Int.natCast_mul]
 refine (Cg.emod Q _).trans (((Cg.emod Q _).add (Cg.refl Q _)).trans ?_)
 refine ((((Wc h1 z).mul (Cg.refl Q (x:Int))).add (Cg.refl Q (c:Int))).trans (Cg.of_eq ?_)).trans (Wc h1 _).symm
 grind
set_option maxRecDepth 100000 in
set_option maxHeartbeats 800000 in
theorem downward_any (P Q G H X gt n0 n cap:Nat) (pa:Option Addr) (ps:List Nat) (M:List (Nat × TypeId × Array Value)) (w0 w:World) (hQ:Q<2^256) (h1:1<Q) (hX:X<Q) (hp:∀ c∈ps,c<Q) (r:RN n0 w0 pa n cap ps) (HM:Mem n0 w0 w ((gt,59,tcs P Q G H 0)::M)):Calls Try.prog 50 #[.slice pa n cap,num X,.func (.func 51) #[.pointer (some ⟨gt,0,none⟩)] #[],.func (.func 52) #[.pointer (some ⟨gt,0,none⟩)] #[]] w fun e w2=>e=.returned (.tuple #[])∧Mem n0 w0 w2 ((gt,59,tcs P Q G H (Ki Q (evZ (zs ps) X)))::M):=by
 refine Xk (args:=[.slice pa n cap,num X,.func (.func 51) #[.pointer (some ⟨gt,0,none⟩)] #[],.func (.func 52) #[.pointer (some ⟨gt,0,none⟩)] #[]]) HM Try.func50 rfl Try.ntmps50 (by rfl) fun a F HM=>?_
 refine Kgr ?_
 refine Jn F HM (Ja rfl _) rfl (by rfl) (Vk (F.ev rfl)) fun a w gx F HM=>?_
 refine Jf ?_
 replace HM:=HM.front 1 rfl (M2:=((gt,59,tcs P Q G H 0)::(gx,24,ncs X)::M)) rfl
 refine Kgr ?_
 refine lxv (.slice pa n cap) F (Jb (F.ev rfl)) fun a F=>?_
 refine lxv (.int .i64 (n:Nat)) F (Ui (F.ev rfl)) fun a F=>?_
 refine lxv (.int .i64 0) F (Jb rfl) fun a F=>?_
 refine Jf ?_
 refine Kgq ?_
 refine wp_loop (fun a w=>∃ i S:Nat,i≤n∧S=Ki Q (evZ (zs (ps.drop (n-i))) X)∧Fr a 28 [(11,.int .i64 (i:Nat)),(0,.slice pa n cap),(10,.int .i64 (n:Nat)),(2,.func (.func 51) #[.pointer (some ⟨gt,0,none⟩)] #[]),(3,.func (.func 52) #[.pointer (some ⟨gt,0,none⟩)] #[]),(5,.pointer (some ⟨gx,0,none⟩))] []∧Mem n0 w0 w ((gt,59,tcs P Q G H S)::(gx,24,ncs X)::M)) (fun a _=>n-(intOf (a.tmps.getD 11 undef)).toNat) ⟨0,0,Nat.zero_le _,by rw [Nat.sub_zero,List.drop_of_length_le (Nat.le_of_eq r.1)];exact (sof_zero h1).symm,F.sub [11,0,10,2,3,5],HM⟩ ?_
 clear F HM
 rintro aS wS ⟨i,S,hi,hS,FS,HM⟩
 have F:=FS
 by_cases hlt:i<n
 ·refine Kgr ?_
  refine lxv (.bool true) F (Kh (u:=.int .i64 (i:Nat)) (v:=.int .i64 (n:Nat)) (fun ρ hx hy=>by simp only [execOp,hx,hy];simp [go_sem];omega) (F.ev rfl) (F.ev rfl)) fun a F=>?_
  refine Jf ?_
  refine Kgq ?_
  refine wp_cond_true (F.ev rfl) ?_
  refine Kgr ?_
  refine lxv (.int .i64 (i:Nat)) F (Jb (F.ev rfl)) fun a F=>?_
  refine lxv (.int .i64 (i:Nat)) F (Jg (F.ev rfl)) fun a F=>?_
  refine Jf ?_
  have hlt2:n-1-i<n:=by omega
  obtain ⟨gl,ol,rfl,hil,hxb,hc⟩:=r.get hlt2
  have htk:ps.drop (n-(i+1))=ps[n-1-i]::ps.drop (n-i):=by rw [show n-(i+1)=n-1-i by omega,List.drop_eq_getElem_cons hil,show n-1-i+1=n-i by omega]
  have hcQ:=hp _ (List.getElem_mem hil)
  generalize ps[n-1-i]=c at *
  have hSQ:S<Q:=by rw [hS];exact Vr h1 _
  have hT:=Nat.mod_lt (S*X) (show 0<Q by omega)
  have hm1:IntKind.i64.wrap ((n:Int)-1)=((n-1:Nat):Int):=by have:=r.len;rw [IntKind.wrap_i64];omega
  have hm2:IntKind.i64.wrap (((n-1:Nat):Int)-(i:Int))=((n-1-i:Nat):Int):=by have:=r.len;rw [IntKind.wrap_i64];omega
  refine Kgr ?_
  refine lxv (.func (.func 51) #[.pointer (some ⟨gt,0,none⟩)] #[]) F (Jb (F.ev rfl)) fun a F=>?_
  refine lxv (num X) F (Ke (F.ev rfl) (HM.get 1 rfl)) fun a F=>?_
  refine Jp F (Ja rfl _) rfl (by rfl) (run_callVB (rl:=[.pointer (some ⟨gt,0,none⟩)]) Try.func51 (by kernel_rfl) (by rfl) (F.ev rfl) (.cons (F.ev rfl) .nil) _) (ttimes_any P Q G H S X gt _ _ _ _ hQ h1 hSQ hX HM) fun a w HM F=>?_
  refine Jf ?_
  refine Kgr ?_
  refine lxv (.func (.func 52) #[.pointer (some ⟨gt,0,none⟩)] #[]) F (Jb (F.ev rfl)) fun a F=>?_
  refine lxv (.slice (some ⟨gl,ol,none⟩) n cap) F (Jb (F.ev rfl)) fun a F=>?_
  refine lxv (.slice (some ⟨gl,ol,none⟩) n cap) F (Jb (F.ev rfl)) fun a F=>?_
  refine lxv (.int .i64 (n:Nat)) F (Ui (F.ev rfl)) fun a F=>?_
  refine lxv (.int .i64 ((n-1:Nat):Int)) F (Kh (u:=.int .i64 (n:Nat)) (v:=.int .i64 1) (fun ρ hx hy=>by simp only [execOp,hx,hy];simp [go_sem,hm1]) (F.ev rfl) rfl) fun a F=>?_
  refine lxv (.int .i64 (i:Nat)) F (Jb (F.ev rfl)) fun a F=>?_
  refine lxv (.int .i64 ((n-1-i:Nat):Int)) F (Kh (u:=.int .i64 ((n-1:Nat):Int)) (v:=.int .i64 (i:Nat)) (fun ρ hx hy=>by simp only [execOp,hx,hy];simp [go_sem,hm2]) (F.ev rfl) (F.ev rfl)) fun a F=>?_
  refine lxv (.pointer (some ⟨gl,ol+(n-1-i)*4,none⟩)) F (Vx hlt2 (F.ev rfl) (F.ev rfl)) fun a F=>?_
  refine lxv (num c) F (Va (F.ev rfl) (hc _ HM.bel)) fun a F=>?_
  refine Jp F (Ja rfl _) rfl (by rfl) (run_callVB (rl:=[.pointer (some ⟨gt,0,none⟩)]) Try.func52 (by kernel_rfl) (by rfl) (F.ev rfl) (.cons (F.ev rfl) .nil) _) (tadd_any P Q G H _ c gt _ _ _ _ hQ h1 hT hcQ HM) fun a w HM F=>?_
  refine Jf ?_
  refine Kgr ?_
  refine lxv (.int .i64 ((i+1:Nat):Int)) F (Kh (u:=.int .i64 (i:Nat)) (v:=.int .i64 1) (fun ρ hx hy=>by simp only [execOp,hx,hy];simp [go_sem,r.room hlt]) (F.ev rfl) rfl) fun a F=>?_
  refine lxv (.int .i64 ((i+1:Nat):Int)) F (Jb (F.ev rfl)) fun a F=>?_
  refine Jf ?_
  refine Jv ?_
  refine ⟨⟨i+1,(S*X%Q+c)%Q,by omega,?_,F.sub [11,0,10,2,3,5],HM⟩,?_⟩
  ·rw [htk,hS,Jdv h1];rfl
  ·show n-(intOf (a.tmps.getD 11 undef)).toNat<n-(intOf (aS.tmps.getD 11 undef)).toNat
   rw [F.get 11 _ rfl,FS.get 11 _ rfl]
   show n-((i+1:Nat):Int).toNat<n-((i:Nat):Int).toNat
   omega
 ·refine Kgr ?_
  refine lxv (.bool false) F (Kh (u:=.int .i64 (i:Nat)) (v:=.int .i64 (n:Nat)) (fun ρ hx hy=>by simp only [execOp,hx,hy];simp [go_sem];omega) (F.ev rfl) (F.ev rfl)) fun a F=>?_
  refine Jf ?_
  refine Kgq ?_
  refine wp_cond_false (F.ev rfl) ?_
  refine Kgq ?_
  refine wp_exit ?_
  repeat (first | refine Us ?_ | refine Un ?_)
  obtain rfl:i=n:=by omega
  rw [Nat.sub_self,List.drop_zero] at hS
  subst hS
  replace HM:=HM.erase 1 (M2:=((gt,59,tcs P Q G H (Ki Q (evZ (zs ps) X)))::M)) rfl
  refine Kgq ?_
  exact bodyPost_end (Vu rfl) F.defers ⟨rfl,HM⟩

set_option maxRecDepth 100000 in
set_option maxHeartbeats 800000 in
theorem Jcm (P Q G H X n cap:Nat) (pa:Option Addr) (ps:List Nat) (w0:World) (hQ:Q<2^256) (h1:1<Q) (hX:X<Q) (hp:∀ c∈ps,c<Q) (r:RN w0.heap.size w0 pa n cap ps):Calls Try.prog 31 #[grp P Q G H,.slice pa n cap,num X] w0 fun e w'=>e=.returned (num (Ki Q (evZ (zs ps) X)))∧Below w0.heap.size w0 w':=by
 refine Ka (args:=[grp P Q G H,.slice pa n cap,num X]) Try.func31 rfl Try.ntmps31 (by rfl) fun a F HM=>?_
 refine Kgr ?_
 refine Jn F HM (Ja rfl _) rfl (by rfl) (Kl (F.ev rfl)) fun a w gg F HM=>?_
 refine Jn F HM (Ja rfl _) rfl (by rfl) (Vk (F.ev rfl)) fun a w gx F HM=>?_
 refine Jn F HM (Ja rfl _) rfl (by rfl) (Kc) fun a w go F HM=>?_
 refine Jf ?_
 refine Kgr ?_
 refine lxv (grp P Q G H) F (Jr (F.ev rfl) (HM.get 2 rfl)) fun a F=>?_
 refine lxv (tal P Q G H 0) F (o_buildT1 (F.ev rfl)) fun a F=>?_
 refine Jn F HM (Ja rfl _) rfl (by rfl) (Jds) fun a w gt F HM=>?_
 refine Jw F HM (Ja rfl _) rfl (k:=0) rfl (Jdr (F.ev rfl) (F.ev rfl) (HM.get 0 rfl)) (M2:=[(gt,59,tcs P Q G H 0),(go,24,ncs 0),(gx,24,ncs X),(gg,26,gcs P Q G H)]) (by rw [Jgq];rfl) fun w HM=>?_
 refine Jf ?_
 refine Kgr ?_
 refine lxv (.slice pa n cap) F (Jb (F.ev rfl)) fun a F=>?_
 refine lxv (num X) F (Ke (F.ev rfl) (HM.get 2 rfl)) fun a F=>?_
 refine lxv (.func (.func 51) #[.pointer (some ⟨gt,0,none⟩)] #[]) F (o_mkB (F.ev rfl)) fun a F=>?_
 refine lxv (.func (.func 52) #[.pointer (some ⟨gt,0,none⟩)] #[]) F (o_mkB (F.ev rfl)) fun a F=>?_
 refine Jp F (Ja rfl _) rfl (by rfl) (Jh Try.func50 (by kernel_rfl) (by rfl) (.cons (F.ev rfl) (.cons (F.ev rfl) (.cons (F.ev rfl) (.cons (F.ev rfl) .nil)))) _) (downward_any P Q G H X gt _ n cap pa ps _ _ _ hQ h1 hX hp r HM) fun a w HM F=>?_
 refine Jf ?_
 refine Kgr ?_
 refine lxv (.pointer (some ⟨gt,16,none⟩)) F (Xo (F.ev rfl)) fun a F=>?_
 refine lxv (num (Ki Q (evZ (zs ps) X))) F (Jcf (F.ev rfl) (HM.get 0 rfl)) fun a F=>?_
 refine Jw F HM (Ja rfl _) rfl (k:=1) rfl (Jz (F.ev rfl) (F.ev rfl) (HM.get 1 rfl)) (M2:=[(gt,59,tcs P Q G H (Ki Q (evZ (zs ps) X))),(go,24,ncs (Ki Q (evZ (zs ps) X))),(gx,24,ncs X),(gg,26,gcs P Q G H)]) (rfl) fun w HM=>?_
 refine Jf ?_
 refine Kgq ?_
 refine wp_ret ?_
 repeat (first | refine Ju ?_ | refine Jo ?_)
 exact Kt F HM (Jfl F (s:=6) rfl rfl (HM.get 1 rfl))

end Go.Proofs.Ytcbnmdkmfdjpiaa
