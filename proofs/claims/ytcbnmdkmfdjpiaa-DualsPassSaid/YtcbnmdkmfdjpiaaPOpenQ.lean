import Derived.Deep.Cut
import Derived.Test.YtcbnmdkmfdjpiaaPDu15
import Derived.Test.YtcbnmdkmfdjpiaaPGCore
import Derived.Test.YtcbnmdkmfdjpiaaPP3
import Derived.Test.YtcbnmdkmfdjpiaaPShort
namespace Go.Proofs.Ytcbnmdkmfdjpiaa
set_option maxRecDepth 100000
set_option linter.unusedSimpArgs false
set_option linter.unusedVariables false
open Go.RowKit Go.WideShapes Go.ChangeShapes Go.ChangeAt

theorem Try.cellsG:Try.prog.cellsOf 26=16:=by kernel_rfl
section
variable {H:Type} {enc:TypeId × Value→H} {w:World} {held:Bool}
theorem open_group {base:Nat} {v:Value} {d:DataW H} {p:List MemPlace} (hv:Value.okWide Try.prog w .any base 26 v) (h:DataW.Trod enc Try.prog w 0 (fun _=>true) held 26 v d p) :
  ∃ P Q G H':Nat,v=grp P Q G H'∧P<2^256∧Q<2^256∧G<2^256∧H'<2^256:=by
 obtain ⟨cs,rfl,hsz⟩:∃ cs,v=.agg cs∧cs.size=Try.prog.cellsOf 26:=by
  simp only [Value.okWide,Try.underlying26] at hv
  obtain ⟨cs,h1,h2,_⟩:=hv
  exact ⟨cs,h1,h2⟩
 obtain ⟨fuel,hf⟩:=h
 obtain ⟨xs,m,hm,_,hl,hlen,hf⟩:=DataW.trod_struct Try.underlying26 hf
 rw [Try.cellsG] at hsz
 obtain ⟨cs⟩:=cs
 match cs,hsz with
 | [c0,c1,c2,c3,c4,c5,c6,c7,c8,c9,c10,c11,c12,c13,c14,c15],_=>
  match xs,hlen with
  | [y0,y1,y2,y3],_=>
   simp only [Value.cells] at hf
   have h0:DataW.trod enc Try.prog w 0 (fun _=>true) held m 24 [c0,c1,c2,c3]=some y0:=by simpa [Try.cells24] using hf 0 _ rfl
   have h1:DataW.trod enc Try.prog w 0 (fun _=>true) held m 24 [c4,c5,c6,c7]=some y1:=by simpa [Try.cells24] using hf 1 _ rfl
   have h2:DataW.trod enc Try.prog w 0 (fun _=>true) held m 24 [c8,c9,c10,c11]=some y2:=by simpa [Try.cells24] using hf 2 _ rfl
   have h3:DataW.trod enc Try.prog w 0 (fun _=>true) held m 24 [c12,c13,c14,c15]=some y3:=by simpa [Try.cells24] using hf 3 _ rfl
   obtain ⟨P,hP,rfl,rfl,rfl,rfl⟩:=Xu h0
   obtain ⟨Q,hQ,rfl,rfl,rfl,rfl⟩:=Xu h1
   obtain ⟨G,hG,rfl,rfl,rfl,rfl⟩:=Xu h2
   obtain ⟨K,hK,rfl,rfl,rfl,rfl⟩:=Xu h3
   exact ⟨P,Q,G,K,rfl,hP,hQ,hG,hK⟩
end
open Go.RowKit Go.WideShapes Go.ChangeShapes Go.ChangeAt
section
variable {H:Type} {enc:TypeId × Value→H} {w:World} {held:Bool}
theorem choose_n {n:Nat} {R:Nat→Nat→Prop} (h:∀ i,i<n→∃ p,R i p):∃ l:List Nat,l.length=n∧∀ i (hi:i<l.length),R i (l[i]):=by
 induction n with
 | zero=>exact ⟨[],rfl,fun i hi=>absurd hi (Nat.not_lt_zero _)⟩
 | succ n ih=>
  obtain ⟨l,hl,hR⟩:=ih fun i hi=>h i (by omega)
  obtain ⟨p,hp⟩:=h n (by omega)
  refine ⟨l++[p],by simp [hl],fun i hi=>?_⟩
  by_cases e:i<l.length
  ·rw [List.getElem_append_left e];exact hR i e
  ·have:i=n:=by simp at hi;omega
   subst this
   rw [List.getElem_append_right (by omega)]
   simp [hl];exact hp
theorem open_numsC {fuel:Nat} {v':Value} {x:DataW H × List MemPlace} (hf:DataW.trod enc Try.prog w 0 (fun _=>true) held fuel 27 [v']=some x) :
  ∃ (xs:List Nat) (a:Option Addr) (cap:Nat),v'=.slice a xs.length cap∧RN w.heap.size w a xs.length cap xs:=by
 rcases DataW.trod_slice Try.underlying27 hf with ⟨hc',_⟩ | ⟨a,len,cap,elems,rest,k,hk,hc',_,_,hlc,hcm,hel,hget,_⟩
 ·obtain rfl:v'=.slice none 0 0:=by simpa using hc'
  exact ⟨[],none,0,rfl,rfl,Nat.le_refl _,by decide,fun _ h=>(by cases h),Or.inl rfl⟩
 ·obtain rfl:v'=.slice (some a) len cap:=by simpa using hc'
  rw [Try.cells24] at hget
  have sp0:0<len→a.spot=none:=by
   intro hi
   have hg:=hget 0 hi
   rw [List.getElem?_eq_getElem (by omega)] at hg
   obtain ⟨ci,hci,ht⟩:=Option.bind_eq_some_iff.1 hg
   obtain ⟨_,hcl,hcell⟩:=World.cells?_some hci
   have h0:=hcell 0 (by omega)
   rw [List.getElem?_eq_getElem (by omega)] at h0
   simpa [Addr.add] using World.cell?_spot h0
  have each:∀ i,i<len→∃ p:Nat,p<2^256∧a.spot=none∧a.block<w.heap.size∧∀ k,k<4→w.cell? ⟨a.block,a.off+i*4+k,none⟩=some (.int .u64 (wd p k)):=by
   intro i hi
   have hg:=hget i hi
   rw [List.getElem?_eq_getElem (by omega)] at hg
   obtain ⟨ci,hci,ht⟩:=Option.bind_eq_some_iff.1 hg
   obtain ⟨_,hcl,hcell⟩:=World.cells?_some hci
   match ci,hcl with
   | [c0,c1,c2,c3],_=>
    obtain ⟨p,hp,rfl,rfl,rfl,rfl⟩:=Xu ht
    have sp:a.spot=none:=sp0 (by omega)
    have cell:∀ j (hj:j<4),w.cell? ⟨a.block,a.off+i*4+j,none⟩=some (.int .u64 (wd p j)):=by
     intro j hj
     have:=hcell j hj
     obtain ⟨b,off,spot⟩:=a
     simp only at sp
     subst sp
     rw [Addr.add_lit,Addr.add_lit] at this
     rw [this]
     match j,hj with
     | 0,_=>rfl
     | 1,_=>rfl
     | 2,_=>rfl
     | 3,_=>rfl
    exact ⟨p,hp,sp,World.block_lt_of_cell? w ⟨a.block,a.off+i*4+0,none⟩ (cell 0 (by omega)),cell⟩
  obtain ⟨xs,hl,hR⟩:=choose_n each
  refine ⟨xs,some a,cap,by rw [hl],rfl,by rw [hl];exact hlc,by unfold maxLen at hcm;omega,fun x hx=>?_,?_⟩
  ·obtain ⟨i,hi,rfl⟩:=List.getElem_of_mem hx
   exact (hR i hi).1
  ·rcases Nat.eq_zero_or_pos xs.length with h0 | h0
   ·exact Or.inl (List.length_eq_zero_iff.1 h0)
   ·right
    obtain ⟨_,sp,hb,_⟩:=hR 0 h0
    obtain ⟨b,off,spot⟩:=a
    simp only at sp hb
    subst sp
    exact ⟨b,off,rfl,hb,fun i hi=>(hR i hi).2.2.2⟩
theorem open_nums {base:Nat} {v:Value} {d:DataW H} {p:List MemPlace} (hv:Value.okWide Try.prog w .any base 27 v) (h:DataW.Trod enc Try.prog w 0 (fun _=>true) held 27 v d p) :
  ∃ (xs:List Nat) (a:Option Addr) (cap:Nat),v=.slice a xs.length cap∧RN w.heap.size w a xs.length cap xs:=by
 obtain ⟨fuel,hf⟩:=h
 have hone:∃ v',v.cells.toList=[v']∧v'=v:=by
  rcases v with _ | _ | _ | _ | _ | _ | _ | _ <;> first | exact ⟨_,rfl,rfl⟩ | (simp [Value.okWide,Cell.okWide,Cell.ok,Try.underlying27] at hv)
 obtain ⟨v',hc,rfl⟩:=hone
 rw [hc] at hf
 exact open_numsC hf
end
open Go.RowKit Go.WideShapes Go.ChangeShapes Go.ChangeAt
theorem Try.cellsSp:Try.prog.cellsOf 29=3:=by kernel_rfl
theorem Try.cells8:Try.prog.cellsOf 5=1:=by kernel_rfl
theorem Try.cells64:Try.prog.cellsOf 22=1:=by kernel_rfl
section
variable {H:Type} {enc:TypeId × Value→H} {w:World} {held:Bool}
theorem Jdi {fuel:Nat} {t:TypeId} {k:IntKind} {c:Value} {y:DataW H × List MemPlace} (ht:Try.prog.underlying t=some (.int k)) (h:DataW.trod enc Try.prog w 0 (fun _=>true) held fuel t [c]=some y):∃ n,c=.int k n∧(Lit.int k n).wf=true:=by
 obtain ⟨n,e,_,hw⟩:=DataW.trod_int ht h
 exact ⟨n,(List.cons.inj e).1,hw⟩
theorem open_spoil {base:Nat} {v:Value} {d:DataW H} {p:List MemPlace} (hv:Value.okWide Try.prog w .any base 29 v) (h:DataW.Trod enc Try.prog w 0 (fun _=>true) held 29 v d p) :
  ∃ a b c:Nat,v=spv a b c∧a<256∧b<256∧c<18446744073709551616:=by
 obtain ⟨cs,rfl,hsz⟩:∃ cs,v=.agg cs∧cs.size=Try.prog.cellsOf 29:=by
  simp only [Value.okWide,Try.underlying29] at hv
  obtain ⟨cs,h1,h2,_⟩:=hv
  exact ⟨cs,h1,h2⟩
 obtain ⟨fuel,hf⟩:=h
 obtain ⟨xs,m,hm,_,hl,hlen,hf⟩:=DataW.trod_struct Try.underlying29 hf
 rw [Try.cellsSp] at hsz
 obtain ⟨cs⟩:=cs
 match cs,hsz with
 | [c0,c1,c2],_=>
  match xs,hlen with
  | [y0,y1,y2],_=>
   simp only [Value.cells] at hf
   have h0:DataW.trod enc Try.prog w 0 (fun _=>true) held m 5 [c0]=some y0:=by simpa [Try.cells8] using hf 0 _ rfl
   have h1:DataW.trod enc Try.prog w 0 (fun _=>true) held m 5 [c1]=some y1:=by simpa [Try.cells8] using hf 1 _ rfl
   have h2:DataW.trod enc Try.prog w 0 (fun _=>true) held m 22 [c2]=some y2:=by simpa [Try.cells64] using hf 2 _ rfl
   obtain ⟨a,rfl,wa⟩:=Jdi Try.underlying5 h0
   obtain ⟨b,rfl,wb⟩:=Jdi Try.underlying5 h1
   obtain ⟨c,rfl,wc⟩:=Jdi Try.underlying22 h2
   have ba:=bounds_u8 wa
   have bb:=bounds_u8 wb
   have bc:=bounds_u64 wc
   obtain ⟨a,rfl⟩:∃ n:Nat,a=n:=⟨a.toNat,by omega⟩
   obtain ⟨b,rfl⟩:∃ n:Nat,b=n:=⟨b.toNat,by omega⟩
   obtain ⟨c,rfl⟩:∃ n:Nat,c=n:=⟨c.toNat,by omega⟩
   exact ⟨a,b,c,rfl,by omega,by omega,by omega⟩
end
end Go.Proofs.Ytcbnmdkmfdjpiaa
