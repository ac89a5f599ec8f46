import Derived.Deep.Cut
import Derived.Test.YtcbnmdkmfdjpiaaPDu6
import Derived.Test.YtcbnmdkmfdjpiaaPShort
namespace Go.Proofs.Ytcbnmdkmfdjpiaa
set_option maxRecDepth 100000
open Go.RowKit
set_option linter.unusedSimpArgs false
set_option linter.unusedVariables false
attribute [local go_sem ↓] Go.wp_at_zero Go.wp_at_succ

def unB (Q n:Nat):Bool:=(List.range n).all fun x=>decide (Nat.gcd (Dn Q n x) Q=1)
theorem unB_iff {Q n:Nat}:unB Q n=true ↔ ∀ x,x<n→Nat.gcd (Dn Q n x) Q=1:=by simp [unB]
def wE (Q n:Nat):Int:=if 1<Q then (if unB Q n=true then 0 else 7) else 1
noncomputable def prW (P Q n:Nat) (bs:List Nat) (j:Nat):Nat:=prV P bs ((List.range n).map (wN Q n (Jdf Q j)))
theorem polB_pow {Q j:Nat}:Jew Q (Jdf Q j)=decide (1<Q):=by
 rw [Bool.eq_iff_iff,polB_iff,decide_eq_true_iff]
 refine ⟨fun h=>h.1,fun h=>⟨h,fun c hc=>?_⟩⟩
 rcases List.mem_append.1 hc with hc | hc
 ·rw [List.eq_of_mem_replicate hc];omega
 ·rw [List.mem_singleton.1 hc];exact Xc h _
theorem prB_len {P:Nat} {bs ns ms:List Nat} (h:prB P bs ns=true) (hl:ms.length=ns.length):prB P bs ms=true:=by
 unfold prB at h ⊢;rw [hl];exact h
theorem prV_lt {P:Nat} (h:1<P) (bs ns:List Nat):prV P bs ns<P:=by
 have:∀ (zs:List (Nat × Nat)) (s:Nat),s<P→zs.foldl (fun s x=>s*(x.1^x.2%P)%P) s<P:=by
  intro zs
  induction zs with
  | nil=>intro s hs;exact hs
  | cons x zs ih=>intro s _;exact ih _ (Nat.mod_lt _ (by omega))
 exact this _ 1 h
theorem wN_lt {Q k x:Nat} {ps:List Nat} (h:1<Q):wN Q k ps x<Q:=Nat.mod_lt _ (by omega)
def Wrong (P Q n:Nat) (bs:List Nat) (j:Nat) (ch:List PanicEntry):Prop:=∃ k:Int,ch=[{ v:=.iface 85 (.agg #[.int .i64 k]),recovered:=false }]∧((wE Q n≠0∧k=wE Q n)∨(wE Q n=0∧k=0∧prW P Q n bs j≠1))
theorem must_pow (P Q G H n j capv capp:Nat) (pv pp:Option Addr) (bs:List Nat) (w0:World) (hP:P<2^256) (hQ:Q<2^256) (hn1:1≤n) (hn7:n≤7) (hj:j+1<n) (rv:RN w0.heap.size w0 pv n capv bs) (rp:RN w0.heap.size w0 pp (j+1) capp (Jdf Q j)) (hpb:prB P bs (List.replicate n 0)=true) :
  Calls Try.prog 62 #[grp P Q G H,.slice pv n capv,.slice pp (j+1) capp] w0 fun e w'=>(e=.returned (.tuple #[])∧(wE Q n=0∧prW P Q n bs j=1)∧Below w0.heap.size w0 w')∨∃ ch,e=.panicked ch∧Wrong P Q n bs j ch∧Below w0.heap.size w0 w':=by
 have hw:=fun (u:World) (hb:Below w0.heap.size w0 u)=>word_w P Q G H n (j+1) capp pp (Jdf Q j) u hQ hn1 hn7 hj (rp.call hb hb.size)
 rw [polB_pow] at hw
 have h1P:1<P:=by unfold prB at hpb;simp at hpb;exact hpb.1.1
 by_cases h1:1<Q
 ·have hd:decide (1<Q)=true:=decide_eq_true h1
  rw [hd] at hw
  by_cases hu:unB Q n=true
  ·have hE:wE Q n=0:=by unfold wE;rw [if_pos h1,if_pos hu]
   have hlt:∀ x∈(List.range n).map (wN Q n (Jdf Q j)),x<2^256:=fun x hx=>by
    obtain ⟨y,_,rfl⟩:=List.mem_map.1 hx
    exact Nat.lt_trans (wN_lt h1) hQ
   have hW:∀ u,Below w0.heap.size w0 u→Calls Try.prog 15 #[grp P Q G H,.int .i64 (n:Nat),.slice pp (j+1) capp] u fun e w'=>∃ v,e=.returned v∧∃ a k c,v=.tuple #[.slice a k c,.int .i64 0]∧((List.range n).map (wN Q n (Jdf Q j))).length=k∧Below u.heap.size u w'∧RN w'.heap.size w' a k c ((List.range n).map (wN Q n (Jdf Q j))):=fun u hb=>(hw u hb).mono fun e w' h=>by
    rcases h with h | h | h
    ·cases h.1
    ·obtain ⟨_,⟨x,hx,hg⟩,_⟩:=h
     exact absurd (unB_iff.1 hu x hx) hg
    ·obtain ⟨_,u,rfl,v,rfl,hb,hn⟩:=h
     obtain ⟨a,c,rfl,hr⟩:=hn.rnD (by intro e;have:=congrArg List.length e;simp at this;omega) hlt
     exact ⟨_,rfl,a,_,c,rfl,rfl,hb,hr⟩
   have hpw:=prB_len (ms:=(List.range n).map (wN Q n (Jdf Q j))) hpb (by simp)
   have hX:=Nat.lt_trans (prV_lt h1P bs ((List.range n).map (wN Q n (Jdf Q j)))) hP
   by_cases hz:prW P Q n bs j=1
   ·exact (must_y P Q G H n (j+1) capv capp pv pp bs (Jdf Q j) w0 hP hQ rv _ hX hpw (decide_eq_true hz) hW).mono fun e w' h=>.inl ⟨h.1,⟨hE,hz⟩,h.2⟩
   ·exact (must_n P Q G H n (j+1) capv capp pv pp bs (Jdf Q j) w0 hP hQ rv _ hX hpw (decide_eq_false hz) hW).mono fun e w' h=>.inr ⟨_,h.1,⟨0,rfl,.inr ⟨hE,rfl,hz⟩⟩,h.2⟩
  ·have hE:wE Q n=7:=by unfold wE;rw [if_pos h1,if_neg hu]
   refine (must_e P Q G H n (j+1) capv capp pv pp bs (Jdf Q j) w0 hP hQ rv 7 (by decide) fun u hb=>(hw u hb).mono fun e w' h=>?_).mono fun e w' h=>.inr ⟨_,h.1,⟨7,rfl,.inl ⟨by rw [hE];decide,hE.symm⟩⟩,h.2⟩
   rcases h with h | h | h
   ·cases h.1
   ·exact h.2.2
   ·exact absurd (unB_iff.2 fun x hx=>(h.1 x hx).2) hu
 ·have hd:decide (1<Q)=false:=decide_eq_false h1
  rw [hd] at hw
  have hE:wE Q n=1:=by unfold wE;rw [if_neg h1]
  refine (must_e P Q G H n (j+1) capv capp pv pp bs (Jdf Q j) w0 hP hQ rv 1 (by decide) fun u hb=>(hw u hb).mono fun e w' h=>?_).mono fun e w' h=>.inr ⟨_,h.1,⟨1,rfl,.inl ⟨by rw [hE];decide,hE.symm⟩⟩,h.2⟩
  rcases h with h | h | h
  ·exact h.2
  ·cases h.1
  ·cases (h.1 0 (by omega)).1
theorem res_BE {fn:Func} {a:Act} {N:Nat} {L:List (Nat × Value)} {df:List Deferred} {w:World} (F:Fr a N L df) {s t gs gt:Nat} {v:Value} {e:Int} (hf:fn.results=#[.cell s 4,.cell t 33]) (h1:lk L s=some (.pointer (some ⟨gs,0,none⟩))) (h2:lk L t=some (.pointer (some ⟨gt,0,none⟩)))
  (A1:At w gs 4 #[v]) (A2:At w gt 33 #[.int .i64 e]):(results fn a.tmps).run Try.prog w=.ok (.tuple #[v,.int .i64 e]) w:=by
 have e1:=F.get s _ h1
 have e2:=F.get t _ h2
 rw [Array.getD_eq_getD_getElem?] at e1 e2
 have c0:w.cell? ⟨gs,0,none⟩=some v:=A1.cell 0
 have d0:w.cell? ⟨gt,0,none⟩=some (.int .i64 e):=A2.cell 0
 simp [results,hf,go_sem,e1,e2,c0,d0]
def Jfr (P Q n:Nat) (bs:List Nat) (k:Nat):Prop:=k=0∨(wE Q n=0∧∀ j,j<k→prW P Q n bs j=1)
open Classical in
noncomputable def allB (P Q n:Nat) (bs:List Nat) (k:Nat):Bool:=decide (Jfr P Q n bs k)
open Classical in
theorem allB_iff {P Q n k:Nat} {bs:List Nat}:allB P Q n bs k=true ↔ Jfr P Q n bs k:=by unfold allB;exact decide_eq_true_iff
def Jfu (Q n k:Nat):Int:=if k=0 then 0 else wE Q n
theorem callsDIn_mono {P:Program} {w:World} {n:Nat} {f:FuncId} {args:Array Value} {u:FrameMode} {R R':Ending→FrameMode→World→Prop} (h:CallsDIn Fence.wide n P f args u w R) (hr:∀ e u' w',R e u' w'→R' e u' w'):CallsDIn Fence.wide n P f args u w R':=
 ⟨h.1,fun c cs hu hroom=>let ⟨e,u',w',fr,r,x⟩:=h.2 c cs hu hroom;⟨e,u',w',fr,hr _ _ _ r,x⟩⟩
theorem RN.grown {W W2:World} {row:Option Nat} {a:Option Addr} {n cap:Nat} {xs:List Nat} (h:RN W.heap.size W a n cap xs) (hg:W.grownBy W2 row) (hr:∀ r,row=some r→∃ o:Obj,W.heap[r]? = some o∧o.isCells=false):RN W2.heap.size W2 a n cap xs:=by
 obtain ⟨h0,h1,h2,h3,h4⟩:=h
 refine ⟨h0,h1,h2,h3,?_⟩
 rcases h4 with h4 | ⟨g,o,ha,hl,hc⟩
 ·exact .inl h4
 ·exact .inr ⟨g,o,ha,Nat.lt_of_lt_of_le hl hg.size,fun i hi k hk=>cell_kept (hc i hi k hk) hg hr⟩
set_option maxRecDepth 100000 in
set_option maxHeartbeats 800000 in
theorem all_any (P Q G H n k capv:Nat) (pv:Option Addr) (bs:List Nat) (w0:World) (hP:P<2^256) (hQ:Q<2^256) (hn1:1≤n) (hn7:n≤7) (rv:RN w0.heap.size w0 pv n capv bs) (hpb:prB P bs (List.replicate n 0)=true) (hk:k<n):Calls Try.prog 44 #[grp P Q G H,.slice pv n capv,.int .i64 (k:Nat)] w0 fun e w'=>e=.returned (.tuple #[.bool (allB P Q n bs k),.int .i64 (Jfu Q n k)])∧Below w0.heap.size w0 w':=by
 refine sx_enterP (n:=9) (args:=[grp P Q G H,.slice pv n capv,.int .i64 (k:Nat)]) Try.func44 rfl Try.ntmps44 (by rfl) fun a0 F HM=>?_
 repeat (first | refine Js ?_ | refine Jo ?_ | refine Jbi ?_ | refine Xa ?_)
 refine Jdv ?_
 refine wp_region_lit ?_
 refine Jn F HM (Ja rfl _) rfl (by rfl) (Kn (F.ev rfl)) fun a w gr F HM=>?_
 refine Jn F HM (Ja rfl _) rfl (by rfl) (Jcm (F.ev rfl)) fun a w gv F HM=>?_
 refine Jn F HM (Ja rfl _) rfl (by rfl) (o_allocBo) fun a w ga F HM=>?_
 refine Jn F HM (Ja rfl _) rfl (by rfl) (Wy) fun a w ge F HM=>?_
 refine Jf ?_
 repeat (first | refine Js ?_ | refine Jo ?_ | refine Jbi ?_ | refine Xa ?_)
 refine Jdv ?_
 refine wp_region_lit ?_
 refine lxv (.func (.func 60) #[] #[.pointer (some ⟨ga,0,none⟩),.pointer (some ⟨ge,0,none⟩)]) F (Jfz (F.ev rfl) (F.ev rfl)) fun a F=>?_
 refine lx_defer F (Ja rfl _) rfl (o_defer (F.ev rfl)) fun a F=>?_
 refine Jf ?_
 repeat (first | refine Js ?_ | refine Jo ?_ | refine Jbi ?_ | refine Xa ?_)
 refine Jdv ?_
 refine wp_region_lit ?_
 refine lxv (grp P Q G H) F (Jy (F.ev rfl) (HM.get 3 rfl)) fun a F=>?_
 refine lxv (.int .i64 (k:Nat)) F (Jc (F.ev rfl)) fun a F=>?_
 refine Xo F (Ja rfl _) rfl (by rfl) (Ji Try.func61 (by kernel_rfl) (by rfl) (.cons (F.ev rfl) (.cons (F.ev rfl) .nil)) _) (powers_ex P Q G H k _) fun a w u hu F=>?_
 obtain ⟨gN,gG,rfl,z,hgN,hgG,hNG,hatN,hatG⟩:=hu
 replace HM:=HM.cons2 z hgN hgG hNG hatN hatG
 clear z hgN hgG hNG hatN hatG
 refine Jf ?_
 repeat (first | refine Js ?_ | refine Jo ?_ | refine Jbi ?_ | refine Xa ?_)
 have hb3:Below w0.heap.size w0 w:=HM.bel
 have hNlt:=(HM.get 0 rfl).lt
 have hGlt:=(HM.get 1 rfl).lt
 refine wpF_rangeP (α:=PW) Try.func44 (gf:=72) (lb:=#[.pointer (some ⟨gN,0,none⟩),.pointer (some ⟨gG,0,none⟩)]) (F.ev rfl) (enters_of Try.func72 (by kernel_rfl) rfl)
  (pow_seq P Q G H k 9 gN gG w0.heap.size hQ (by omega) w hb3.size (HM.get 0 rfl) (HM.get 1 rfl)) KQ.trans ?Kb (Below.refl _ _) (fun _=>rfl)
  (fun pre W=>Mem w0.heap.size w0 W [(gN,3,#[.int .i64 (k:Nat)]),(gG,26,gcs P Q G H),(ge,33,#[.int .i64 0]),(ga,4,#[.bool false]),(gv,27,#[.slice pv n capv]),(gr,26,gcs P Q G H)]∧(pre=[]∨wE Q n=0)∧∀ y∈pre,prW P Q n bs y.1=1)
  (fun ch W=>Mem w0.heap.size w0 W [(gN,3,#[.int .i64 (k:Nat)]),(gG,26,gcs P Q G H),(ge,33,#[.int .i64 0]),(ga,4,#[.bool false]),(gv,27,#[.slice pv n capv]),(gr,26,gcs P Q G H)]∧∃ j,j<k∧Wrong P Q n bs j ch)
  ?hI ?hZ ⟨HM,.inl rfl,fun _ h=>(by cases h)⟩
  (fun x a' W=>x.1<k∧Fr a' 18 ((8,.slice x.2.1 (x.1+1) x.2.2)::[(3,.pointer (some ⟨gr,0,none⟩)),(4,.pointer (some ⟨gv,0,none⟩)),(6,.pointer (some ⟨ga,0,none⟩)),(7,.pointer (some ⟨ge,0,none⟩))]) []∧RN W.heap.size W x.2.1 (x.1+1) x.2.2 (Jdf Q x.1))
  ?hAx ?assign ?body ?done ?pan
 case Kb=>
  intro W l o o2 hl ho hc _
  exact ⟨⟨(Below.refl _ _).grown (grownBy_putObj' W l o2) (Nat.le_trans hb3.size (Nat.le_trans hl (Nat.le_of_lt (Array.getElem?_eq_some_iff.1 ho).1))) (fun k e=>by cases e;exact Nat.le_trans hb3.size hl),fun hb=>World.putObj_heap_other (by omega)⟩,⟨(Below.refl _ _).grown (grownBy_putObj' W l o2) (Nat.le_trans hb3.size (Nat.le_trans hl (Nat.le_of_lt (Array.getElem?_eq_some_iff.1 ho).1))) (fun k e=>by cases e;exact Nat.le_trans hb3.size hl),fun hb=>World.putObj_heap_other (by omega)⟩⟩
 case hI=>
  rintro pre W W2 row ⟨h,h2⟩ hg hr
  exact ⟨h.grown hg fun r e=>⟨Nat.le_trans hb3.size (hr r e).1,(hr r e).2⟩,h2⟩
 case hZ=>
  rintro pre W ⟨_,h,_⟩
  rcases h with h | h
  ·exact .inl h
  ·exact .inr (by unfold wE at h;split at h;(· assumption);cases h)
 case hAx=>
  rintro x a2 u W W2 row ⟨h1,h2,h3⟩ hg hr
  exact ⟨h1,h2,h3.grown hg fun r e=>(hr r e).2⟩
 case assign=>
  rintro lp pre x W K ⟨hM,hz,hall⟩ ⟨hxk,hrn⟩ hK
  have F0:Fr { tmps:=((#[13]:Array Tmp).zip #[.slice x.2.1 (x.1+1) x.2.2]).foldl (fun t (p,v)=>t.setIfInBounds p v) a.tmps,defers:=[] } 18 ((13,.slice x.2.1 (x.1+1) x.2.2)::[(3,.pointer (some ⟨gr,0,none⟩)),(4,.pointer (some ⟨gv,0,none⟩)),(6,.pointer (some ⟨ga,0,none⟩)),(7,.pointer (some ⟨ge,0,none⟩))]) []:=by
   have e:((#[13]:Array Tmp).zip #[.slice x.2.1 (x.1+1) x.2.2]).foldl (fun t (p,v)=>t.setIfInBounds p v) a.tmps=(a.put (some 13) (.slice x.2.1 (x.1+1) x.2.2)).tmps:=by simp [Act.put]
   have F2:=(F.sub [3,4,6,7]).put (.slice x.2.1 (x.1+1) x.2.2) (d:=13) rfl
   rw [e]
   exact ⟨F2.size,rfl,F2.get⟩
  generalize ({ tmps:=_,defers:=[] }:Act)=a3 at F0 ⊢
  have F:=F0
  clear F0
  repeat (first | refine Js ?_ | refine Jo ?_ | refine wpIn_seq ?_ | refine wpIn_block ?_ | refine wpIn_skip ?_)
  refine Vl (by rfl) (by rintro ⟨_,_,h⟩;exact h) ?_
  refine lxv (.slice x.2.1 (x.1+1) x.2.2) F (Jg (F.ev rfl)) fun a F=>?_
  refine Jf ?_
  repeat (first | refine Js ?_ | refine Jo ?_ | refine wpIn_seq ?_ | refine wpIn_block ?_ | refine wpIn_skip ?_)
  exact hK _ _ (KeepsFrom.refl _ _) (KQ.refl _ _ _ _) ⟨hM,hz,hall⟩ ⟨hxk,F.sub [8,3,4,6,7],hrn⟩
 case body=>
  rintro lp pre x a3 W hlp ⟨hM,hz,hall⟩ ⟨hxk,F,hrn⟩ hpl
  have HM:=hM.again
  repeat (first | refine Js ?_ | refine Jo ?_ | refine wpIn_seq ?_ | refine wpIn_block ?_ | refine wpIn_skip ?_)
  refine Vl (by rfl) (by rintro ⟨_,_,h⟩;exact h) ?_
  refine lxv (grp P Q G H) F (Jy (F.ev rfl) (HM.get 5 rfl)) fun a F=>?_
  refine lxv (.slice pv n capv) F (Jct (F.ev rfl) ((((HM.get 4 rfl)).cell 0).trans rfl)) fun a F=>?_
  refine lxv (.slice x.2.1 (x.1+1) x.2.2) F (Jc (F.ev rfl)) fun a F=>?_
  refine lx_callP F (Ja rfl _) rfl (by rfl) (Ji Try.func62 (by kernel_rfl) (by rfl) (.cons (F.ev rfl) (.cons (F.ev rfl) (.cons (F.ev rfl) .nil))) _) (must_pow P Q G H n x.1 capv x.2.2 pv x.2.1 bs W hP hQ hn1 hn7 (by omega) (rv.call hM.bel hM.bel.size) hrn hpb) (fun ch w3 hT=>⟨F.defers,(hM.again.on hT.2).oth.from _,hM.on hT.2,x.1,hxk,hT.1⟩) fun a w z F=>?_
  obtain ⟨hz2,z⟩:=z
  replace HM:=HM.on z
  clear z
  refine Jf ?_
  repeat (first | refine Js ?_ | refine Jo ?_ | refine wpIn_seq ?_ | refine wpIn_block ?_ | refine wpIn_skip ?_)
  refine ⟨HM.oth.from _,⟨⟨HM.bel,fun _=>(HM.get 0 rfl).trans (hM.get 0 rfl).symm⟩,⟨HM.bel,fun _=>(HM.get 1 rfl).trans (hM.get 1 rfl).symm⟩⟩,hM.join HM,.inr hz2.1,fun y hy=>?_⟩
  rcases List.mem_append.1 hy with hy | hy
  ·exact hall y hy
  ·rw [List.mem_singleton.1 hy];exact hz2.2
 case done=>
  rintro D ys W hD hys ⟨hM,hz,hall⟩ hK
  have F1:=F.sub [3,4,6,7]
  have F2:Fr { a with defers:={ target:=.collected D,args:=#[] }::a.defers } 18 [(3,.pointer (some ⟨gr,0,none⟩)),(4,.pointer (some ⟨gv,0,none⟩)),(6,.pointer (some ⟨ga,0,none⟩)),(7,.pointer (some ⟨ge,0,none⟩))] [{ target:=.collected D,args:=#[] },{ target:=.fn (.func 60) #[.pointer (some ⟨ga,0,none⟩),.pointer (some ⟨ge,0,none⟩)],args:=#[] }]:=⟨F1.size,by simp [F1.defers],F1.get⟩
  generalize ({ a with defers:=_ }:Act)=a5 at F2 ⊢
  have HM:=hM.again
  replace F:=F2
  repeat (first | refine Js ?_ | refine Jo ?_ | refine Jbi ?_ | refine Xa ?_)
  refine Jdv ?_
  refine wp_region_lit ?_
  refine Ju F HM (Ja rfl _) rfl (k:=3) rfl (o_storeBo (F.ev rfl) rfl (HM.get 3 rfl)) (M2:=[(gN,3,#[.int .i64 (k:Nat)]),(gG,26,gcs P Q G H),(ge,33,#[.int .i64 0]),(ga,4,#[.bool true]),(gv,27,#[.slice pv n capv]),(gr,26,gcs P Q G H)]) (rfl) fun w HM=>?_
  refine Ju F HM (Ja rfl _) rfl (k:=2) rfl (Vi (F.ev rfl) rfl (HM.get 2 rfl)) (M2:=[(gN,3,#[.int .i64 (k:Nat)]),(gG,26,gcs P Q G H),(ge,33,#[.int .i64 0]),(ga,4,#[.bool true]),(gv,27,#[.slice pv n capv]),(gr,26,gcs P Q G H)]) (rfl) fun w HM=>?_
  refine Jf ?_
  repeat (first | refine Js ?_ | refine Jo ?_ | refine Jbi ?_ | refine Xa ?_)
  refine Jdv ?_
  refine wp_ret ?_
  repeat (first | refine Jv ?_ | refine Jp ?_)
  have hKw:=HM.oth.same D _ hK rfl
  have HG:=(hM.join HM).grown (grownBy_putObj' w D (.deferred none)) (fun r e=>by cases e;exact ⟨Nat.le_trans hb3.size hD,_,hKw,rfl⟩)
  have eg:=enters_of Try.func60 (by kernel_rfl) rfl
  show LeavesInM Fence.wide 9 _ _ _ _ _ _ _
  rw [F.defers]
  refine ⟨by simp,.inl ⟨_,_,rfl,run_takeDeferred hKw,?_⟩⟩
  refine ⟨by simp,.inr ⟨fun h=>(by cases h),.func 60,#[.pointer (some ⟨ga,0,none⟩),.pointer (some ⟨ge,0,none⟩)],60,#[.pointer (some ⟨ga,0,none⟩),.pointer (some ⟨ge,0,none⟩)],rfl,by simp [invoke,go_sem,eg],fun _ _=>trivial,callsDIn_mono (rec_r (k:=0) (b:=true) _ _ _ _ _ _ _ ((HG.front 2 rfl rfl).front 3 rfl rfl)) ?_⟩⟩
  rintro e u' w' ⟨rfl,rfl,HM⟩
  show LeavesInM Fence.wide 9 _ _ _ _ [] .returning _
  refine ⟨_,res_BE F (s:=6) (t:=7) rfl rfl rfl (HM.get 0 rfl) (HM.get 1 rfl),?_,HM.bel⟩
  have hok:Jfr P Q n bs k:=by
   rcases Nat.eq_zero_or_pos k with h0 | h0
   ·exact .inl h0
   ·refine .inr ⟨hz.resolve_left (fun e=>by rw [e] at hys;have:=congrArg List.length hys;simp at this;omega),fun j hj=>?_⟩
    have hm:j∈ys.map (·.1):=by rw [hys];exact List.mem_range.2 hj
    obtain ⟨y,hy,rfl⟩:=List.mem_map.1 hm
    exact hall y hy
  have hb:allB P Q n bs k=true:=allB_iff.2 hok
  have he:Jfu Q n k=0:=by
   unfold Jfu;split;(· rfl);rename_i h0;exact (hok.resolve_left h0).1
  rw [hb,he]
 case pan=>
  rintro D ch W hD ⟨hM,j,hj,k2,rfl,hk2⟩ hK
  have F1:=F.sub [3,4,6,7]
  have F2:Fr { a with defers:={ target:=.collected D,args:=#[] }::a.defers } 18 [(3,.pointer (some ⟨gr,0,none⟩)),(4,.pointer (some ⟨gv,0,none⟩)),(6,.pointer (some ⟨ga,0,none⟩)),(7,.pointer (some ⟨ge,0,none⟩))] [{ target:=.collected D,args:=#[] },{ target:=.fn (.func 60) #[.pointer (some ⟨ga,0,none⟩),.pointer (some ⟨ge,0,none⟩)],args:=#[] }]:=⟨F1.size,by simp [F1.defers],F1.get⟩
  generalize ({ a with defers:=_ }:Act)=a5 at F2 ⊢
  have HM:=hM.again
  replace F:=F2
  obtain ⟨w,hw⟩:∃ w,w=W:=⟨_,rfl⟩
  rw [← hw] at HM hM hK ⊢
  have hKw:=HM.oth.same D _ hK rfl
  have HG:=(hM.join HM).grown (grownBy_putObj' w D (.deferred none)) (fun r e=>by cases e;exact ⟨Nat.le_trans hb3.size hD,_,hKw,rfl⟩)
  have eg:=enters_of Try.func60 (by kernel_rfl) rfl
  show LeavesInM Fence.wide 9 _ _ _ _ _ _ _
  rw [F.defers]
  refine ⟨by simp,.inl ⟨_,_,rfl,run_takeDeferred hKw,?_⟩⟩
  refine ⟨by simp,.inr ⟨fun h=>(by cases h),.func 60,#[.pointer (some ⟨ga,0,none⟩),.pointer (some ⟨ge,0,none⟩)],60,#[.pointer (some ⟨ga,0,none⟩),.pointer (some ⟨ge,0,none⟩)],rfl,by simp [invoke,go_sem,eg],fun _ _=>trivial,callsDIn_mono (rec_p _ _ _ _ _ _ _ _ ((HG.front 2 rfl rfl).front 3 rfl rfl)) ?_⟩⟩
  rintro e u' w' ⟨rfl,rfl,HM⟩
  show LeavesInM Fence.wide 9 _ _ _ _ [] .returning _
  refine ⟨_,res_BE F (s:=6) (t:=7) rfl rfl rfl (HM.get 0 rfl) (HM.get 1 rfl),?_,HM.bel⟩
  have hno:¬ Jfr P Q n bs k:=by
   rintro (h | ⟨h,h2⟩)
   ·omega
   ·rcases hk2 with h3 | h3
    ·exact h3.1 h
    ·exact h3.2.2 (h2 j hj)
  have hb:allB P Q n bs k=false:=Bool.eq_false_iff.2 fun h=>hno (allB_iff.1 h)
  have he:Jfu Q n k=k2:=by
   unfold Jfu;rw [if_neg (by omega)];rcases hk2 with h3 | h3;(· exact h3.2.symm);rw [h3.1,h3.2.1]
  rw [hb,he]

set_option maxRecDepth 100000 in
set_option maxHeartbeats 800000 in
theorem chk_b3 (P Q G H n capv:Nat) (pv:Option Addr) (bs:List Nat) (k:Int) (w0:World) (hP:P<2^256) (rv:RN w0.heap.size w0 pv n capv bs) (h0:n≤7) (h1:1≤k) (h:(n:Int)<k):Calls Try.prog 20 #[grp P Q G H,.slice pv n capv,.int .i64 k] w0 fun e w'=>e=.returned (.tuple #[.bool false,.int .i64 1])∧Below w0.heap.size w0 w':=by
 refine Kc (args:=[grp P Q G H,.slice pv n capv,.int .i64 k]) Try.func20 rfl Try.ntmps20 (by rfl) fun a F HM=>?_
 refine Kgr ?_
 refine Jn F HM (Ja rfl _) rfl (by rfl) (Kn (F.ev rfl)) fun a w gg F HM=>?_
 refine lxv (.bool false) F (Jg rfl) fun a F=>?_
 refine lxv (.int .i64 0) F (Jg rfl) fun a F=>?_
 refine Jf ?_
 refine Kgr ?_
 refine lxv (.slice pv n capv) F (Jc (F.ev rfl)) fun a F=>?_
 refine lxv (.int .i64 (n:Nat)) F (Ur (F.ev rfl)) fun a F=>?_
 refine lxv (.bool false) F (Uk (m:=(n:Nat)) (decide_eq_false (by omega)) (F.ev rfl) rfl) fun a F=>?_
 refine lxv (.bool false) F (Jc (F.ev rfl)) fun a F=>?_
 refine lxw 11 false (.int .i64 k) F (Jc (F.ev rfl)) fun a F=>?_
 refine lxw 11 false (.bool false) F (Jcs (decide_eq_false (by omega)) (F.ev rfl) rfl) fun a F=>?_
 refine lxv (.bool false) F (Jt (b:=false) (r:=.bool false) (F.ev rfl) rfl (F.ev rfl) rfl) fun a F=>?_
 refine lxv (.bool false) F (Jc (F.ev rfl)) fun a F=>?_
 refine lxw 15 false (.int .i64 k) F (Jc (F.ev rfl)) fun a F=>?_
 refine lxw 15 false (.slice pv n capv) F (Jc (F.ev rfl)) fun a F=>?_
 refine lxw 15 false (.int .i64 (n:Nat)) F (Ur (F.ev rfl)) fun a F=>?_
 refine lxw 15 false (.bool true) F (Uk (decide_eq_true (by omega)) (F.ev rfl) (F.ev rfl)) fun a F=>?_
 refine lxv (.bool true) F (Jt (b:=false) (r:=.bool true) (F.ev rfl) rfl (F.ev rfl) rfl) fun a F=>?_
 refine lxv (.bool true) F (Jc (F.ev rfl)) fun a F=>?_
 refine lxp 21 true F fun a F=>?_
 refine lxp 21 true F fun a F=>?_
 refine lxp 21 true F fun a F=>?_
 refine lxp 21 true F fun a F=>?_
 refine lxv (.bool true) F (Jt (b:=true) (r:=.bool true) (F.ev rfl) rfl (F.ev rfl) rfl) fun a F=>?_
 refine Jf ?_
 refine Kgq ?_
 refine wp_cond_true (F.ev rfl) ?_
 refine Kgr ?_
 refine lxv (.bool false) F (Jg rfl) fun a F=>?_
 refine lxv (.int .i64 1) F (Jg rfl) fun a F=>?_
 refine Jf ?_
 refine Kgq ?_
 refine wp_ret ?_
 repeat (first | refine Jv ?_ | refine Jp ?_)
 exact bodyPost_ret (Jgd F (s:=6) (t:=7) rfl rfl rfl) F.defers ⟨rfl,HM.bel⟩

set_option maxRecDepth 100000 in
set_option maxHeartbeats 800000 in
theorem chk_ok (P Q G H n k capv:Nat) (pv:Option Addr) (bs:List Nat) (w0:World) (hP:P<2^256) (hQ:Q<2^256) (hn7:n≤7) (hk1:1≤k) (hk:k≤n) (rv:RN w0.heap.size w0 pv n capv bs) (hpb:prB P bs (List.replicate n 0)=true):Calls Try.prog 20 #[grp P Q G H,.slice pv n capv,.int .i64 (k:Nat)] w0 fun e w'=>e=.returned (.tuple #[.bool (allB P Q n bs (n-k)),.int .i64 (Jfu Q n (n-k))])∧Below w0.heap.size w0 w':=by
 refine Kc (args:=[grp P Q G H,.slice pv n capv,.int .i64 (k:Nat)]) Try.func20 rfl Try.ntmps20 (by rfl) fun a F HM=>?_
 refine Kgr ?_
 refine Jn F HM (Ja rfl _) rfl (by rfl) (Kn (F.ev rfl)) fun a w gg F HM=>?_
 refine lxv (.bool false) F (Jg rfl) fun a F=>?_
 refine lxv (.int .i64 0) F (Jg rfl) fun a F=>?_
 refine Jf ?_
 refine Kgr ?_
 refine lxv (.slice pv n capv) F (Jc (F.ev rfl)) fun a F=>?_
 refine lxv (.int .i64 (n:Nat)) F (Ur (F.ev rfl)) fun a F=>?_
 refine lxv (.bool false) F (Uk (m:=(n:Nat)) (decide_eq_false (by omega)) (F.ev rfl) rfl) fun a F=>?_
 refine lxv (.bool false) F (Jc (F.ev rfl)) fun a F=>?_
 refine lxw 11 false (.int .i64 (k:Nat)) F (Jc (F.ev rfl)) fun a F=>?_
 refine lxw 11 false (.bool false) F (Jcs (decide_eq_false (by omega)) (F.ev rfl) rfl) fun a F=>?_
 refine lxv (.bool false) F (Jt (b:=false) (r:=.bool false) (F.ev rfl) rfl (F.ev rfl) rfl) fun a F=>?_
 refine lxv (.bool false) F (Jc (F.ev rfl)) fun a F=>?_
 refine lxw 15 false (.int .i64 (k:Nat)) F (Jc (F.ev rfl)) fun a F=>?_
 refine lxw 15 false (.slice pv n capv) F (Jc (F.ev rfl)) fun a F=>?_
 refine lxw 15 false (.int .i64 (n:Nat)) F (Ur (F.ev rfl)) fun a F=>?_
 refine lxw 15 false (.bool false) F (Uk (decide_eq_false (by omega)) (F.ev rfl) (F.ev rfl)) fun a F=>?_
 refine lxv (.bool false) F (Jt (b:=false) (r:=.bool false) (F.ev rfl) rfl (F.ev rfl) rfl) fun a F=>?_
 refine lxv (.bool false) F (Jc (F.ev rfl)) fun a F=>?_
 refine lxw 21 false (grp P Q G H) F (Jy (F.ev rfl) (HM.get 0 rfl)) fun a F=>?_
 refine lxw 21 false (.slice pv n capv) F (Jc (F.ev rfl)) fun a F=>?_
 refine Jr F (F.want (t:=21) (c:=false) rfl rfl rfl (by rfl) rfl) rfl (by rfl) (Ji Try.func43 (by kernel_rfl) (by rfl) (.cons (F.ev rfl) (.cons (F.ev rfl) .nil)) _) (mayMul_y P Q G H n capv pv bs _ hP (by omega) (rv.call HM.bel HM.bel.size) hpb) fun a w z F=>?_
 replace HM:=HM.on z
 clear z
 refine lxw 21 false (.bool false) F (Xv (b:=true) (r:=false) (F.ev rfl) rfl) fun a F=>?_
 refine lxv (.bool false) F (Jt (b:=false) (r:=.bool false) (F.ev rfl) rfl (F.ev rfl) rfl) fun a F=>?_
 refine Jf ?_
 refine Kgq ?_
 refine wp_cond_false (F.ev rfl) ?_
 refine Kgr ?_
 refine lxv (grp P Q G H) F (Jy (F.ev rfl) (HM.get 0 rfl)) fun a F=>?_
 refine lxv (.slice pv n capv) F (Jc (F.ev rfl)) fun a F=>?_
 refine lxv (.slice pv n capv) F (Jc (F.ev rfl)) fun a F=>?_
 refine lxv (.int .i64 (n:Nat)) F (Ur (F.ev rfl)) fun a F=>?_
 refine lxv (.int .i64 (k:Nat)) F (Jc (F.ev rfl)) fun a F=>?_
 refine lxv (.int .i64 ((n-k:Nat):Int)) F (Jfh hk (by omega) (F.ev rfl) (F.ev rfl)) fun a F=>?_
 refine Jr F (Ja rfl _) rfl (by rfl) (Ji Try.func44 (by kernel_rfl) (by rfl) (.cons (F.ev rfl) (.cons (F.ev rfl) (.cons (F.ev rfl) .nil))) _) (all_any P Q G H n (n-k) capv pv bs _ hP hQ (by omega) hn7 (rv.call HM.bel HM.bel.size) hpb (by omega)) fun a w z F=>?_
 replace HM:=HM.on z
 clear z
 refine lxv (.bool ((allB P Q n bs (n-k)))) F (Jk (F.ev rfl) rfl) fun a F=>?_
 refine lxv (.int .i64 (Jfu Q n (n-k))) F (Jk (F.ev rfl) rfl) fun a F=>?_
 refine lxv (.bool ((allB P Q n bs (n-k)))) F (Jg (F.ev rfl)) fun a F=>?_
 refine lxv (.int .i64 (Jfu Q n (n-k))) F (Jg (F.ev rfl)) fun a F=>?_
 refine Jf ?_
 refine Kgq ?_
 refine wp_ret ?_
 repeat (first | refine Jv ?_ | refine Jp ?_)
 exact bodyPost_ret (Jgd F (s:=6) (t:=7) rfl rfl rfl) F.defers ⟨rfl,HM.bel⟩

end Go.Proofs.Ytcbnmdkmfdjpiaa
