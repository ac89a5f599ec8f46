import Derived.RangeFuncNested
import Derived.RangeFuncLeaves
import Derived.RecoverIn
import Derived.OwnWalkIn
import Derived.Deep.Cut
import Derived.Test.YtcbnmdkmfdjpiaaPPd
import Derived.Test.YtcbnmdkmfdjpiaaPPx
import Derived.Test.YtcbnmdkmfdjpiaaPShort
import Derived.Test.YtcbnmdkmfdjpiaaPSxS
namespace Go.Proofs.Ytcbnmdkmfdjpiaa
set_option maxRecDepth 100000
open Go.RowKit
set_option linter.unusedSimpArgs false
set_option linter.unusedVariables false
section
variable {n:Nat} {P:Program} {Q:Exit→Act→World→Prop} {a:Act} {w:World} {fn0:FuncId}

def roundPostP (P:Program) (l:Nat) (R:Ending→World→Prop):Exit→Act→World→Prop
 | .normal,_,w=>∃ v w',(Instr.endRound l none).run P w=.ok v w'∧R (.returned v) w'
 | .panic chain,a,w=>a.defers=[]∧R (.panicked chain) w
 | _,_,_=>False

theorem roundIn_p {l:Nat} {f:FuncId} {fn:Func} {tmps:Array Value} {assign body:Code} {R:Ending→World→Prop} (hf:P.funcs[f]? = some fn)
  (h : assign.wpIn (Fence.wide.inRound l) n P (Exit.then (fun a₁ w₁ => ∃ w₂, (Instr.beginRound l).run P w₁ = .ok () w₂ ∧ body.wpIn (Fence.wide.inRound l) n P (roundPostP P l R) a₁ w₂) (fun _ _ _ => False))
   { tmps:=tmps,defers:=[] } w) :
  RoundIn Fence.wide n P l f tmps assign body w R:=by
 refine ⟨trivial,fun c cs hr=>?_⟩
 let b:Frame:={ (default:Frame) with fn:=f,kind:=.normal,roundOf:=some l }
 have hb0:Frame.round l f tmps assign body .normal=b.atR { tmps:=tmps,defers:=[] } [.code assign,.beginRound,.code body]:=by
  simp [Frame.round,Frame.atR,b]
 have hr':(Fence.wide.inRound l).room ((c::cs).length+1+n):=hr
 have hF':(Fence.wide.inRound l).fn b.fn:=trivial
 obtain ⟨e,a₁,w₁,hq,harr⟩:=h b [.beginRound,.code body] (c::cs) rfl hF' hr'
 rw [← hb0] at harr
 cases e with
 | normal=>
  obtain ⟨w₂,hbr,hbody⟩:=hq
  have s1:StepsIn (Machine.fenced P (Fence.wide.inRound l)) P (lone (b.atR a₁ [.beginRound,.code body]) (c::cs) w₁) (lone (b.atR a₁ [.code body]) (c::cs) w₂):=
   .one (fenced_calm (fr:=b.atR a₁ [.beginRound,.code body]) hF' hr' rfl) (stepR_beginRound rfl hbr)
  obtain ⟨e₂,a₂,w₃,hq₂,harr₂⟩:=hbody b [] (c::cs) rfl hF' hr'
  cases e₂ with
  | normal=>
   obtain ⟨v,w₄,hend,hR⟩:=hq₂
   exact ⟨.returned v,w₄,hR,(StepsIn.trans harr s1).trans (StepsIn.trans harr₂ (.one (fenced_calm (fr:=b.atR a₂ []) hF' hr' rfl) (stepR_round_end rfl rfl hend)))⟩
  | panic chain=>
   obtain ⟨hd,hR⟩:=hq₂
   obtain ⟨todo,hs⟩:=harr₂
   have hl:({ b.atR a₂ todo with mode:=.panicking chain }:Frame).leaving P w₃ (.panicked chain):=⟨rfl,hd,fn,hf⟩
   exact ⟨.panicked chain,w₃,hR,(StepsIn.trans harr s1).trans (StepsIn.trans hs (.one (fenced_leaving (n:=n) hF' hr' hl) (step_leave_panicked hl)))⟩
  | ret=>exact hq₂.elim
  | exit id=>exact hq₂.elim
  | goto l=>exact hq₂.elim
  | outgrown=>exact hq₂.elim
 | ret=>exact hq.elim
 | exit id=>exact hq.elim
 | goto l=>exact hq.elim
 | panic chain=>exact hq.elim
 | outgrown=>exact hq.elim

def wpF (fn0:FuncId) (n:Nat) (P:Program) (c:Code) (Q:Exit→Act→World→Prop) (a:Act) (w:World):Prop:=
 ∀ (b:Frame) (k:List Item) (cs:List Frame),b.roundOf=none→b.fn=fn0 →
  ∃ e a' w',Q e a' w'∧ArrivesIn (Machine.fenced P Fence.wide) P (lone (b.atR a (.code c::k)) cs w) b k cs e a' w'

theorem Jdv {c:Code} (h:c.wp P Q a w):wpF fn0 n P c Q a w:=fun b k cs hro _=>(wpIn_wide (n:=n)).2 h b k cs hro trivial (room_wide _)
theorem Jbi {x y:Code} (h:wpF fn0 n P x (Exit.then (wpF fn0 n P y Q) Q) a w):wpF fn0 n P (Code.seq x y) Q a w:=by
 intro b k cs hro hb
 have h0:(lone (b.atR a (.code (.seq x y)::k)) cs w).fenced P Fence.wide:=fenced_wide _ _
 obtain ⟨e,a₁,w₁,hq,harr⟩:=h b (.code y::k) cs hro hb
 cases e with
 | normal=>
  obtain ⟨e₂,a₂,w₂,hq₂,harr₂⟩:=hq b k cs hro hb
  exact ⟨e₂,a₂,w₂,hq₂,.of_steps (.head h0 stepR_seq harr) harr₂⟩
 | exit id=>exact ⟨_,a₁,w₁,hq,.of_steps (.one h0 stepR_seq) (.pass (x:=.code y) rfl (fun _ _=>.inl (by simp)) harr)⟩
 | goto l=>exact ⟨_,a₁,w₁,hq,.of_steps (.one h0 stepR_seq) (.pass (x:=.code y) rfl (fun _ _=>.inl (by simp)) harr)⟩
 | ret=>exact ⟨_,a₁,w₁,hq,.of_steps (.one h0 stepR_seq) (.pass (x:=.code y) rfl (fun _ _=>.inl (by simp)) harr)⟩
 | panic ch=>exact ⟨_,a₁,w₁,hq,.of_steps (.one h0 stepR_seq) (.pass (x:=.code y) rfl (fun _ _=>.inl (by simp)) harr)⟩
 | outgrown=>exact ⟨_,a₁,w₁,hq,.of_steps (.one h0 stepR_seq) (.pass (x:=.code y) rfl (fun _ _=>.inl (by simp)) harr)⟩
theorem Xa {id:Nat} {c:Code} (h:wpF fn0 n P c (Exit.inBlock id Q) a w):wpF fn0 n P (Code.block id c) Q a w:=by
 intro b k cs hro hb
 have h0:(lone (b.atR a (.code (.block id c)::k)) cs w).fenced P Fence.wide:=fenced_wide _ _
 obtain ⟨e,a₁,w₁,hq,harr⟩:=h b (.inBlock id::k) cs hro hb
 cases e with
 | normal=>exact ⟨.normal,a₁,w₁,hq,.head h0 stepR_block (StepsIn.trans harr (.one (fenced_wide _ _) stepR_inBlock))⟩
 | exit id'=>
  by_cases hid:id'=id
  ·simp only [Exit.inBlock,hid,if_true] at hq
   exact ⟨.normal,a₁,w₁,hq,.head h0 stepR_block (harr.1 k (by simp [exitTo,hid]))⟩
  ·simp only [Exit.inBlock,hid,if_false] at hq
   have this:(id==id')=false:=by simp;exact fun h=>hid h.symm
   have hx:exitTo id' (.inBlock id::k)=exitTo id' k:=by simp [exitTo,this]
   exact ⟨.exit id',a₁,w₁,hq,fun k' hk=>.head h0 stepR_block (harr.1 k' (by rw [hx];exact hk)),
    fun hr' hk=>let ⟨k₁,h1,h2⟩:=harr.2 hr' (by rw [hx];exact hk);⟨k₁,h1,.head h0 stepR_block h2⟩⟩
 | goto l=>
  have hx:gotoIn l (.inBlock id::k)=gotoIn l k:=by simp [gotoIn]
  exact ⟨_,a₁,w₁,hq,fun k' hk=>.head h0 stepR_block (harr.1 k' (by rw [hx];exact hk)),
   fun hr' hk=>let ⟨k₁,h1,h2⟩:=harr.2 hr' (by rw [hx];exact hk);⟨k₁,h1,.head h0 stepR_block h2⟩⟩
 | ret=>exact ⟨_,a₁,w₁,hq,.of_steps (.one h0 stepR_block) harr⟩
 | panic ch=>exact ⟨_,a₁,w₁,hq,.of_steps (.one h0 stepR_block) harr⟩
 | outgrown=>exact ⟨_,a₁,w₁,hq,.of_steps (.one h0 stepR_block) harr⟩

theorem wpF_rangeFunc {g:Operand} {ps:Array Tmp} {assign body:Code}
  (h : ∃ (l : Nat) (Jaz : List Deferred) (w₁ : World) (d : Deferred) (w₁' : World) (f : FuncId) (args : Array Value) (w₂ : World),
   (Instr.enterLoop fn0 a.tmps ps assign body none).run P w=.ok (l,Jaz) w₁∧(resolve a.eval (rangeCall g l) 0).run P w₁=.ok d w₁' ∧
   (invoke d.target d.args).run P w₁'=.ok (.enter f args) w₂∧CallsIn Fence.wide n P f args w₂ (rangePost Fence.wide n P l Q { a with defers:=Jaz++a.defers })) :
  wpF fn0 n P (.rangeFunc g ps assign body) Q a w:=by
 intro b k cs hro hb
 obtain ⟨l,Jaz,w₁,d,w₁',f,args,w₂,he,hres,hinv,hF,hcall⟩:=h
 rw [← hro,← hb] at he
 have henter:=stepR_rangeFunc (P:=P) (b:=b) (a:=a) (k:=k) (cs:=cs) (w:=w) he hres hinv
 obtain ⟨e,w₃,fr,hR,hsteps,hfn,hleave⟩:=hcall (b.atR { a with defers:=Jaz++a.defers } (.inRangeFunc l::k)::cs) (room_wide _)
 cases e with
 | outgrown=>
  obtain ⟨a₀,w₀,hq⟩:=hR
  exact ⟨.outgrown,a₀,w₀,hq,.inr (Outgrown.of_steps (.one henter) hsteps)⟩
 | returned v=>
  obtain ⟨jump,w₄,hend,hj⟩:=hR
  have sback:StepsIn (Machine.fenced P Fence.wide) P (lone (b.atR a (.code (.rangeFunc g ps assign body)::k)) cs w) (lone (b.atR { a with defers:=Jaz++a.defers } ((jump.map Item.code).toList++k)) cs w₄):=by
   refine .head (fenced_wide _ _) henter (StepsIn.trans hsteps (.head (fenced_wide _ _) ?_ (.one (fenced_wide _ _) (stepR_endRangeFunc hend))))
   rw [← finish_atR_inRangeFunc l v];exact step_leave_returned hleave
  cases jump with
  | none=>exact ⟨.normal,_,w₄,hj,sback⟩
  | some c=>
   obtain ⟨e',a'',w₅,hq,harr⟩:=hj b k cs hro trivial (room_wide _)
   exact ⟨e',a'',w₅,hq,.of_steps sback harr⟩
 | panicked chain=>
  refine ⟨.panic chain,_,w₃,hR,.inRangeFunc l::k,.head (fenced_wide _ _) henter (StepsIn.trans hsteps (.one (fenced_wide _ _) ?_))⟩
  rw [← Frame.raise_atR];exact step_leave_panicked hleave

def SeqP {α:Type} (n:Nat) (P:Program) (g:Nat) (lb:Array Value) (encs:α→Array Value) (D:α→World→Prop) (Z:List α→Prop) (Kp:World→World→Prop) (S:List α→Prop) (N:Nat) (w:World):Prop:=
 ∀ (l:Nat) (J:List α→World→Prop) (Jx:List PanicEntry→World→Prop) (W:World),Below w.heap.size w W→AbidesFrom W.heap.size J→(∀ pre W1,J pre W1→Z pre) →
  (∀ pre x W1, J pre W1 → D x W1 → pre.length < N → YieldAt Fence.wide (n - 1) P l (encs x) W1 fun e W' =>
   (e=.returned (.bool true)∧J (pre++[x]) W'∧Kp W1 W')∨(∃ ch,e=.panicked ch∧Jx ch W')) →
  J [] W →
  CallsIn Fence.wide n P g (#[.func (.yield l) #[] #[]]++lb) W fun e W'=>(∃ v xs,e=.returned v∧S xs∧J xs W')∨(∃ ch,e=.panicked ch∧Jx ch W')

def ownPostP {α:Type} (B:Nat) (Kp:World→World→Prop) (I:List α→World→Prop) (Ix:List PanicEntry→World→Prop) (xs:List α) (W:World):Exit→Act→World→Prop
 | .normal,_,W'=>KeepsFrom B W W'∧Kp W W'∧I xs W'
 | .panic ch,a,W'=>a.defers=[]∧KeepsFrom B W W'∧Ix ch W'
 | _,_,_=>False

theorem wpF_rangeP {α:Type} {fn:Func} (hfn:P.funcs[fn0]? = some fn) {g:Operand} {ps:Array Tmp} {assign body:Code}
  {gf:Nat} {lb:Array Value} (hg:a.eval g=.func (.func gf) #[] lb) (eg:∀ args w,(callFunc gf args).run P w=.ok (.enter gf args) w)
  {encs:α→Array Value} {D:α→World→Prop} {Z:List α→Prop} {Kp:World→World→Prop} {S:List α→Prop} {N:Nat} {w0:World} (hseq:SeqP n P gf lb encs D Z Kp S N w0)
  (hKt:∀ {A B C:World},Kp A B→Kp B C→Kp A C) (hKb:∀ (W:World) (l:Nat) (o o':Obj),w.heap.size≤l→W.heap[l]? = some o→o.isCells=false→o.isWalk=false→Kp W (W.putObj l o')) (hb0:Below w0.heap.size w0 w) (hps:∀ x,(encs x).size=ps.size)
  (I:List α→World→Prop) (Ix:List PanicEntry→World→Prop) (hI:OwnFrom w.heap.size I) (hZ:∀ pre W,I pre W→Z pre) (h0:I [] w) (Ax:α→Act→World→Prop) (hAx:∀ x a',OwnFrom w.heap.size (fun (_:Unit) W=>Ax x a' W))
  (hassign : ∀ (l : Nat) (pre : List α) (x : α) (W : World) (K : Act → World → Prop), I pre W → D x W → (∀ a' W', KeepsFrom w.heap.size W W' → Kp W W' → I pre W' → Ax x a' W' → K a' W') →
   assign.wpIn (Fence.wide.inRound l) (n-1) P (Exit.then K (fun _ _ _=>False)) { tmps:=(ps.zip (encs x)).foldl (fun t (p,v)=>t.setIfInBounds p v) a.tmps,defers:=[] } W)
  (hbody:∀ (l:Nat) (pre:List α) (x:α) (a':Act) (W:World),w.heap.size≤l→I pre W→Ax x a' W→pre.length<N→body.wpIn (Fence.wide.inRound l) (n-1) P (ownPostP w.heap.size Kp I Ix (pre++[x]) W) a' W)
  (hdone:∀ (D:Nat) (xs:List α) (W:World),w.heap.size≤D→S xs→I xs W→W.heap[D]? = some (.deferred (some []))→Q .normal { a with defers:={ target:=.collected D,args:=#[] }::a.defers } W)
  (hpan:∀ (D:Nat) (ch:List PanicEntry) (W:World),w.heap.size≤D→Ix ch W→W.heap[D]? = some (.deferred (some []))→Q (.panic ch) { a with defers:={ target:=.collected D,args:=#[] }::a.defers } W) :
  wpF fn0 n P (Code.rangeFunc g ps assign body) Q a w:=by
 refine wpF_rangeFunc ?_
 obtain ⟨rec,hrec⟩:∃ rec:LoopState→Option Code→Loop,rec=fun st pe=>{ state:=st,pending:=pe,fn:=fn0,tmps:=a.tmps,params:=ps,assign,body,defers:=w.heap.size }:=⟨_,rfl⟩
 obtain ⟨W1,hW1⟩:∃ W1,(w.alloc (.deferred (some []))).alloc (.loop (rec .ready none))=W1:=⟨_,rfl⟩
 have hL1:W1.heap[w.heap.size+1]? = some (.loop (rec .ready none)):=by
  rw [← hW1];have:=World.alloc_heap_new (w.alloc (.deferred (some []))) (.loop (rec .ready none));rwa [World.size_alloc] at this
 have hK1:W1.heap[w.heap.size]? = some (.deferred (some [])):=by
  rw [← hW1];exact (Below.heap_alloc _ _ _ (by simp)).trans (World.alloc_heap_new w _)
 have hI1:I [] W1:=by rw [← hW1];exact hI.alloc _ (hI.alloc _ h0)
 have hb1:Below w0.heap.size w0 W1:=by
  rw [← hW1];exact hb0.trans ((((Below.refl _ w).alloc (Nat.le_refl _) _).alloc (by simp) _).mono hb0.size)
 refine ⟨w.heap.size+1,[{ target:=.collected w.heap.size,args:=#[] }],W1,{ target:=.fn (.func gf) lb,args:=#[.func (.yield (w.heap.size+1)) #[] #[]] },W1,gf,
  #[.func (.yield (w.heap.size+1)) #[] #[]]++lb,W1,?_,?_,?_,?_⟩
 ·rw [← hW1,hrec];exact run_enterLoop_outer _ _ _ _ _
 ·simp only [resolve,hg]
  simp [go_sem]
 ·simp [invoke,go_sem,eg]
 ·have hnw:∀ {A B:World} {row:Option Nat},(∀ r,row=some r→W1.heap.size≤r∧∃ o:Obj,A.heap[r]? = some o∧o.isWalk=true)→(∀ r,row=some r→w.heap.size≤r∧∃ o:Obj,A.heap[r]? = some o∧o.isCells=false):=
   fun hr r e=>by obtain ⟨hB,o,ho,hw⟩:=hr r e;exact ⟨by rw [← hW1] at hB;simp at hB;omega,o,ho,Obj.not_cells_of_walk hw⟩
  refine (hseq (w.heap.size+1)
   (fun pre W=>I pre W∧W.heap[w.heap.size+1]? = some (.loop (rec .ready none))∧W.heap[w.heap.size]? = some (.deferred (some [])))
   (fun ch W=>Ix ch W∧W.heap[w.heap.size]? = some (.deferred (some [])))
   W1 hb1
   (fun s A B row hs hg' hr=>⟨hI s A B row hs.1 hg' (hnw (B:=B) hr),(grownBy_keeps hg' (fun r e=>(hr r e).2) hs.2.1 rfl).trans hs.2.1,(grownBy_keeps hg' (fun r e=>(hr r e).2) hs.2.2 rfl).trans hs.2.2⟩)
   (fun pre W h=>hZ pre W h.1) ?_ ⟨hI1,hL1,hK1⟩).mono ?_
  ·rintro pre x W ⟨hi,hl,hk⟩ hdx hlen
   have hlt:w.heap.size+1<W.heap.size:=(Array.getElem?_eq_some_iff.1 hl).1
   have hy:=run_yield (P:=P) (args:=encs x) hl (by rw [hrec];exact hps x)
   rw [hrec] at hy
   refine ⟨fn0,_,assign,body,hy,roundIn_p hfn (hassign _ pre x W _ hi hdx ?_)⟩
   clear hdx
   clear hy
   intro a' Wa hkfa hkpa hia hax
   replace hl:=hkfa.same _ _ (by omega) hl rfl
   replace hk:=hkfa.same _ _ (Nat.le_refl _) hk rfl
   replace hlt:w.heap.size+1<Wa.heap.size:=(Array.getElem?_eq_some_iff.1 hl).1
   replace hi:=hia
   clear hia
   revert hkpa hkfa
   generalize W=Wb
   intro hkfa hkpa
   obtain ⟨W,rfl⟩:∃ W,W=Wa:=⟨_,rfl⟩
   refine ⟨_,run_beginRound hl (by rw [hrec]),?_⟩
   have hl2:(W.putObj (w.heap.size+1) (.loop { rec .ready none with state:=.busy })).heap[w.heap.size+1]? = some (.loop { rec .ready none with state:=.busy }):=World.putObj_heap_same hlt
   have hk2:(W.putObj (w.heap.size+1) (.loop { rec .ready none with state:=.busy })).heap[w.heap.size]? = some (.deferred (some [])):=(World.putObj_heap_other (by omega)).trans hk
   have hw2:Kp W (W.putObj (w.heap.size+1) (.loop { rec .ready none with state:=.busy })):=hKb _ _ _ _ (by omega) hl rfl rfl
   refine wpIn_mono (hbody _ pre x a' _ (by omega) (hI.putObj _ hi (by omega) hl rfl) ((hAx x a').putObj (s:=()) _ hax (by omega) hl rfl) hlen) ?_
   rintro e a3 W3 hp
   cases e with
   | normal=>
    obtain ⟨hk3,hkp3,hi3⟩:=hp
    have hl3:=hk3.same _ _ (by omega) hl2 rfl
    have hr:=run_endRound (P:=P) none hl3
    rw [hrec] at hr
    refine ⟨_,_,hr,.inl ⟨rfl,⟨hI.putObj _ hi3 (by omega) hl3 rfl,?_,(World.putObj_heap_other (by omega)).trans (hk3.same _ _ (Nat.le_refl _) hk2 rfl)⟩,hKt hkpa (hKt (hKt hw2 hkp3) (hKb _ _ _ _ (by omega) hl3 rfl rfl))⟩⟩
    rw [hrec];exact World.putObj_heap_same (Array.getElem?_eq_some_iff.1 hl3).1
   | panic ch=>
    obtain ⟨hd,hk3,hi3⟩:=hp
    exact ⟨hd,.inr ⟨ch,rfl,hi3,hk3.same _ _ (Nat.le_refl _) hk2 rfl⟩⟩
   | ret=>exact hp.elim
   | exit id=>exact hp.elim
   | goto t=>exact hp.elim
   | outgrown=>exact hp.elim
  ·rintro e W2 (⟨v,xs,rfl,hS,hi,hl,hk⟩ | ⟨ch,rfl,hi,hk⟩)
   ·exact ⟨none,_,by have:=run_endLoop (P:=P) hl (by rw [hrec];simp);rw [hrec] at this;exact this,hdone _ xs _ (Nat.le_refl _) hS (hI.putObj _ hi (by omega) hl rfl) ((World.putObj_heap_other (by omega)).trans hk)⟩
   ·exact hpan _ ch _ (Nat.le_refl _) hi hk

theorem calls_of_wpF {f:FuncId} {fn:Func} {c:Code} {args:Array Value} {R:Ending→World→Prop} (hf:P.funcs[f]? = some fn) (hb:fn.body=some c)
  (h:wpF f n P c (bodyPostM Fence.wide n P fn R) { tmps:=args++Array.replicate (fn.ntmps-args.size) undef,defers:=[] } w):Calls P f args w R:=by
 refine (callsIn_wide (n:=n)).1 ⟨trivial,fun cs hr=>?_⟩
 let b:Frame:={ (default:Frame) with fn:=f,kind:=.normal,roundOf:=none }
 have henter:Frame.enter P f args .normal =
   b.atR { tmps:=args++Array.replicate (fn.ntmps-args.size) undef,defers:=[] } [.code c]:=by
  simp [Frame.enter,Frame.atR,hf,hb,b]
 obtain ⟨e,a',w',hq,harr⟩:=h b [] cs rfl rfl
 rw [← henter] at harr
 cases e with
 | normal=>
  obtain ⟨e',w'',fr',hR,hs,hfn,hl⟩:=leaves_stepsInM a'.defers .returning w' { b.atR a' [] with mode:=.returning } cs rfl rfl rfl hf rfl trivial hr hq
  exact ⟨e',w'',fr',hR,ComesIn.of_steps (StepsIn.trans harr (.one (fenced_wide _ _) (stepR_end rfl))) hs,hfn,hl⟩
 | ret=>
  obtain ⟨todo,hs₀⟩:=harr.1 rfl
  obtain ⟨e',w'',fr',hR,hs,hfn,hl⟩:=leaves_stepsInM a'.defers .returning w' { b.atR a' todo with mode:=.returning } cs rfl rfl rfl hf rfl trivial hr hq
  exact ⟨e',w'',fr',hR,ComesIn.of_steps hs₀ hs,hfn,hl⟩
 | panic chain=>
  obtain ⟨todo,hs₀⟩:=harr
  obtain ⟨e',w'',fr',hR,hs,hfn,hl⟩:=leaves_stepsInM a'.defers (.panicking chain) w' { b.atR a' todo with mode:=.panicking chain } cs rfl rfl rfl hf rfl trivial hr hq
  exact ⟨e',w'',fr',hR,ComesIn.of_steps hs₀ hs,hfn,hl⟩
 | exit id=>exact hq.elim
 | goto l=>exact hq.elim
 | outgrown=>exact ⟨.outgrown,w',b,hq,harr.resolve_left (by simp [b]),rfl,trivial⟩
end
def Jap (o:Oper):Bool:=match o.op with
 | .defer _=>false
 | _=>true
section
variable {P:Program} {ops:Array Oper} {Q:Exit→Act→World→Prop} {a:Act} {n0:Nat} {w w0:World} {rest:List Oper} {o:Oper} {N:Nat} {L:List (Nat × Value)} {df:List Deferred} {M:List (Nat × TypeId × Array Value)} {l n:Nat}
abbrev RG (ro:Option Nat):Fence:={ Fence.wide with round:=ro }
theorem opIn_of {ro:Option Nat} {ops7:Array Oper} {i:Nat} {Q1:Exit→Act→World→Prop} {K K':Act→World→Prop} (h7:ops7[i]? = ops[i]?)
  (hD:∀ o,ops[i]? = some o→(∀ c,o.op≠.defer c)∧(o.guard=none∨ops7=ops)) (hL:¬ LetsOut Q1) (hP:∀ ch a w,Q1 (.panic ch) a w→Q (.panic ch) a w) (hK:∀ a w,K a w→K' a w)
  (h:wpOp P ops7 Q1 i K a w):wpOpIn (RG ro) n P ops Q i K' a w:=by
 unfold wpOp at h
 unfold wpOpIn
 rw [h7] at h
 cases ho:ops[i]? with
 | none=>simp only [ho] at h ⊢;exact hK _ _ h
 | some o=>
  simp only [ho] at h ⊢
  obtain ⟨hd,hg⟩:=hD o ho
  have hwe:Region.wanted o (yielded ops7 a.tmps)=Region.wanted o (yielded ops a.tmps):=by
   rcases hg with hg | hg
   ·unfold Region.wanted;rw [hg]
   ·rw [hg]
  rw [hwe] at h
  by_cases hw:Region.wanted o (yielded ops a.tmps)=true
  ·simp only [hw,if_true] at h ⊢
   have h:=h.resolve_right (fun h=>hL h.2)
   refine ⟨fun _ _=>trivial,?_⟩
   rw [Oper.semAt_eq _ _ _ hd]
   unfold Oper.wp at h
   generalize (execOp a.eval o).run P w=r at h ⊢
   unfold Oper.upon at h
   split at h
   ·exact hK _ _ h
   ·exact hK _ _ h
   ·exact hK _ _ h
   ·refine ⟨fun h=>(by cases h),show CallsIn Fence.wide (n-1) P _ _ _ _ from (callsIn_wide.2 h).mono fun e w' he=>?_⟩
    cases e with
    | returned v=>exact hK _ _ he
    | panicked ch=>exact hP _ _ _ he
    | outgrown=>exact (hL he).elim
   ·refine ⟨fun h=>(by cases h),fun c cs _=>?_⟩
    obtain ⟨v,w',r,s⟩:=h c cs
    exact ⟨v,w',hK _ _ r,stepsIn_wide.2 s⟩
   ·exact hP _ _ _ h
   ·exact h.elim
  ·simp only [hw,if_false,Bool.false_eq_true] at h ⊢
   exact ⟨fun _ _=>trivial,hK _ _ h⟩
theorem nd_of (hD:ops.all Jap=true) {i:Nat} {o:Oper} (ho:ops[i]? = some o):∀ c,o.op≠.defer c:=fun c e=>by
 obtain ⟨hi,he⟩:=Array.getElem?_eq_some_iff.1 ho
 have:=(Array.all_eq_true.1 hD) i hi
 rw [he,Jap,e] at this
 cases this
theorem opsIn_of (hD:ops.all Jap=true) (hL:¬ LetsOut Q) (T:List Nat):∀ (a:Act) (w:World),wpOps P ops Q T a w→wpOpsIn (RW l) n P ops Q T a w:=by
 induction T with
 | nil=>exact fun _ _ h=>h
 | cons i T ih=>
  intro a w h
  rw [wpOps_cons] at h
  rw [wpOpsIn_cons]
  exact opIn_of (ro:=some l) rfl (fun o ho=>⟨nd_of hD ho,.inr rfl⟩) hL (fun _ _ _ h=>h) ih h
def Jcg (ops ops7:Array Oper) (m:Nat):Nat→Array Bool→Bool
 | 0,t=>Region.ready .any ops7 t == [] && t==Array.replicate m true
 | f+1,t=>Region.ready .any ops (t++#[false,false])==Region.ready .any ops7 t && (Region.ready .any ops7 t) != [] && (Region.ready .any ops7 t).all fun i=>Nat.blt i m && t.size==m && Jcg ops ops7 m f (t.setIfInBounds i true)
theorem anyIn_split {ops7:Array Oper} {m:Nat} {S:World→Prop} (h7:∀ i,i<m→ops7[i]? = ops[i]?) (hD:∀ i o,i<m→ops[i]? = some o→(∀ c,o.op≠.defer c)∧o.guard=none) {Q1:Exit→Act→World→Prop} (hL:¬ LetsOut Q1) (hP:∀ ch a w,¬ Q1 (.panic ch) a w)
  (hN:∀ a w,Q1 .normal a w→wpAnyIn Fence.wide n P .any ops Q 2 (Array.replicate m true++#[false,false]) a w):∀ (f:Nat) (t:Array Bool) (a:Act) (w:World),Jcg ops ops7 m f t=true→wpAnyH P .any ops7 Q1 S f t a w→wpAnyIn Fence.wide n P .any ops Q (f+2) (t++#[false,false]) a w
 | 0,t,a,w,hk,h=>by
  simp only [Jcg,Bool.and_eq_true,beq_iff_eq] at hk
  rw [hk.2]
  exact hN _ _ h.2
 | f+1,t,a,w,hk,h=>by
  simp only [Jcg,Bool.and_eq_true,beq_iff_eq,bne_iff_ne,List.all_eq_true,Nat.blt_eq] at hk
  obtain ⟨⟨hr,hne⟩,hall⟩:=hk
  refine ⟨fun e=>absurd (hr.symm.trans e) hne,fun i hi=>?_⟩
  rw [hr] at hi
  obtain ⟨⟨him,hsz⟩,hok⟩:=hall i hi
  have e:(t++#[false,false]).setIfInBounds i true=t.setIfInBounds i true++#[false,false]:=by rw [Array.setIfInBounds_append_left (by omega)]
  rw [e]
  refine opIn_of (ro:=none) (h7 i him) (fun o ho=>⟨(hD i o him ho).1,.inl (hD i o him ho).2⟩) hL (fun ch a w h=>(hP ch a w h).elim) (fun a w h'=>anyIn_split h7 hD hL hP hN f _ a w hok h'.2) (h.2 i hi)
theorem Vl {id:Nat} {T:List Oper} (hD:T.all Jap=true) (hL:¬ LetsOut Q) (h:wpList P T.toArray Q T a w):(Code.region id T.toArray false).wpIn (RW l) n P Q a w:=
 wpIn_region (opsIn_of (by rw [← Array.all_toList,List.toList_toArray];exact hD) hL _ _ _ (by rw [List.range_eq_range',← Array.length_toList,List.toList_toArray,wpOps_eq_wpList T 0 (by simp)];exact h))
theorem sx_enterRI {S:World→Prop} {id:Nat} (hD:ops.toList.all Jap=true) (hL:¬ LetsOut (NoPanic Q)) (H:Mem n0 w0 w M) (hS:∀ w',Mem n0 w0 w' M→S w') (hm:P.follows .mixedOrders=true)
  (h:∀ w',Mem n0 w0 w' M→Below w.heap.size w w'→wpAnyH P .any ops (NoPanic Q) S ops.size (Array.replicate ops.size false) a w'):(Code.region id ops true).wpIn (RW l) n P Q a w:=
 wpIn_mono (wpIn_region_draw fun t=>by
  simp only [Region.schedule,hm,Bool.true_or,if_true]
  exact opsIn_of (by rw [← Array.all_toList];exact hD) hL _ _ _ (wpAny_sound ops.size t _ a _ (wpAny_of_held _ _ _ _ (h _ H.drew (Below.refl _ _).drew)))) NoPanic.imp
theorem Uf {d:Nat} {v:Value} {w':World} (F:Fr a N L df) (hD:∀ c,o.op≠.defer c) (hw:Region.wanted o (yielded ops a.tmps)=true) (hdst:o.dst=some d) (hd:Nat.blt d N=true) (hr:(execOp a.eval o).run P w=.ok (.value v) w')
  (h:∀ a',Fr a' N ((d,v)::L) df→wpListIn Fence.wide n P ops Q rest a' w'):wpListIn Fence.wide n P ops Q (o::rest) a w:=by
 unfold wpListIn
 rw [if_pos hw]
 refine ⟨fun _ _=>trivial,?_⟩
 rw [Oper.semAt_eq _ _ _ hD,hr]
 show wpListIn Fence.wide n P ops Q rest (a.put o.dst v) w'
 rw [hdst]
 exact h _ (F.put v hd)
theorem li_call {d:Nat} {f:FuncId} {args:Array Value} {u:Value} {T:World→Prop} (F:Fr a N L df) (hD:∀ c,o.op≠.defer c) (hw:Region.wanted o (yielded ops a.tmps)=true) (hdst:o.dst=some d) (hd:Nat.blt d N=true)
  (hr:(execOp a.eval o).run P w=.ok (.enter f args) w) (C:Calls P f args w fun e w'=>e=.returned u∧T w')
  (h:∀ a' w',T w'→Fr a' N ((d,u)::L) df→wpListIn Fence.wide n P ops Q rest a' w'):wpListIn Fence.wide n P ops Q (o::rest) a w:=by
 unfold wpListIn
 rw [if_pos hw]
 refine ⟨fun _ _=>trivial,?_⟩
 rw [Oper.semAt_eq _ _ _ hD,hr,Oper.uponIn_enter]
 refine ⟨fun h=>(by cases h),(callsIn_wide.2 C).mono fun e w' ⟨he,hT⟩=>?_⟩
 subst he
 show wpListIn Fence.wide n P ops Q rest (a.put o.dst u) w'
 rw [hdst]
 exact h _ _ hT (F.put u hd)
theorem li_yield {d r:Nat} {args:Array Value} {R:Ending→World→Prop} (F:Fr a N L df) (hD:∀ c,o.op≠.defer c) (hw:Region.wanted o (yielded ops a.tmps)=true) (hdst:o.dst=some d) (hd:Nat.blt d N=true)
  (hr:(execOp a.eval o).run P w=(Instr.yield r args).run P w) (Y:YieldAt Fence.wide (n-1) P r args w R)
  (h:∀ e w',R e w'→(∃ v,e=.returned v∧∀ a',Fr a' N ((d,v)::L) df→wpListIn Fence.wide n P ops Q rest a' w')∨∃ ch,e=.panicked ch∧Q (.panic ch) a w'):wpListIn Fence.wide n P ops Q (o::rest) a w:=by
 obtain ⟨fn,tmps,assign,body,hy,hR⟩:=Y
 unfold wpListIn
 rw [if_pos hw]
 refine ⟨fun _ _=>trivial,?_⟩
 rw [Oper.semAt_eq _ _ _ hD,hr,hy,Oper.uponIn_round]
 refine ⟨fun h=>(by cases h),hR.mono fun e w' he=>?_⟩
 rcases h e w' he with ⟨v,rfl,hk⟩ | ⟨ch,rfl,hk⟩
 ·show wpListIn Fence.wide n P ops Q rest (a.put o.dst v) w'
  rw [hdst]
  exact hk _ (F.put v hd)
 ·exact hk
theorem Jab (h:Q .normal a w):wpListIn Fence.wide n P ops Q [] a w:=h
theorem sx_enterI {f:FuncId} {fn:Func} {c:Code} {args:List Value} {R:Ending→World→Prop} (hf:P.funcs[f]? = some fn) (hb:fn.body=some c) (hN:fn.ntmps=N) (hl:Nat.ble args.length N=true)
  (h:∀ a,Fr a N (idx 0 args) []→c.wpIn Fence.wide n P (bodyPost P fn R) a w):CallsIn Fence.wide n P f args.toArray w R:=
 callsIn_of_wp hf hb trivial (h _ (Fr.start args _ N hN hl))
theorem sx_enterP {f:FuncId} {fn:Func} {c:Code} {args:List Value} {R:Ending→World→Prop} (hf:P.funcs[f]? = some fn) (hb:fn.body=some c) (hN:fn.ntmps=N) (hl:Nat.ble args.length N=true)
  (h:∀ a,Fr a N (idx 0 args) []→Mem w.heap.size w w []→wpF f n P c (bodyPostM Fence.wide n P fn R) a w):Calls P f args.toArray w R:=
 calls_of_wpF hf hb (h _ (Fr.start args _ N hN hl) (Mem.start w))
theorem grown_of_below {B:Nat} {W W':World} (h:Below B W W') (hB:W.heap.size≤B):W.grownBy W' none:=
 ⟨h.os,h.tape,h.output,h.size,fun k hk _=>h.block k (Nat.lt_of_lt_of_le hk hB)⟩
end
section
variable {x y:Operand} {dst:Option Tmp} {ty:TypeId} {pos:String} {after:Array Edge} {guard:Option (Nat × Bool)} {ρ:Operand→Value} {w:World} {g o:Nat}
theorem Vr {n:Int} (hx:ρ x=.pointer (some ⟨g,o,none⟩)) (h:w.cell? ⟨g,o,none⟩=some (.int .i64 n)):(execOp ρ ⟨dst,.load 3 x,ty,pos,after,guard⟩).run Try.prog w=.ok (.value (.int .i64 n)) w:=by simp [execOp,hx,go_sem,h]
theorem Jct {a:Option Addr} {n c:Nat} (hx:ρ x=.pointer (some ⟨g,o,none⟩)) (h:w.cell? ⟨g,o,none⟩=some (.slice a n c)):(execOp ρ ⟨dst,.load 27 x,ty,pos,after,guard⟩).run Try.prog w=.ok (.value (.slice a n c)) w:=by simp [execOp,hx,go_sem,h]
theorem Jao {n:Int} (hx:ρ x=.int .i64 n):(execOp ρ ⟨dst,.box 3 x,ty,pos,after,guard⟩).run Try.prog w=.ok (.value (.pointer (some ⟨w.heap.size,0,none⟩))) (w.alloc (.cells #[.int .i64 n] 3)):=by simp [execOp,hx,go_sem]
theorem Jcm {a:Option Addr} {n c:Nat} (hx:ρ x=.slice a n c):(execOp ρ ⟨dst,.box 27 x,ty,pos,after,guard⟩).run Try.prog w=.ok (.value (.pointer (some ⟨w.heap.size,0,none⟩))) (w.alloc (.cells #[.slice a n c] 27)):=by simp [execOp,hx,go_sem]
theorem Jaa:(execOp ρ ⟨dst,.alloc 27,ty,pos,after,guard⟩).run Try.prog w=.ok (.value (.pointer (some ⟨w.heap.size,0,none⟩))) (w.alloc (.cells #[.slice none 0 0] 27)):=by simp [execOp,go_sem]
theorem o_allocBo:(execOp ρ ⟨dst,.alloc 4,ty,pos,after,guard⟩).run Try.prog w=.ok (.value (.pointer (some ⟨w.heap.size,0,none⟩))) (w.alloc (.cells #[.bool false] 4)):=by simp [execOp,go_sem]
theorem Xg {a:Option Addr} {n c:Nat} {u:Value} (hx:ρ x=.pointer (some ⟨g,0,none⟩)) (hy:ρ y=.slice a n c) (h:At w g 27 #[u]):(execOp ρ ⟨dst,.store 27 x y,ty,pos,after,guard⟩).run Try.prog w=.ok .skip (puts w g 0 [.slice a n c]):=by
 have c0:w.cell? ⟨g,0,none⟩=some u:=h.cell 0
 have f0:=h.frozen 0
 simp [execOp,hx,hy,go_sem,puts,c0,f0]
theorem o_ldSV {v:Value} (hx:ρ x=.pointer (some ⟨g,o,none⟩)) (h:w.cell? ⟨g,o,none⟩=some v) (hv:∃ a n c,v=.slice a n c):(execOp ρ ⟨dst,.load 27 x,ty,pos,after,guard⟩).run Try.prog w=.ok (.value v) w:=by
 obtain ⟨a,n,c,rfl⟩:=hv;exact Jct hx h
theorem o_storeSV {v u:Value} (hx:ρ x=.pointer (some ⟨g,0,none⟩)) (hy:ρ y=v) (hv:∃ a n c,v=.slice a n c) (h:At w g 27 #[u]):(execOp ρ ⟨dst,.store 27 x y,ty,pos,after,guard⟩).run Try.prog w=.ok .skip (puts w g 0 [v]):=by
 obtain ⟨a,n,c,rfl⟩:=hv;exact Xg hx hy h
theorem LR.sl {R:List (Nat × TypeId × Array Value)} {v:Value} {xs:List Nat} (h:LR R v xs):∃ a n c,v=.slice a n c:=by
 obtain ⟨a,c,e⟩:=h.form;exact ⟨a,_,c,e⟩
theorem LR.fresh {R:List (Nat × TypeId × Array Value)} {v:Value} {xs:List Nat} (h:LR R v xs) {b:Nat} (hb:∀ y∈R,y.1≠b):v.ownBlock≠some b:=by
 rcases h with ⟨rfl,_⟩ | ⟨g,cap,cur,rfl,hm,_⟩
 ·exact fun e=>by cases e
 ·exact fun e=>hb _ hm (by cases e;rfl)
theorem LR.least {n0:Nat} {w0 w:World} {A R:List (Nat × TypeId × Array Value)} {v:Value} {xs:List Nat} (h:LR R v xs) (H:Mem n0 w0 w (A++R)):∃ R',LR R' v xs∧(∀ y∈R',v.ownBlock=some y.1)∧Mem n0 w0 w (A++R'):=by
 rcases h with ⟨rfl,rfl⟩ | ⟨g,cap,cur,rfl,hm,r⟩
 ·exact ⟨[],LR.nil _,fun _ h=>(by cases h),H.subl (List.Sublist.append_left (List.nil_sublist _) _)⟩
 ·exact ⟨[(g,_,cur)],Or.inr ⟨g,cap,cur,rfl,List.mem_cons_self,r⟩,fun y hy=>by rw [List.mem_singleton.1 hy];rfl,H.subl (List.Sublist.append_left (List.singleton_sublist.2 hm) _)⟩
theorem At.inj1 {W:World} {g:Nat} {t:TypeId} {u v:Value} (h:At W g t #[u]) (k:At W g t #[v]):u=v:=by
 have e:some (Obj.cells #[u] t (0,0))=some (Obj.cells #[v] t (0,0)):=(show W.heap[g]? = _ from h).symm.trans k
 cases e;rfl
theorem o_storeBo {b:Bool} {u:Value} (hx:ρ x=.pointer (some ⟨g,0,none⟩)) (hy:ρ y=.bool b) (h:At w g 4 #[u]):(execOp ρ ⟨dst,.store 4 x y,ty,pos,after,guard⟩).run Try.prog w=.ok .skip (puts w g 0 [.bool b]):=by
 have c0:w.cell? ⟨g,0,none⟩=some u:=h.cell 0
 have f0:=h.frozen 0
 simp [execOp,hx,hy,go_sem,puts,c0,f0]
end
def KQ (n₀ b c:Nat) (W W':World):Prop:=KP n₀ b W W'∧KP n₀ c W W'
theorem KQ.refl (n₀ b c:Nat) (W:World):KQ n₀ b c W W:=⟨KP.refl _ _ _,KP.refl _ _ _⟩
theorem KQ.trans {n₀ b c:Nat} {A B C:World} (h:KQ n₀ b c A B) (k:KQ n₀ b c B C):KQ n₀ b c A C:=⟨h.1.trans k.1,h.2.trans k.2⟩
theorem KQ.of {n₀ b c:Nat} {A B:World} (h:Below A.heap.size A B) (hn:n₀≤A.heap.size):KQ n₀ b c A B:=⟨KP.of h hn,KP.of h hn⟩
theorem At.box {W W':World} {g:Nat} {t:TypeId} {cs:Array Value} (h:At W g t cs) {n₀:Nat} (k:KP n₀ g W W'):At W' g t cs:=(k.box h.lt).trans h
theorem Mem.cons2 {n0:Nat} {w0 w w':World} {M:List (Nat × TypeId × Array Value)} (H:Mem n0 w0 w M) (z:Below w.heap.size w w') {g g':Nat} {t t':TypeId} {cs cs':Array Value} (hg:w.heap.size≤g) (hg':w.heap.size≤g') (hne:g≠g') (h:At w' g t cs) (h':At w' g' t' cs'):Mem n0 w0 w' ((g,t,cs)::(g',t',cs')::M):=by
 have H2:=(H.on z).cons (g:=g') (Nat.le_trans H.le (Nat.le_trans H.bel.size hg')) h' (List.nodup_cons.2 ⟨fun hm=>by obtain ⟨x,hx,e⟩:=List.mem_map.1 hm;exact Jdr H hg' x hx e,H.nd⟩)
 refine H2.cons (Nat.le_trans H.le (Nat.le_trans H.bel.size hg)) h (List.nodup_cons.2 ⟨fun hm=>?_,H2.nd⟩)
 rcases List.mem_cons.1 hm with e | hm
 ·exact hne e
 ·obtain ⟨x,hx,e⟩:=List.mem_map.1 hm;exact Jdr H hg x hx e
set_option maxRecDepth 100000 in
set_option maxHeartbeats 800000 in
theorem numbers_ex (P Q G H k:Nat) (w0:World):Calls Try.prog 36 #[grp P Q G H,.int .i64 (k:Nat)] w0 fun e w'=>∃ u,e=.returned u∧∃ gN gG,u=.func (.func 53) #[] #[.pointer (some ⟨gN,0,none⟩),.pointer (some ⟨gG,0,none⟩)]∧Below w0.heap.size w0 w'∧w0.heap.size≤gN∧w0.heap.size≤gG∧gN≠gG∧At w' gN 3 #[.int .i64 (k:Nat)]∧At w' gG 26 (gcs P Q G H):=by
 refine Kc (args:=[grp P Q G H,.int .i64 (k:Nat)]) Try.func36 rfl Try.ntmps36 (by rfl) fun a F HM=>?_
 refine Kgr ?_
 refine Jn F HM (Ja rfl _) rfl (by rfl) (Kn (F.ev rfl)) fun a w gg F HM=>?_
 refine Jn F HM (Ja rfl _) rfl (by rfl) (Jao (F.ev rfl)) fun a w gn F HM=>?_
 refine lxv (.nilFunc) F (Jg rfl) fun a F=>?_
 refine Jf ?_
 refine Kgr ?_
 refine lxv (.func (.func 53) #[] #[.pointer (some ⟨gn,0,none⟩),.pointer (some ⟨gg,0,none⟩)]) F (Jfz (F.ev rfl) (F.ev rfl)) fun a F=>?_
 refine lxv (.func (.func 53) #[] #[.pointer (some ⟨gn,0,none⟩),.pointer (some ⟨gg,0,none⟩)]) F (Jg (F.ev rfl)) fun a F=>?_
 refine Jf ?_
 refine Kgq ?_
 refine wp_ret ?_
 repeat (first | refine Jv ?_ | refine Jp ?_)
 exact bodyPost_ret (Kt F rfl (s:=4) rfl) F.defers ⟨_,rfl,gn,gg,rfl,HM.bel,HM.own _ List.mem_cons_self,HM.own _ (List.mem_cons_of_mem _ List.mem_cons_self),fun e=>by have:=(List.nodup_cons.1 HM.nd).1;simp [e] at this,HM.get 0 rfl,HM.get 1 rfl⟩

section
variable {P:Program} {a:Act} {w:World}
theorem run_yield_op {x y z:Operand} {dst:Option Tmp} {ty:TypeId} {pos:String} {after:Array Edge} {tys:Array TypeId} {l:Nat} {u v:Value} (hx:a.eval x=.func (.yield l) #[] #[]) (hy:a.eval y=u) (hz:a.eval z=v):(execOp a.eval ⟨dst,.call ⟨.value x,#[y,z],tys⟩,ty,pos,after,none⟩).run P w=(Instr.yield l #[u,v]).run P w:=by
 subst hy hz
 simp only [execOp,resolve,hx]
 simp [Deferred.ofValue,invoke,go_sem]
theorem run_yield_op1 {x y:Operand} {dst:Option Tmp} {ty:TypeId} {pos:String} {after:Array Edge} {tys:Array TypeId} {l:Nat} {u:Value} (hx:a.eval x=.func (.yield l) #[] #[]) (hy:a.eval y=u):(execOp a.eval ⟨dst,.call ⟨.value x,#[y],tys⟩,ty,pos,after,none⟩).run P w=(Instr.yield l #[u]).run P w:=by
 subst hy
 simp only [execOp,resolve,hx]
 simp [Deferred.ofValue,invoke,go_sem]
end
set_option maxRecDepth 100000 in
set_option maxHeartbeats 800000 in
theorem num_in (P Q G H k l gN gG n₀ n:Nat) (hQ:Q<2^256) (hk:k≤2000) (J Jx:List Nat→World→Prop)
  (hY : ∀ pre x W, J pre W → pre.length < k → YieldAt Fence.wide (n - 1) Try.prog l #[.int .i64 ((x % 2000 + 1 : Nat) : Int), num (Ki Q ((x % 2000 + 1 : Nat) : Int))] W fun e W' =>
   (e=.returned (.bool true)∧J (pre++[x]) W'∧KQ n₀ gN gG W W')∨(e=.returned (.bool false)∧Jx (pre++[x]) W'))
  (W:World) (hW:n₀≤W.heap.size) (hJ:AbidesFrom W.heap.size J) (hN:At W gN 3 #[.int .i64 (k:Nat)]) (hG:At W gG 26 (gcs P Q G H)) (h0:J [] W) :
  CallsIn Fence.wide n Try.prog 53 #[.func (.yield l) #[] #[],.pointer (some ⟨gN,0,none⟩),.pointer (some ⟨gG,0,none⟩)] W fun e W'=>(∃ v,e=.returned v)∧((∃ ys,ys=List.range k∧J ys W')∨(∃ pre,pre <+: List.range k∧Jx pre W')):=by
 refine sx_enterI (args:=[.func (.yield l) #[] #[],.pointer (some ⟨gN,0,none⟩),.pointer (some ⟨gG,0,none⟩)]) Try.func53 rfl Try.ntmps53 (by rfl) fun a F=>?_
 repeat (first | refine Js ?_ | refine Jo ?_ | refine wpIn_seq ?_ | refine wpIn_block ?_ | refine wpIn_skip ?_)
 refine wpIn_region_lit ?_
 refine Uf (v:=.int .i64 1) F (fun _ h=>by cases h) (Ja rfl _) rfl (by rfl) (Jg rfl) fun a F=>?_
 refine Jab ?_
 repeat (first | refine Js ?_ | refine Jo ?_ | refine wpIn_seq ?_ | refine wpIn_block ?_ | refine wpIn_skip ?_)
 refine wpIn_loop (fun a w=>∃ i:Nat,i≤k∧Fr a 17 [(4,.int .i64 ((i+1:Nat):Int)),(0,.func (.yield l) #[] #[]),(1,.pointer (some ⟨gN,0,none⟩)),(2,.pointer (some ⟨gG,0,none⟩))] []∧J (List.range i) w∧KQ n₀ gN gG W w) (fun a _=>k+1-(intOf (a.tmps.getD 4 undef)).toNat) ⟨0,Nat.zero_le _,F.sub [4,0,1,2],h0,KQ.refl _ _ _ _⟩ ?_
 clear F
 rintro aS w ⟨i,hi,FS,hJi,hkq⟩
 have F:=FS
 have hN2:=hN.box hkq.1
 have hG2:=hG.box hkq.2
 have hwr:n₀≤w.heap.size:=Nat.le_trans hW hkq.1.bel.size
 by_cases hlt:i<k
 ·repeat (first | refine Js ?_ | refine Jo ?_ | refine wpIn_seq ?_ | refine wpIn_block ?_ | refine wpIn_skip ?_)
  refine wpIn_region_lit ?_
  refine Uf (v:=.int .i64 ((i+1:Nat):Int)) F (fun _ h=>by cases h) (Ja rfl _) rfl (by rfl) (Jc (F.ev rfl)) fun a F=>?_
  refine Uf (v:=.int .i64 (k:Nat)) F (fun _ h=>by cases h) (Ja rfl _) rfl (by rfl) (Vr (F.ev rfl) ((hN2.cell 0).trans rfl)) fun a F=>?_
  refine Uf (v:=.bool true) F (fun _ h=>by cases h) (Ja rfl _) rfl (by rfl) (Ua (u:=.int .i64 ((i+1:Nat):Int)) (v:=.int .i64 (k:Nat)) (fun ρ hx hy=>by simp only [execOp,hx,hy];simp [go_sem];omega) (F.ev rfl) (F.ev rfl)) fun a F=>?_
  refine Jab ?_
  repeat (first | refine Js ?_ | refine Jo ?_ | refine wpIn_seq ?_ | refine wpIn_block ?_ | refine wpIn_skip ?_)
  refine wpIn_cond_true (F.ev rfl) ?_
  repeat (first | refine Js ?_ | refine Jo ?_ | refine wpIn_seq ?_ | refine wpIn_block ?_ | refine wpIn_skip ?_)
  refine wpIn_region_lit ?_
  refine Uf (v:=.func (.yield l) #[] #[]) F (fun _ h=>by cases h) (Ja rfl _) rfl (by rfl) (Jc (F.ev rfl)) fun a F=>?_
  refine Uf (v:=.int .i64 ((i+1:Nat):Int)) F (fun _ h=>by cases h) (Ja rfl _) rfl (by rfl) (Jc (F.ev rfl)) fun a F=>?_
  refine Uf (v:=grp P Q G H) F (fun _ h=>by cases h) (Ja rfl _) rfl (by rfl) (Jy (F.ev rfl) hG2) fun a F=>?_
  refine Uf (v:=.int .i64 ((i+1:Nat):Int)) F (fun _ h=>by cases h) (Ja rfl _) rfl (by rfl) (Jc (F.ev rfl)) fun a F=>?_
  refine li_call F (fun _ h=>by cases h) (Ja rfl _) rfl (by rfl) (Ji Try.func11 (by kernel_rfl) (by rfl) (.cons (F.ev rfl) (.cons (F.ev rfl) .nil)) _) (Jch P Q G H ((i+1:Nat):Int) hQ (by omega) (by omega) w) fun a w1 z F=>?_
  have hJ1:=hJ _ _ _ none hJi (grown_of_below z (Nat.le_refl _)) (fun _ e=>by cases e)
  have hyi:=hY (List.range i) i w1 hJ1 (by simpa using hlt)
  rw [Nat.mod_eq_of_lt (show i<2000 by omega)] at hyi
  refine li_yield F (fun _ h=>by cases h) (Ja rfl _) rfl (by rfl) (run_yield_op (F.ev rfl) (F.ev rfl) (F.ev rfl)) hyi fun e w2 he=>?_
  rcases he with ⟨rfl,hJ2,hk2⟩ | ⟨rfl,hx2⟩
  ·refine .inl ⟨_,rfl,fun a F=>?_⟩
   refine Uf (v:=.bool false) F (fun _ h=>by cases h) (Ja rfl _) rfl (by rfl) (Xv (b:=true) (r:=false) (F.ev rfl) rfl) fun a F=>?_
   refine Jab ?_
   repeat (first | refine Js ?_ | refine Jo ?_ | refine wpIn_seq ?_ | refine wpIn_block ?_ | refine wpIn_skip ?_)
   refine wpIn_cond_false (F.ev rfl) ?_
   repeat (first | refine Js ?_ | refine Jo ?_ | refine wpIn_seq ?_ | refine wpIn_block ?_ | refine wpIn_skip ?_)
   refine wpIn_region_lit ?_
   refine Uf (v:=.int .i64 ((i+1:Nat):Int)) F (fun _ h=>by cases h) (Ja rfl _) rfl (by rfl) (Jc (F.ev rfl)) fun a F=>?_
   refine Uf (v:=.int .i64 ((i+1+1:Nat):Int)) F (fun _ h=>by cases h) (Ja rfl _) rfl (by rfl) (Ua (u:=.int .i64 ((i+1:Nat):Int)) (v:=.int .i64 1) (fun ρ hx hy=>by simp only [execOp,hx,hy];simp [go_sem];exact Jez (m:=i+1+1) (by omega)) (F.ev rfl) rfl) fun a F=>?_
   refine Uf (v:=.int .i64 ((i+1+1:Nat):Int)) F (fun _ h=>by cases h) (Ja rfl _) rfl (by rfl) (Jg (F.ev rfl)) fun a F=>?_
   refine Jab ?_
   repeat (first | refine Js ?_ | refine Jo ?_ | refine wpIn_seq ?_ | refine wpIn_block ?_ | refine wpIn_skip ?_)
   refine ⟨⟨i+1,hlt,F.sub [4,0,1,2],by rw [List.range_succ];exact hJ2,hkq.trans ((KQ.of z hwr).trans hk2)⟩,?_⟩
   show k+1-(intOf (a.tmps.getD 4 undef)).toNat<k+1-(intOf (aS.tmps.getD 4 undef)).toNat
   rw [F.get 4 _ rfl,FS.get 4 _ rfl]
   show k+1-((i+1+1:Nat):Int).toNat<k+1-((i+1:Nat):Int).toNat
   omega
  ·refine .inl ⟨_,rfl,fun a F=>?_⟩
   refine Uf (v:=.bool true) F (fun _ h=>by cases h) (Ja rfl _) rfl (by rfl) (Xv (b:=false) (r:=true) (F.ev rfl) rfl) fun a F=>?_
   refine Jab ?_
   repeat (first | refine Js ?_ | refine Jo ?_ | refine wpIn_seq ?_ | refine wpIn_block ?_ | refine wpIn_skip ?_)
   refine wpIn_cond_true (F.ev rfl) ?_
   repeat (first | refine Js ?_ | refine Jo ?_ | refine wpIn_seq ?_ | refine wpIn_block ?_ | refine wpIn_skip ?_)
   refine wpIn_ret ?_
   repeat (first | refine Jv ?_ | refine Jp ?_)
   refine bodyPost_ret (Vt rfl) F.defers ⟨⟨_,rfl⟩,.inr ⟨_,?_,hx2⟩⟩
   rw [← List.range_succ,List.prefix_iff_eq_take,List.length_range,List.take_range]
   congr 1
   omega
 ·repeat (first | refine Js ?_ | refine Jo ?_ | refine wpIn_seq ?_ | refine wpIn_block ?_ | refine wpIn_skip ?_)
  refine wpIn_region_lit ?_
  refine Uf (v:=.int .i64 ((i+1:Nat):Int)) F (fun _ h=>by cases h) (Ja rfl _) rfl (by rfl) (Jc (F.ev rfl)) fun a F=>?_
  refine Uf (v:=.int .i64 (k:Nat)) F (fun _ h=>by cases h) (Ja rfl _) rfl (by rfl) (Vr (F.ev rfl) ((hN2.cell 0).trans rfl)) fun a F=>?_
  refine Uf (v:=.bool false) F (fun _ h=>by cases h) (Ja rfl _) rfl (by rfl) (Ua (u:=.int .i64 ((i+1:Nat):Int)) (v:=.int .i64 (k:Nat)) (fun ρ hx hy=>by simp only [execOp,hx,hy];simp [go_sem];omega) (F.ev rfl) (F.ev rfl)) fun a F=>?_
  refine Jab ?_
  repeat (first | refine Js ?_ | refine Jo ?_ | refine wpIn_seq ?_ | refine wpIn_block ?_ | refine wpIn_skip ?_)
  refine wpIn_cond_false (F.ev rfl) ?_
  repeat (first | refine Js ?_ | refine Jo ?_ | refine wpIn_seq ?_ | refine wpIn_block ?_ | refine wpIn_skip ?_)
  refine wpIn_exit ?_
  repeat (first | refine Vu ?_ | refine Vf ?_)
  repeat (first | refine Js ?_ | refine Jo ?_ | refine wpIn_seq ?_ | refine wpIn_block ?_ | refine wpIn_skip ?_)
  obtain rfl:i=k:=by omega
  exact bodyPost_end (Vt rfl) F.defers ⟨⟨_,rfl⟩,.inl ⟨_,rfl,hJi⟩⟩
theorem num_seq (P Q G H k n gN gG n₀:Nat) (hQ:Q<2^256) (hk:k≤2000) (w:World) (hn₀:n₀≤w.heap.size) (hN:At w gN 3 #[.int .i64 (k:Nat)]) (hG:At w gG 26 (gcs P Q G H)) :
  SeqStopsK Fence.wide n Try.prog 53 #[.pointer (some ⟨gN,0,none⟩),.pointer (some ⟨gG,0,none⟩)] (fun x:Nat=>#[.int .i64 ((x%2000+1:Nat):Int),num (Ki Q ((x%2000+1:Nat):Int))]) (KQ n₀ gN gG) (fun ys=>ys=List.range k) (fun pre=>pre <+: List.range k) k w:=
 fun l J Jx W hW hJ hJx hY h0=>num_in P Q G H k l gN gG n₀ n hQ hk J Jx hY W (Nat.le_trans hn₀ hW.size) hJ (hN.on hW) (hG.on hW) h0
end Go.Proofs.Ytcbnmdkmfdjpiaa
