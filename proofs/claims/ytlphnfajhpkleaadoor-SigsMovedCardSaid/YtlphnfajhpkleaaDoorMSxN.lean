/-
 A walk without simp: the frame as a list of slots with what they hold,the blocks of one's own as a list of what lies in them;one rule an operation.
-/
import Derived.RangeFuncOwn
import Derived.Deep.Cut
import Derived.Test.YtlphnfajhpkleaaDoorMBehN
import Derived.Test.YtlphnfajhpkleaaDoorMGInvT
import Derived.Test.YtlphnfajhpkleaaDoorMSmall
namespace Go.Proofs.YtlphnfajhpkleaaDoor
set_option maxRecDepth 100000
open Go.RowKit
set_option linter.unusedSimpArgs false
set_option linter.unusedVariables false

/-- what a slot holds -/
def lk:List (Nat × Value)→Nat→Option Value
 | [],_=>none
 | (d,v)::L,s=>bif Nat.beq d s then some v else lk L s
/-- a frame of N slots,of which L tells -/
structure Fr (a:Act) (N:Nat) (L:List (Nat × Value)) (df:List Deferred):Prop where
 size:a.tmps.size=N
 defers:a.defers=df
 get:∀ s v,lk L s=some v→a.tmps.getD s undef=v
theorem Fr.ev {a:Act} {N:Nat} {L:List (Nat × Value)} {df:List Deferred} (F:Fr a N L df) {s:Nat} {v:Value} (h:lk L s=some v):a.eval (.tmp s)=v:=F.get s v h
theorem Fr.put {a:Act} {N:Nat} {L:List (Nat × Value)} {df:List Deferred} (F:Fr a N L df) {d:Nat} (v:Value) (hd:Nat.blt d N=true):Fr (a.put (some d) v) N ((d,v)::L) df:=by
 have hd':d<a.tmps.size:=by rw [F.size];simpa using hd
 refine ⟨by rw [← F.size];simp [Act.put],F.defers,fun s u h=>?_⟩
 by_cases e:d=s
 ·subst e
  simp [lk] at h
  subst h
  exact put_at a d v hd'
 ·have e':Nat.beq d s=false:=Bool.eq_false_iff.2 fun h=>e (Nat.eq_of_beq_eq_true h)
  simp [lk,e'] at h
  rw [← F.get s u h]
  simp only [Act.put,Array.getD_eq_getD_getElem?]
  rw [Array.getElem?_setIfInBounds_ne e]
/-- fewer slots -/
theorem Fr.sub {a:Act} {N:Nat} {L:List (Nat × Value)} {df:List Deferred} (F:Fr a N L df) (ss:List Nat):Fr a N (ss.filterMap fun s=>(lk L s).map fun v=>(s,v)) df:=by
 refine ⟨F.size,F.defers,?_⟩
 induction ss with
 | nil=>intro s v h;simp [lk] at h
 | cons t ss ih=>
  intro s v h
  cases ht:lk L t with
  | none=>simp only [List.filterMap_cons,ht,Option.map_none] at h;exact ih s v h
  | some u=>
   simp only [List.filterMap_cons,ht,Option.map_some,lk] at h
   by_cases e:t=s
   ·subst e;simp at h;subst h;exact F.get _ _ ht
   ·have e':Nat.beq t s=false:=Bool.eq_false_iff.2 fun h=>e (Nat.eq_of_beq_eq_true h)
    rw [e'] at h;exact ih s v h
/-- values by their places -/
def idx (k:Nat):List Value→List (Nat × Value)
 | []=>[]
 | v::vs=>(k,v)::idx (k+1) vs
theorem lk_idx:∀ (vs:List Value) (k s:Nat) (v:Value),lk (idx k vs) s=some v→k≤s∧vs[s-k]? = some v
 | [],_,_,_,h=>by simp [idx,lk] at h
 | u::vs,k,s,v,h=>by
  by_cases e:k=s
  ·subst e;simp [idx,lk] at h;simp [h]
  ·have e':Nat.beq k s=false:=Bool.eq_false_iff.2 fun h=>e (Nat.eq_of_beq_eq_true h)
   simp only [idx,lk,e',cond_false] at h
   obtain ⟨h1,h2⟩:=lk_idx vs (k+1) s v h
   refine ⟨by omega,?_⟩
   rw [show s-k=(s-(k+1))+1 by omega,List.getElem?_cons_succ];exact h2
theorem Fr.start (args:List Value) (n N:Nat) (hn:n=N) (hl:Nat.ble args.length N=true):Fr { tmps:=args.toArray++Array.replicate (n-args.toArray.size) undef,defers:=[] } N (idx 0 args) []:=by
 subst hn
 have hl':args.length≤n:=by simpa using hl
 refine ⟨by simp;omega,rfl,fun s v h=>?_⟩
 obtain ⟨-,h2⟩:=lk_idx args 0 s v h
 rw [Nat.sub_zero] at h2
 have hs:=(List.getElem?_eq_some_iff.1 h2).1
 rw [Array.getD_eq_getD_getElem?,Array.getElem?_append_left (by simpa using hs)]
 simp [h2]

/-- the blocks of one's own,and nothing else has changed -/
structure Mem (n0:Nat) (w0 w:World) (M:List (Nat × TypeId × Array Value)):Prop where
 le:n0≤w0.heap.size
 bel:Below n0 w0 w
 oth:KeepsOthers w0 w
 at_:∀ x∈M,At w x.1 x.2.1 x.2.2
 own:∀ x∈M,n0≤x.1
 nd:(M.map (·.1)).Nodup
theorem KeepsOthers.ofB {w w':World} (h:Below w.heap.size w w'):KeepsOthers w w':=⟨h.size,fun k o hk _=>(h.block k (Array.getElem?_eq_some_iff.1 hk).1).trans hk⟩
theorem Mem.start (w:World):Mem w.heap.size w w []:=⟨Nat.le_refl _,Below.refl _ _,KeepsOthers.refl _,fun _ h=>(by cases h),fun _ h=>(by cases h),List.nodup_nil⟩
theorem Mem.get {n0:Nat} {w0 w:World} {M:List (Nat × TypeId × Array Value)} (H:Mem n0 w0 w M) (k:Nat) {g:Nat} {t:TypeId} {cs:Array Value} (h:M[k]? = some (g,t,cs)):At w g t cs:=H.at_ (g,t,cs) (List.mem_of_getElem? h)
theorem Mem.on {n0:Nat} {w0 w w':World} {M:List (Nat × TypeId × Array Value)} (H:Mem n0 w0 w M) (h:Below w.heap.size w w'):Mem n0 w0 w' M:=
 ⟨H.le,H.bel.trans (h.mono (Nat.le_trans H.le H.bel.size)),H.oth.trans (KeepsOthers.ofB h),fun x hx=>(H.at_ x hx).on h,H.own,H.nd⟩
theorem Mem.drew {n0:Nat} {w0 w:World} {M:List (Nat × TypeId × Array Value)} (H:Mem n0 w0 w M):Mem n0 w0 w.drew M:=H.on (Below.refl _ _).drew
theorem Mem.new {n0:Nat} {w0 w:World} {M:List (Nat × TypeId × Array Value)} (H:Mem n0 w0 w M) (cs:Array Value) (t:TypeId):Mem n0 w0 (w.alloc (.cells cs t)) ((w.heap.size,t,cs)::M):=by
 refine ⟨H.le,H.bel.alloc (Nat.le_trans H.le H.bel.size) _,H.oth.trans (KeepsOthers.alloc _ _),fun x hx=>?_,fun x hx=>?_,?_⟩
 ·rcases List.mem_cons.1 hx with rfl | hx
  ·exact At.new _ _ _
  ·exact (H.at_ x hx).alloc _
 ·rcases List.mem_cons.1 hx with rfl | hx
  ·exact Nat.le_trans H.le H.bel.size
  ·exact H.own x hx
 ·rw [List.map_cons,List.nodup_cons]
  refine ⟨fun h=>?_,H.nd⟩
  obtain ⟨x,hx,he⟩:=List.mem_map.1 h
  have:=(H.at_ x hx).lt
  omega
/-- a block that another one's call made -/
theorem Mem.add {n0:Nat} {w0 w:World} {M:List (Nat × TypeId × Array Value)} (H:Mem n0 w0 w M) {g:Nat} {t:TypeId} {cs:Array Value} (hg:n0≤g) (hn:∀ x∈M,x.1≠g) (h:At w g t cs):Mem n0 w0 w ((g,t,cs)::M):=
 ⟨H.le,H.bel,H.oth,fun x hx=>(by
  rcases List.mem_cons.1 hx with rfl | hx
  ·exact h
  ·exact H.at_ x hx),fun x hx=>(by
  rcases List.mem_cons.1 hx with rfl | hx
  ·exact hg
  ·exact H.own x hx),by
  rw [List.map_cons,List.nodup_cons]
  exact ⟨fun h=>by obtain ⟨x,hx,he⟩:=List.mem_map.1 h;exact hn x hx he,H.nd⟩⟩
theorem Mem.lt {n0:Nat} {w0 w:World} {M:List (Nat × TypeId × Array Value)} (H:Mem n0 w0 w M):∀ x∈M,x.1<w.heap.size:=fun x hx=>(H.at_ x hx).lt
/-- cells of a block,from o on -/
def puts (w:World) (g:Nat):Nat→List Value→World
 | _,[]=>w
 | o,v::vs=>puts (w.setCell ⟨g,o,none⟩ v) g (o+1) vs
def sets (cs:Array Value):Nat→List Value→Array Value
 | _,[]=>cs
 | o,v::vs=>sets (cs.setIfInBounds o v) (o+1) vs
theorem Mem.put1 {n0:Nat} {w0 w:World} {M:List (Nat × TypeId × Array Value)} (H:Mem n0 w0 w M) (k:Nat) {g:Nat} {t:TypeId} {cs:Array Value} (h:M[k]? = some (g,t,cs)) (o:Nat) (v:Value):Mem n0 w0 (w.setCell ⟨g,o,none⟩ v) (M.set k (g,t,cs.setIfInBounds o v)):=by
 have hmem:=List.mem_of_getElem? h
 have hk:=(List.getElem?_eq_some_iff.1 h).1
 have he:(M.set k (g,t,cs.setIfInBounds o v)).map (·.1)=M.map (·.1):=by
  rw [List.map_set]
  have:(M.map (·.1))[k]? = some g:=by rw [List.getElem?_map,h];rfl
  exact List.ext_getElem? fun i=>by
   by_cases e:k=i
   ·subst e;rw [List.getElem?_set_self (by simpa using hk),this]
   ·rw [List.getElem?_set_ne e]
 refine ⟨H.le,H.bel.setCell (p:=⟨g,o,none⟩) (H.own _ hmem) v,H.oth.trans (KeepsOthers.setCell _ _ _),fun x hx=>?_,fun x hx=>?_,by rw [he];exact H.nd⟩
 ·obtain ⟨i,hi,rfl⟩:=List.getElem_of_mem hx
  by_cases e:k=i
  ·subst e;rw [List.getElem_set_self];exact (H.at_ _ hmem).set o v
  ·rw [List.getElem_set_ne e]
   have hi':i<M.length:=by simpa using hi
   refine (H.at_ _ (List.getElem_mem hi')).far (p:=⟨g,o,none⟩) ?_ v
   intro hg
   have h1:(M.map (·.1))[k]? = some g:=by rw [List.getElem?_map,h];rfl
   have h2:(M.map (·.1))[i]? = some g:=by rw [List.getElem?_map,List.getElem?_eq_getElem hi'];simp [← hg]
   exact e ((List.getElem?_inj (by simpa using hk) H.nd).1 (by rw [h1,h2]))
 ·have:x.1∈(M.set k (g,t,cs.setIfInBounds o v)).map (·.1):=List.mem_map_of_mem hx
  rw [he] at this
  obtain ⟨y,hy,hxy⟩:=List.mem_map.1 this
  rw [← hxy];exact H.own y hy
theorem Mem.puts {n0:Nat} {w0:World} {k g:Nat} {t:TypeId}:∀ (vs:List Value) {w:World} {M:List (Nat × TypeId × Array Value)} {cs:Array Value} (H:Mem n0 w0 w M) (h:M[k]? = some (g,t,cs)) (o:Nat),Mem n0 w0 (puts w g o vs) (M.set k (g,t,sets cs o vs))
 | [],w,M,cs,H,h,o=>by
  have hk:=(List.getElem?_eq_some_iff.1 h).1
  have:M.set k (g,t,cs)=M:=List.ext_getElem? fun i=>by
   by_cases e:k=i
   ·subst e;rw [List.getElem?_set_self hk,h]
   ·rw [List.getElem?_set_ne e]
  show Mem n0 w0 w (M.set k (g,t,cs))
  rw [this];exact H
 | v::vs,w,M,cs,H,h,o=>by
  have hk:=(List.getElem?_eq_some_iff.1 h).1
  have:=Mem.puts vs (H.put1 k h o v) (by rw [List.getElem?_set_self hk]) (o+1)
  rw [List.set_set] at this
  exact this

section
variable {P:Program} {ops:Array Oper} {Q:Exit→Act→World→Prop} {a:Act} {n0:Nat} {w w0:World} {rest:List Oper} {o:Oper} {N:Nat} {L:List (Nat × Value)} {df:List Deferred} {M:List (Nat × TypeId × Array Value)}
theorem wanted_none (h:o.guard=none) (t:Array Value):Region.wanted o (yielded ops t)=true:=by unfold Region.wanted;rw [h]
theorem Fr.wanted (F:Fr a N L df) {k t:Nat} {b c:Bool} (hg:o.guard=some (k,b)) (hk:(ops[k]?).bind (·.dst)=some t) (ht:lk L t=some (.bool c)) (hN:Nat.blt t N=true):Region.wanted o (yielded ops a.tmps)=(c==b):=by
 have e:=F.get t _ ht
 have hs:t<a.tmps.size:=by rw [F.size];simpa using hN
 have e2:a.tmps[t]? = some (.bool c):=by
  rw [Array.getD_eq_getD_getElem?,Array.getElem?_eq_getElem hs] at e
  rw [Array.getElem?_eq_getElem hs];exact congrArg some e
 unfold Region.wanted yielded
 rw [hg]
 simp only [hk,Option.bind_some,e2]
 cases c <;> cases b <;> rfl
theorem Fr.want (F:Fr a N L df) {k t:Nat} {b c r:Bool} (hg:o.guard=some (k,b)) (hk:(ops[k]?).bind (·.dst)=some t) (ht:lk L t=some (.bool c)) (hN:Nat.blt t N=true) (hr:(c==b)=r):Region.wanted o (yielded ops a.tmps)=r:=by
 rw [← hr];exact F.wanted hg hk ht hN
theorem Fr.unwanted (F:Fr a N L df) {k t:Nat} {b:Bool} (hg:o.guard=some (k,b)) (hk:(ops[k]?).bind (·.dst)=some t) (ht:lk L t=some undef) (hN:Nat.blt t N=true):Region.wanted o (yielded ops a.tmps)=false:=by
 have e:=F.get t _ ht
 have hs:t<a.tmps.size:=by rw [F.size];simpa using hN
 have e2:a.tmps[t]? = some undef:=by
  rw [Array.getD_eq_getD_getElem?,Array.getElem?_eq_getElem hs] at e
  rw [Array.getElem?_eq_getElem hs];exact congrArg some e
 unfold Region.wanted yielded
 rw [hg]
 simp only [hk,Option.bind_some,e2]
 cases b <;> rfl
/-- an operation that gives a value -/
theorem lx_value {d:Nat} {v:Value} {w':World} (F:Fr a N L df) (hw:Region.wanted o (yielded ops a.tmps)=true) (hdst:o.dst=some d) (hd:Nat.blt d N=true) (hr:(execOp a.eval o).run P w=.ok (.value v) w')
  (h:∀ a',Fr a' N ((d,v)::L) df→wpList P ops Q rest a' w'):wpList P ops Q (o::rest) a w:=by
 unfold wpList
 rw [if_pos hw]
 left
 unfold Oper.wp
 rw [hr]
 show wpList P ops Q rest (a.put o.dst v) w'
 rw [hdst]
 exact h _ (F.put v hd)
/-- one that is passed over -/
theorem lx_pass {d:Nat} (F:Fr a N L df) (hw:Region.wanted o (yielded ops a.tmps)=false) (hdst:o.dst=some d) (hd:Nat.blt d N=true)
  (h:∀ a',Fr a' N ((d,undef)::L) df→wpList P ops Q rest a' w):wpList P ops Q (o::rest) a w:=by
 unfold wpList
 rw [if_neg (by rw [hw];decide),hdst]
 exact h _ (F.put undef hd)
theorem lxv {d:Nat} (v:Value) {w':World} (F:Fr a N L df) (hr:(execOp a.eval o).run P w=.ok (.value v) w') (h:∀ a',Fr a' N ((d,v)::L) df→wpList P ops Q rest a' w') (hw:Region.wanted o (yielded ops a.tmps)=true:=by exact wanted_none rfl _) (hdst:o.dst=some d:=by rfl) (hd:Nat.blt d N=true:=by rfl):wpList P ops Q (o::rest) a w:=lx_value F hw hdst hd hr h
theorem lxw (t:Nat) (c:Bool) {d k:Nat} {b:Bool} (v:Value) {w':World} (F:Fr a N L df) (hr:(execOp a.eval o).run P w=.ok (.value v) w') (h:∀ a',Fr a' N ((d,v)::L) df→wpList P ops Q rest a' w') (hg:o.guard=some (k,b):=by rfl) (hk:(ops[k]?).bind (·.dst)=some t:=by rfl) (ht:lk L t=some (.bool c):=by rfl) (hN:Nat.blt t N=true:=by rfl) (hb:(c==b)=true:=by rfl) (hdst:o.dst=some d:=by rfl) (hd:Nat.blt d N=true:=by rfl):wpList P ops Q (o::rest) a w:=lx_value F (F.want hg hk ht hN hb) hdst hd hr h
theorem lxp (t:Nat) (c:Bool) {d k:Nat} {b:Bool} (F:Fr a N L df) (h:∀ a',Fr a' N ((d,undef)::L) df→wpList P ops Q rest a' w) (hg:o.guard=some (k,b):=by rfl) (hk:(ops[k]?).bind (·.dst)=some t:=by rfl) (ht:lk L t=some (.bool c):=by rfl) (hN:Nat.blt t N=true:=by rfl) (hb:(c==b)=false:=by rfl) (hdst:o.dst=some d:=by rfl) (hd:Nat.blt d N=true:=by rfl):wpList P ops Q (o::rest) a w:=lx_pass F (F.want hg hk ht hN hb) hdst hd h
/-- a new block -/
theorem lx_new {d:Nat} {cs:Array Value} {t:TypeId} (F:Fr a N L df) (H:Mem n0 w0 w M) (hw:Region.wanted o (yielded ops a.tmps)=true) (hdst:o.dst=some d) (hd:Nat.blt d N=true)
  (hr:(execOp a.eval o).run P w=.ok (.value (.pointer (some ⟨w.heap.size,0,none⟩))) (w.alloc (.cells cs t)))
  (h:∀ a' w' g,Fr a' N ((d,.pointer (some ⟨g,0,none⟩))::L) df→Mem n0 w0 w' ((g,t,cs)::M)→wpList P ops Q rest a' w'):wpList P ops Q (o::rest) a w:=
 lx_value F hw hdst hd hr fun a' F'=>h a' _ _ F' (H.new cs t)
/-- a store into block k -/
theorem lx_store {k g i:Nat} {t:TypeId} {cs:Array Value} {vs:List Value} (F:Fr a N L df) (H:Mem n0 w0 w M) (hw:Region.wanted o (yielded ops a.tmps)=true) (hdst:o.dst=none) (hk:M[k]? = some (g,t,cs))
  (hr:(execOp a.eval o).run P w=.ok .skip (puts w g i vs)) {M2:List (Nat × TypeId × Array Value)} (hM:M.set k (g,t,sets cs i vs)=M2)
  (h:∀ w',Mem n0 w0 w' M2→wpList P ops Q rest a w'):wpList P ops Q (o::rest) a w:=by
 subst hM
 unfold wpList
 rw [if_pos hw]
 left
 unfold Oper.wp
 rw [hr]
 show wpList P ops Q rest (a.put o.dst undef) _
 rw [hdst]
 exact h _ (Mem.puts vs H hk i)
/-- a call -/
theorem lx_call {d:Nat} {f:FuncId} {args:Array Value} {u:Value} {T:World→Prop} (F:Fr a N L df) (hw:Region.wanted o (yielded ops a.tmps)=true) (hdst:o.dst=some d) (hd:Nat.blt d N=true)
  (hr:(execOp a.eval o).run P w=.ok (.enter f args) w) (C:Calls P f args w fun e w'=>e=.returned u∧T w')
  (h:∀ a' w',T w'→Fr a' N ((d,u)::L) df→wpList P ops Q rest a' w'):wpList P ops Q (o::rest) a w:=by
 unfold wpList
 rw [if_pos hw]
 left
 unfold Oper.wp
 rw [hr,Oper.upon_enter]
 refine C.mono fun e w' ⟨he,hT⟩=>?_
 subst he
 show wpList P ops Q rest (a.put o.dst u) w'
 rw [hdst]
 exact h _ _ hT (F.put u hd)
/-- operands and what they hold -/
inductive Evs (a:Act):List Operand→List Value→Prop
 | nil:Evs a [] []
 | cons {x:Operand} {v:Value} {xs:List Operand} {vs:List Value}:a.eval x=v→Evs a xs vs→Evs a (x::xs) (v::vs)
theorem Evs.map {xs:List Operand} {vs:List Value} (h:Evs a xs vs):xs.toArray.map a.eval=vs.toArray:=by
 rw [List.map_toArray]
 congr 1
 induction h with
 | nil=>rfl
 | cons h _ ih=>rw [List.map_cons,h,ih]
theorem run_callF {f:FuncId} {fn:Func} {c:Code} (hf:P.funcs[f]? = some fn) (hname:(fn.name == "runtime.NumGoroutine")=false) (hb:fn.body=some c) {xs:List Operand} {vs:List Value} (hx:Evs a xs vs)
  {dst:Option Tmp} {tys:Array TypeId} {ty:TypeId} {pos:String} {after:Array Edge} {gd:Option (Nat × Bool)} (w:World) :
  (execOp a.eval ⟨dst,.call ⟨.value (.func f),xs.toArray,tys⟩,ty,pos,after,gd⟩).run P w=.ok (.enter f vs.toArray) w:=by
 have h:=run_enter hf hname hb vs.toArray w
 simp only [execOp,resolve,hx.map]
 simpa [Act.eval,Deferred.ofValue,invoke,go_sem] using h
theorem lx_nil (h:Q .normal a w):wpList P ops Q [] a w:=h
theorem ex_then {K:Act→World→Prop} (h:K a w):Exit.then K Q .normal a w:=h
theorem ex_block {i:Nat} (h:Q .normal a w):Exit.inBlock i Q .normal a w:=h
theorem et1 {K:Act→World→Prop} (h:K a w):Exit.then K Q .normal a w:=h
theorem eb1 {i:Nat} (h:Q .normal a w):Exit.inBlock i Q .normal a w:=h
theorem ws1 {c d:Code} (h:c.wp P (Exit.then (d.wp P Q) Q) a w):(Code.seq c d).wp P Q a w:=wp_seq h
theorem wb1 {i:Nat} {c:Code} (h:c.wp P (Exit.inBlock i Q) a w):(Code.block i c).wp P Q a w:=wp_block h
theorem wk1 (h:Q .normal a w):Code.skip.wp P Q a w:=wp_skip h
theorem ex_thenR {K:Act→World→Prop} (h:Q .ret a w):Exit.then K Q .ret a w:=h
theorem ex_blockR {i:Nat} (h:Q .ret a w):Exit.inBlock i Q .ret a w:=h
/-- a function's body -/
theorem sx_enter {f:FuncId} {fn:Func} {c:Code} {args:List Value} {R:Ending→World→Prop} (hf:P.funcs[f]? = some fn) (hb:fn.body=some c) (hN:fn.ntmps=N) (hl:Nat.ble args.length N=true)
  (h:∀ a,Fr a N (idx 0 args) []→Mem w.heap.size w w []→c.wp P (bodyPost P fn R) a w):Calls P f args.toArray w R:=
 calls_of_wp hf hb (h _ (Fr.start args _ N hN hl) (Mem.start w))
theorem sx_ret {fn:Func} {v:Value} (F:Fr a N L []) (H:Mem w0.heap.size w0 w M) (hr:(results fn a.tmps).run P w=.ok v w):bodyPost P fn (fun e w'=>e=.returned v∧Below w0.heap.size w0 w') .ret a w:=
 bodyPost_ret hr F.defers ⟨rfl,H.bel⟩
theorem res_tmp {fn:Func} {s:Nat} {v:Value} (F:Fr a N L df) (hf:fn.results=#[.tmp s]) (hs:lk L s=some v):(results fn a.tmps).run P w=.ok v w:=by
 have h:=F.get s v hs
 simp [results,hf,go_sem]
 rw [← Array.getD_eq_getD_getElem?];exact h
end
section
variable {P:Program} {ops:Array Oper} {Q:Exit→Act→World→Prop} {md:Region.Mode} {S:World→Prop} {a:Act} {n0:Nat} {W w w0:World} {cores:List Core} {N:Nat} {L:List (Nat × Value)} {df:List Deferred} {M:List (Nat × TypeId × Array Value)}
theorem Fr.all (F:Fr a N L df) {ds:List Nat} (h:ds.all (fun d=>Nat.ble (d+1) N)=true):ds.all (fun d=>Nat.ble (d+1) a.tmps.size)=true:=by rw [F.size];exact h
theorem Fr.old (F:Fr a N L df) {pre:List Nat} {t:Nat} {u:Value} (ht:(cores.map (·.d)).all (fun d=>!(Nat.beq d t))=true) (hu:lk L t=some u):Known a cores pre (.tmp t) u:=
 known_old t u (fun h=>by have:=List.all_eq_true.1 ht t h;simp at this) (F.get t u hu)
/-- slots that came up -/
theorem Fr.over (F:Fr a N L df) {ds:List Nat} {vs:List Value} (hnd:ds.Nodup) (hsz:ds.all (fun d=>Nat.ble (d+1) N)=true):∀ (R:List (Nat × Value)),(∀ x∈R,∃ k:Nat,ds[k]? = some x.1∧vs[k]? = some x.2) →
  (∀ s v,lk (R++L) s=some v→lk R s=some v∨s ∉ ds)→Fr (over a ds vs) N (R++L) df:=fun R hR hd=>by
 refine ⟨by rw [over_size,F.size],by rw [over_defers,F.defers],fun s v h=>?_⟩
 have mem:∀ (R:List (Nat × Value)),lk R s=some v→(s,v)∈R:=by
  intro R
  induction R with
  | nil=>intro h;simp [lk] at h
  | cons x R ih=>
   intro h
   obtain ⟨d,u⟩:=x
   by_cases e:d=s
   ·subst e;simp [lk] at h;subst h;exact List.mem_cons_self
   ·have e':Nat.beq d s=false:=Bool.eq_false_iff.2 fun h=>e (Nat.eq_of_beq_eq_true h)
    simp only [lk,e',cond_false] at h
    exact List.mem_cons_of_mem _ (ih h)
 rcases hd s v h with h1 | h1
 ·obtain ⟨k,hk1,hk2⟩:=hR _ (mem R h1)
  have hs:s<a.tmps.size:=by
   rw [F.size]
   exact Nat.le_of_ble_eq_true (List.all_eq_true.1 hsz s (List.mem_of_getElem? hk1))
  exact over_at ds vs a k s v hnd hk1 hk2 hs
 ·rw [over_out ds vs a s h1]
  refine F.get s v ?_
  have:∀ (R:List (Nat × Value)),lk (R++L) s=some v→(∀ x∈R,x.1≠s)→lk L s=some v:=by
   intro R
   induction R with
   | nil=>intro h _;exact h
   | cons x R ih=>
    intro h hn
    obtain ⟨d,u⟩:=x
    have e':Nat.beq d s=false:=Bool.eq_false_iff.2 fun h=>hn (d,u) List.mem_cons_self (Nat.eq_of_beq_eq_true h)
    simp only [List.cons_append,lk,e',cond_false] at h
    exact ih h fun x hx=>hn x (List.mem_cons_of_mem _ hx)
  refine this R h fun x hx e=>h1 ?_
  obtain ⟨k,hk1,_⟩:=hR x hx
  rw [← e];exact List.mem_of_getElem? hk1
end
end Go.Proofs.YtlphnfajhpkleaaDoor

/-
 Operations over numbers,groups,pairs of numbers,one rule each.
-/
namespace Go.Proofs.YtlphnfajhpkleaaDoor
set_option maxRecDepth 100000
open Go.RowKit
set_option linter.unusedSimpArgs false
set_option linter.unusedVariables false
attribute [local go_sem ↓] Go.wp_at_zero Go.wp_at_succ

abbrev gcs (P Q G H:Nat):Array Value:=#[.int .u64 (wd P 0:Nat),.int .u64 (wd P 1:Nat),.int .u64 (wd P 2:Nat),.int .u64 (wd P 3:Nat),.int .u64 (wd Q 0:Nat),.int .u64 (wd Q 1:Nat),.int .u64 (wd Q 2:Nat),.int .u64 (wd Q 3:Nat),.int .u64 (wd G 0:Nat),.int .u64 (wd G 1:Nat),.int .u64 (wd G 2:Nat),.int .u64 (wd G 3:Nat),.int .u64 (wd H 0:Nat),.int .u64 (wd H 1:Nat),.int .u64 (wd H 2:Nat),.int .u64 (wd H 3:Nat)]
abbrev acs (X Y:Nat):Array Value:=#[.int .u64 (wd X 0:Nat),.int .u64 (wd X 1:Nat),.int .u64 (wd X 2:Nat),.int .u64 (wd X 3:Nat),.int .u64 (wd Y 0:Nat),.int .u64 (wd Y 1:Nat),.int .u64 (wd Y 2:Nat),.int .u64 (wd Y 3:Nat)]
abbrev rows1 (X:Nat):Array Value:=(ncs X)
abbrev rows2 (X Y:Nat):Array Value:=#[.int .u64 (wd X 0:Nat),.int .u64 (wd X 1:Nat),.int .u64 (wd X 2:Nat),.int .u64 (wd X 3:Nat),.int .u64 (wd Y 0:Nat),.int .u64 (wd Y 1:Nat),.int .u64 (wd Y 2:Nat),.int .u64 (wd Y 3:Nat)]
abbrev arr2 (X Y:Nat):Value:=.agg #[.int .u64 (wd X 0:Nat),.int .u64 (wd X 1:Nat),.int .u64 (wd X 2:Nat),.int .u64 (wd X 3:Nat),.int .u64 (wd Y 0:Nat),.int .u64 (wd Y 1:Nat),.int .u64 (wd Y 2:Nat),.int .u64 (wd Y 3:Nat)]
section
variable {x y z:Operand} {dst:Option Tmp} {ty:TypeId} {pos:String} {after:Array Edge} {guard:Option (Nat × Bool)} {ρ:Operand→Value} {w:World} {g o:Nat} {P:Program}
theorem o_move {v:Value} (hx:ρ x=v):(execOp ρ ⟨dst,.move x,ty,pos,after,guard⟩).run P w=.ok (.value v) w:=by simp only [execOp,hx];rfl
theorem o_assign {v:Value} (hx:ρ x=v):(execOp ρ ⟨dst,.assign x,ty,pos,after,guard⟩).run P w=.ok (.value v) w:=by simp only [execOp,hx];rfl
theorem o_extract {us:Array Value} {j:Nat} {u:Value} (hx:ρ x=.tuple us) (hu:us[j]? = some u):(execOp ρ ⟨dst,.extract x j,ty,pos,after,guard⟩).run P w=.ok (.value u) w:=by simp [execOp,hx,go_sem,hu]
theorem o_pick {b:Bool} {u v r:Value} (hx:ρ x=.bool b) (hy:ρ y=u) (hz:ρ z=v) (hr:(if b then u else v)=r):(execOp ρ ⟨dst,.pick x y z,ty,pos,after,guard⟩).run P w=.ok (.value r) w:=by
 subst hr
 cases b <;> simp [execOp,hx,hy,hz,go_sem]
theorem o_not {T:TypeId} {b r:Bool} (hx:ρ x=.bool b) (hr:(!b)=r):(execOp ρ ⟨dst,.unOp .not T x,ty,pos,after,guard⟩).run P w=.ok (.value (.bool r)) w:=by
 subst hr;simp [execOp,hx,go_sem]
theorem o_bin {b:BinOp} {T T2:TypeId} {u v r:Value} (h:∀ ρ:Operand→Value,ρ x=u→ρ y=v→(execOp ρ ⟨dst,.binOp b T x y T2,ty,pos,after,guard⟩).run P w=.ok (.value r) w) (hx:ρ x=u) (hy:ρ y=v):(execOp ρ ⟨dst,.binOp b T x y T2,ty,pos,after,guard⟩).run P w=.ok (.value r) w:=h ρ hx hy
theorem o_boxN {X:Nat} (hx:ρ x=num X):(execOp ρ ⟨dst,.box 24 x,ty,pos,after,guard⟩).run Tryd.prog w=.ok (.value (.pointer (some ⟨w.heap.size,0,none⟩))) (w.alloc (.cells (ncs X) 24)):=by simp [execOp,hx,go_sem]
theorem o_boxG {P Q G H:Nat} (hx:ρ x=grp P Q G H):(execOp ρ ⟨dst,.box 26 x,ty,pos,after,guard⟩).run Tryd.prog w=.ok (.value (.pointer (some ⟨w.heap.size,0,none⟩))) (w.alloc (.cells (gcs P Q G H) 26)):=by simp [execOp,hx,go_sem]
theorem o_allocN:(execOp ρ ⟨dst,.alloc 24,ty,pos,after,guard⟩).run Tryd.prog w=.ok (.value (.pointer (some ⟨w.heap.size,0,none⟩))) (w.alloc (.cells (ncs 0) 24)):=alloc_run _ ty pos after guard ρ w
theorem o_allocG:(execOp ρ ⟨dst,.alloc 26,ty,pos,after,guard⟩).run Tryd.prog w=.ok (.value (.pointer (some ⟨w.heap.size,0,none⟩))) (w.alloc (.cells (gcs 0 0 0 0) 26)):=by
 have h:(execOp ρ ⟨dst,.alloc 26,ty,pos,after,guard⟩).run Tryd.prog w=.ok (.value (.pointer (some ⟨w.heap.size,0,none⟩))) (w.alloc (.cells #[.int .u64 0,.int .u64 0,.int .u64 0,.int .u64 0,.int .u64 0,.int .u64 0,.int .u64 0,.int .u64 0,.int .u64 0,.int .u64 0,.int .u64 0,.int .u64 0,.int .u64 0,.int .u64 0,.int .u64 0,.int .u64 0] 26)):=by simp [execOp,go_sem]
 exact h
theorem o_allocE:(execOp ρ ⟨dst,.alloc 35,ty,pos,after,guard⟩).run Tryd.prog w=.ok (.value (.pointer (some ⟨w.heap.size,0,none⟩))) (w.alloc (.cells #[.int .i64 0] 35)):=by simp [execOp,go_sem]
theorem o_storeE {e:Int} {u:Value} (hx:ρ x=.pointer (some ⟨g,0,none⟩)) (hy:ρ y=.int .i64 e) (h:At w g 35 #[u]):(execOp ρ ⟨dst,.store 35 x y,ty,pos,after,guard⟩).run Tryd.prog w=.ok .skip (puts w g 0 [.int .i64 e]):=by
 have c0:w.cell? ⟨g,0,none⟩=some u:=h.cell 0
 have f0:w.frozen? ⟨g,0,none⟩=false:=h.frozen 0
 simp [execOp,hx,hy,go_sem,puts,c0,f0]
theorem o_len {a:Option Addr} {l cap:Nat} (hx:ρ x=.slice a l cap):(execOp ρ ⟨dst,.call ⟨.builtin .len,#[x],#[47]⟩,ty,pos,after,guard⟩).run Tryd.prog w=.ok (.value (.int .i64 (l:Nat))) w:=by
 simp [execOp,hx,go_sem]
/-- a number and an error,told from two blocks -/
theorem res_NE {fn:Func} {a:Act} {N:Nat} {L:List (Nat × Value)} {df:List Deferred} (F:Fr a N L df) {s t gs gt X:Nat} {e:Int} (hf:fn.results=#[.cell s 24,.cell t 35]) (h1:lk L s=some (.pointer (some ⟨gs,0,none⟩))) (h2:lk L t=some (.pointer (some ⟨gt,0,none⟩)))
  (A1:At w gs 24 (ncs X)) (A2:At w gt 35 #[.int .i64 e]):(results fn a.tmps).run Tryd.prog w=.ok (.tuple #[num X,.int .i64 e]) w:=by
 have e1:=F.get s _ h1
 have e2:=F.get t _ h2
 rw [Array.getD_eq_getD_getElem?] at e1 e2
 have c0:w.cell? ⟨gs,0,none⟩=some (.int .u64 (wd X 0:Nat)):=A1.cell 0
 have c1:w.cell? ⟨gs,1,none⟩=some (.int .u64 (wd X 1:Nat)):=A1.cell 1
 have c2:w.cell? ⟨gs,2,none⟩=some (.int .u64 (wd X 2:Nat)):=A1.cell 2
 have c3:w.cell? ⟨gs,3,none⟩=some (.int .u64 (wd X 3:Nat)):=A1.cell 3
 have d0:w.cell? ⟨gt,0,none⟩=some (.int .i64 e):=A2.cell 0
 simp [results,hf,go_sem,e1,e2,c0,c1,c2,c3,d0]
theorem o_slice2 {X Y:Nat} (hx:ρ x=num X) (hy:ρ y=num Y):(execOp ρ ⟨dst,.buildSlice 47 2 #[(0,x),(1,y)],ty,pos,after,guard⟩).run Tryd.prog w=.ok (.value (.slice (some ⟨w.heap.size,0,none⟩) 2 2)) (w.alloc (.cells (rows2 X Y) 24)):=by simp [execOp,hx,hy,go_sem]
theorem o_build0:(execOp ρ ⟨dst,.build 24 #[],ty,pos,after,guard⟩).run Tryd.prog w=.ok (.value (num 0)) w:=buildZ _ ty pos after guard ρ w
theorem o_loadN {X:Nat} (hx:ρ x=.pointer (some ⟨g,0,none⟩)) (h:At w g 24 (ncs X)):(execOp ρ ⟨dst,.load 24 x,ty,pos,after,guard⟩).run Tryd.prog w=.ok (.value (num X)) w:=load_run x _ ty pos after guard ρ w g _ _ _ _ hx h
theorem o_loadG {P Q G H:Nat} (hx:ρ x=.pointer (some ⟨g,0,none⟩)) (h:At w g 26 (gcs P Q G H)):(execOp ρ ⟨dst,.load 26 x,ty,pos,after,guard⟩).run Tryd.prog w=.ok (.value (grp P Q G H)) w:=loadG x _ ty pos after guard ρ w g _ _ _ _ _ _ _ _ _ _ _ _ _ _ _ _ hx h
theorem o_fieldG0 (hx:ρ x=.pointer (some ⟨g,0,none⟩)):(execOp ρ ⟨dst,.fieldAddr 26 x 0,ty,pos,after,guard⟩).run Tryd.prog w=.ok (.value (.pointer (some ⟨g,0,none⟩))) w:=fieldG0 x _ ty pos after guard ρ w g hx
theorem o_loadG0 {P Q G H:Nat} (hx:ρ x=.pointer (some ⟨g,0,none⟩)) (h:At w g 26 (gcs P Q G H)):(execOp ρ ⟨dst,.load 24 x,ty,pos,after,guard⟩).run Tryd.prog w=.ok (.value (num P)) w:=loadG0 x _ ty pos after guard ρ w g _ _ _ _ _ _ _ _ _ _ _ _ _ _ _ _ hx h
theorem o_fieldG1 (hx:ρ x=.pointer (some ⟨g,0,none⟩)):(execOp ρ ⟨dst,.fieldAddr 26 x 1,ty,pos,after,guard⟩).run Tryd.prog w=.ok (.value (.pointer (some ⟨g,4,none⟩))) w:=fieldG1 x _ ty pos after guard ρ w g hx
theorem o_loadG1 {P Q G H:Nat} (hx:ρ x=.pointer (some ⟨g,4,none⟩)) (h:At w g 26 (gcs P Q G H)):(execOp ρ ⟨dst,.load 24 x,ty,pos,after,guard⟩).run Tryd.prog w=.ok (.value (num Q)) w:=loadG1 x _ ty pos after guard ρ w g _ _ _ _ _ _ _ _ _ _ _ _ _ _ _ _ hx h
theorem o_fieldG2 (hx:ρ x=.pointer (some ⟨g,0,none⟩)):(execOp ρ ⟨dst,.fieldAddr 26 x 2,ty,pos,after,guard⟩).run Tryd.prog w=.ok (.value (.pointer (some ⟨g,8,none⟩))) w:=fieldG2 x _ ty pos after guard ρ w g hx
theorem o_loadG2 {P Q G H:Nat} (hx:ρ x=.pointer (some ⟨g,8,none⟩)) (h:At w g 26 (gcs P Q G H)):(execOp ρ ⟨dst,.load 24 x,ty,pos,after,guard⟩).run Tryd.prog w=.ok (.value (num G)) w:=loadG2 x _ ty pos after guard ρ w g _ _ _ _ _ _ _ _ _ _ _ _ _ _ _ _ hx h
theorem o_fieldG3 (hx:ρ x=.pointer (some ⟨g,0,none⟩)):(execOp ρ ⟨dst,.fieldAddr 26 x 3,ty,pos,after,guard⟩).run Tryd.prog w=.ok (.value (.pointer (some ⟨g,12,none⟩))) w:=fieldG3 x _ ty pos after guard ρ w g hx
theorem o_loadG3 {P Q G H:Nat} (hx:ρ x=.pointer (some ⟨g,12,none⟩)) (h:At w g 26 (gcs P Q G H)):(execOp ρ ⟨dst,.load 24 x,ty,pos,after,guard⟩).run Tryd.prog w=.ok (.value (num H)) w:=loadG3 x _ ty pos after guard ρ w g _ _ _ _ _ _ _ _ _ _ _ _ _ _ _ _ hx h
theorem o_storeN {X:Nat} {u0 u1 u2 u3:Value} (hx:ρ x=.pointer (some ⟨g,0,none⟩)) (hy:ρ y=num X) (h:At w g 24 #[u0,u1,u2,u3]):(execOp ρ ⟨dst,.store 24 x y,ty,pos,after,guard⟩).run Tryd.prog w=.ok .skip (puts w g 0 [.int .u64 (wd X 0:Nat),.int .u64 (wd X 1:Nat),.int .u64 (wd X 2:Nat),.int .u64 (wd X 3:Nat)]):=
 store_run x y _ ty pos after guard ρ w g _ _ _ _ _ _ _ _ hx hy h
theorem o_storeG {P Q G H:Nat} {P1 Q1 G1 H1:Nat} (hx:ρ x=.pointer (some ⟨g,0,none⟩)) (hy:ρ y=grp P Q G H) (h:At w g 26 (gcs P1 Q1 G1 H1)):(execOp ρ ⟨dst,.store 26 x y,ty,pos,after,guard⟩).run Tryd.prog w=.ok .skip (puts w g 0 [.int .u64 (wd P 0:Nat),.int .u64 (wd P 1:Nat),.int .u64 (wd P 2:Nat),.int .u64 (wd P 3:Nat),.int .u64 (wd Q 0:Nat),.int .u64 (wd Q 1:Nat),.int .u64 (wd Q 2:Nat),.int .u64 (wd Q 3:Nat),.int .u64 (wd G 0:Nat),.int .u64 (wd G 1:Nat),.int .u64 (wd G 2:Nat),.int .u64 (wd G 3:Nat),.int .u64 (wd H 0:Nat),.int .u64 (wd H 1:Nat),.int .u64 (wd H 2:Nat),.int .u64 (wd H 3:Nat)]):=by
 have c0:w.cell? ⟨g,0,none⟩=some (.int .u64 (wd P1 0:Nat)):=h.cell 0
 have f0:w.frozen? ⟨g,0,none⟩=false:=h.frozen 0
 have c1:w.cell? ⟨g,1,none⟩=some (.int .u64 (wd P1 1:Nat)):=h.cell 1
 have f1:w.frozen? ⟨g,1,none⟩=false:=h.frozen 1
 have c2:w.cell? ⟨g,2,none⟩=some (.int .u64 (wd P1 2:Nat)):=h.cell 2
 have f2:w.frozen? ⟨g,2,none⟩=false:=h.frozen 2
 have c3:w.cell? ⟨g,3,none⟩=some (.int .u64 (wd P1 3:Nat)):=h.cell 3
 have f3:w.frozen? ⟨g,3,none⟩=false:=h.frozen 3
 have c4:w.cell? ⟨g,4,none⟩=some (.int .u64 (wd Q1 0:Nat)):=h.cell 4
 have f4:w.frozen? ⟨g,4,none⟩=false:=h.frozen 4
 have c5:w.cell? ⟨g,5,none⟩=some (.int .u64 (wd Q1 1:Nat)):=h.cell 5
 have f5:w.frozen? ⟨g,5,none⟩=false:=h.frozen 5
 have c6:w.cell? ⟨g,6,none⟩=some (.int .u64 (wd Q1 2:Nat)):=h.cell 6
 have f6:w.frozen? ⟨g,6,none⟩=false:=h.frozen 6
 have c7:w.cell? ⟨g,7,none⟩=some (.int .u64 (wd Q1 3:Nat)):=h.cell 7
 have f7:w.frozen? ⟨g,7,none⟩=false:=h.frozen 7
 have c8:w.cell? ⟨g,8,none⟩=some (.int .u64 (wd G1 0:Nat)):=h.cell 8
 have f8:w.frozen? ⟨g,8,none⟩=false:=h.frozen 8
 have c9:w.cell? ⟨g,9,none⟩=some (.int .u64 (wd G1 1:Nat)):=h.cell 9
 have f9:w.frozen? ⟨g,9,none⟩=false:=h.frozen 9
 have c10:w.cell? ⟨g,10,none⟩=some (.int .u64 (wd G1 2:Nat)):=h.cell 10
 have f10:w.frozen? ⟨g,10,none⟩=false:=h.frozen 10
 have c11:w.cell? ⟨g,11,none⟩=some (.int .u64 (wd G1 3:Nat)):=h.cell 11
 have f11:w.frozen? ⟨g,11,none⟩=false:=h.frozen 11
 have c12:w.cell? ⟨g,12,none⟩=some (.int .u64 (wd H1 0:Nat)):=h.cell 12
 have f12:w.frozen? ⟨g,12,none⟩=false:=h.frozen 12
 have c13:w.cell? ⟨g,13,none⟩=some (.int .u64 (wd H1 1:Nat)):=h.cell 13
 have f13:w.frozen? ⟨g,13,none⟩=false:=h.frozen 13
 have c14:w.cell? ⟨g,14,none⟩=some (.int .u64 (wd H1 2:Nat)):=h.cell 14
 have f14:w.frozen? ⟨g,14,none⟩=false:=h.frozen 14
 have c15:w.cell? ⟨g,15,none⟩=some (.int .u64 (wd H1 3:Nat)):=h.cell 15
 have f15:w.frozen? ⟨g,15,none⟩=false:=h.frozen 15
 simp [execOp,hx,hy,go_sem,puts,c0,f0,c1,f1,c2,f2,c3,f3,c4,f4,c5,f5,c6,f6,c7,f7,c8,f8,c9,f9,c10,f10,c11,f11,c12,f12,c13,f13,c14,f14,c15,f15]
theorem o_eqlN {X Y:Nat} {b:Bool} (hX:X<2^256) (hY:Y<2^256) (hb:decide (X=Y)=b) (hx:ρ x=num X) (hy:ρ y=num Y):(execOp ρ ⟨dst,.binOp .eql 24 x y 24,ty,pos,after,guard⟩).run Tryd.prog w=.ok (.value (.bool b)) w:=
 eql_run b x y _ ty pos after guard _ _ _ _ _ _ _ _ (fun w=>by rw [← hb];exact eqN X Y hX hY w) ρ w hx hy
theorem o_neqN {X Y:Nat} {b:Bool} (hX:X<2^256) (hY:Y<2^256) (hb:decide (X=Y)=b) (hx:ρ x=num X) (hy:ρ y=num Y):(execOp ρ ⟨dst,.binOp .neq 24 x y 24,ty,pos,after,guard⟩).run Tryd.prog w=.ok (.value (.bool (!b))) w:=
 neq_run b x y dst ty pos after guard _ _ _ _ _ _ _ _ (fun w=>by rw [← hb];exact eqN X Y hX hY w) ρ w hx hy
theorem o_eqlS {X:Nat} (hx:ρ x=num X) (hy:ρ y=num X):(execOp ρ ⟨dst,.binOp .eql 24 x y 24,ty,pos,after,guard⟩).run Tryd.prog w=.ok (.value (.bool true)) w:=
 eql_run true x y _ ty pos after guard _ _ _ _ _ _ _ _ (eqY X) ρ w hx hy
end
end Go.Proofs.YtlphnfajhpkleaaDoor
