/-
 What a Book of byte lists holds in memory,in words of this proof's own. Nothing here speaks of the program's code.
-/
import Derived.Laws.AppendOwnNone
import Derived.ArgAppend
import Derived.Laws.Rows
import Derived.Deep.MidRow
import Derived.Deep.RegionHeld3
import Derived.Deep.DrawnRows
import Derived.Test.YtlphnfajhpkleaaDoorMByPutL
namespace Go.Proofs.YtlphnfajhpkleaaDoor.By
set_option maxRecDepth 100000
open Go.RowKit

/-- block g is just the cells cs,of type t,none frozen -/
def At (w:World) (g:Nat) (t:TypeId) (cs:Array Value):Prop:=w.heap[g]? = some (.cells cs t (0,0))

section
variable {w w':World} {g:Nat} {t:TypeId} {cs:Array Value}
theorem At.lt (h:At w g t cs):g<w.heap.size:=(Array.getElem?_eq_some_iff.1 h).1
theorem At.cell (h:At w g t cs) (i:Nat):w.cell? ⟨g,i,none⟩=cs[i]?:=cell_of_row w g i cs t (0,0) h
theorem At.frozen (h:At w g t cs) (i:Nat):w.frozen? ⟨g,i,none⟩=false:=by
 unfold At at h
 simp [World.frozen?,h]
theorem At.new (w:World) (t:TypeId) (cs:Array Value):At (w.alloc (.cells cs t)) w.heap.size t cs:=heap_alloc_new w _
theorem At.alloc (h:At w g t cs) (o:Obj):At (w.alloc o) g t cs:=(Below.heap_alloc w o g h.lt).trans h
theorem At.drew (h:At w g t cs):At w.drew g t cs:=h
theorem At.drewN (h:At w g t cs) (k:Nat):At (w.drewN k) g t cs:=h
theorem At.set (h:At w g t cs) (i:Nat) (u:Value):At (w.setCell ⟨g,i,none⟩ u) g t (cs.setIfInBounds i u):=by
 unfold At at h ⊢
 simp [World.setCell,Array.getElem?_modify,h]
theorem At.far (h:At w g t cs) {p:Addr} (hp:p.block≠g) (u:Value):At (w.setCell p u) g t cs:=by
 unfold At at h ⊢
 simp [World.setCell,Array.getElem?_modify,hp,h]
theorem At.grown {row:Option Nat} (h:At w g t cs) (hg:w.grownBy w' row) (hne:some g≠row):At w' g t cs:=(hg.block g h.lt hne).trans h
end

theorem grown_tr {a b c:World} {row:Option Nat} (h:a.grownBy b row) (k:b.grownBy c row):a.grownBy c row:=
 ⟨k.os.trans h.os,k.tape.trans h.tape,k.output.trans h.output,Nat.le_trans h.size k.size,fun i hi hn=>(k.block i (Nat.lt_of_lt_of_le hi h.size) hn).trans (h.block i hi hn)⟩
theorem grown_set {a b:World} {g:Nat} (h:a.grownBy b (some g)) (i:Nat) (u:Value):a.grownBy (b.setCell ⟨g,i,none⟩ u) (some g):=
 ⟨h.os,h.tape,h.output,by simpa [World.setCell] using h.size,fun k hk hn=>by
  have hne:g≠k:=fun e=>hn (by rw [e])
  refine Eq.trans ?_ (h.block k hk hn)
  simp [World.setCell,Array.getElem?_modify,hne]⟩

/-- an owned row of bytes,as a block -/
theorem own_at {w:World} {base g n c:Nat} {e:TypeId} {xs:List Value} (h:w.ownsRow base e 1 (.slice (some ⟨g,0,none⟩) n c) n xs) :
  ∃ cur,At w g e cur∧base≤g∧n≤c∧c≤maxLen∧cur.size=c∧cur.toList.take n=xs:=by
 rcases h.2 with ⟨hv,_⟩ | ⟨g',cap,cur,hv,hb,hg,hn,hc,hs,ht⟩
 ·cases hv
 ·injection hv with h1 _ h3
  injection h1 with h1
  injection h1 with h1
  subst h1 h3
  exact ⟨cur,hg,hb,hn,hc,by simpa using hs,by simpa using ht⟩
theorem at_own {w:World} {base g n c:Nat} {e:TypeId} {cur:Array Value} (h:At w g e cur) (hb:base≤g) (hn:n≤c) (hc:c≤maxLen) (hs:cur.size=c) :
  w.ownsRow base e 1 (.slice (some ⟨g,0,none⟩) n c) n (cur.toList.take n):=
 ⟨by rw [List.length_take,Array.length_toList];omega,.inr ⟨g,c,cur,rfl,hb,h,hn,hc,by simpa using hs,by simp⟩⟩
theorem own_cases {w:World} {base n:Nat} {e:TypeId} {v:Value} {xs:List Value} (h:w.ownsRow base e 1 v n xs):(v=.slice none 0 0∧n=0∧xs=[])∨∃ g c,v=.slice (some ⟨g,0,none⟩) n c:=by
 rcases h.2 with ⟨rfl,rfl⟩ | ⟨g,cap,cur,rfl,_⟩
 ·exact .inl ⟨rfl,rfl,List.eq_nil_of_length_eq_zero (by simpa using h.1)⟩
 ·exact .inr ⟨g,cap,rfl⟩

theorem bel_tr {a b c:World} (h:Below a.heap.size a b) (k:Below b.heap.size b c):Below a.heap.size a c:=h.trans (k.mono h.size)
theorem cell_on {W w:World} {a:Addr} {v:Value} (hb:Below W.heap.size W w) (h:W.cell? a=some v):w.cell? a=some v:=(hb.cell (World.block_lt_of_cell? W a h)).trans h
theorem gr_alloc {a b:World} (h:Below a.heap.size a b) (o:Obj):Below a.heap.size a (b.alloc o):=h.alloc h.size o
theorem at_of {w w':World} (h:w=w') {g:Nat} {t:TypeId} {cs:Array Value} (p:At w g t cs):At w' g t cs:=h ▸ p
theorem gr_of {n:Nat} {u w w':World} (h:w=w') (p:Below n u w):Below n u w':=h ▸ p
theorem At.at_ (w:World) (g:Nat) (t:TypeId) (cs:Array Value) (h:g=w.heap.size):At (w.alloc (.cells cs t)) g t cs:=by rw [h];exact At.new w t cs
theorem At.on {w w':World} {g:Nat} {t:TypeId} {cs:Array Value} (h:At w g t cs) (hb:Below w.heap.size w w'):At w' g t cs:=(hb.block g h.lt).trans h
theorem At.row {w:World} {g:Nat} {t:TypeId} {cs:Array Value} (h:At w g t cs) (ds:Array Value):At (w.setRow g ds) g t ds:=setRow_heap w g _ _ t _ h
theorem At.rowFar {w:World} {g:Nat} {t:TypeId} {cs:Array Value} (h:At w g t cs) {g':Nat} (hne:g≠g') (ds:Array Value):At (w.setRow g' ds) g t cs:=(setRow_other w g' g ds hne).trans h
theorem At.range {w:World} {g o:Nat} {t:TypeId} {cs:Array Value} (h:At w g t cs) (xs:List Value) (hx:∀ j v,xs[j]? = some v→cs[o+j]? = some v):w.rangeAt g o xs:=fun j v hj=>by rw [h.cell];exact hx j v hj
theorem At.all {w:World} {g:Nat} {t:TypeId} {xs:List Value} (h:At w g t xs.toArray):w.rangeAt g 0 xs:=h.range xs fun j v hj=>by simpa using hj
theorem At.there {w:World} {g o n:Nat} {t:TypeId} {cs:Array Value} (h:At w g t cs) (hn:o+n≤cs.size):w.there g o n:=fun j hj=>⟨by rw [h.cell];simp;omega,h.frozen _⟩
/-- as many cells from o on are laid anew -/
def put (cs:Array Value) (o:Nat):List Value→Array Value
 | []=>cs
 | v::vs=>put (cs.setIfInBounds o v) (o+1) vs
end Go.Proofs.YtlphnfajhpkleaaDoor.By

/-
 A region that draws its order,gone through operation by operation,not way by way: what each operation leaves is stable under all that the others do. Nothing here speaks of the program.
-/
namespace Go.Proofs.YtlphnfajhpkleaaDoor.By
set_option maxRecDepth 100000
open Go.RowKit
set_option linter.unusedSimpArgs false
set_option linter.unusedVariables false

/-- temporaries laid over a frame -/
def over (a:Act):List Nat→List Value→Act
 | d::ds,v::vs=>over (a.put (some d) v) ds vs
 | _,_=>a
/-- those that have come up -/
def mark (l:Array Bool):List Nat→List Bool→Array Bool
 | i::is,b::bs=>mark (if b then l.setIfInBounds i true else l) is bs
 | _,_=>l
/-- what an operation leaves: of a value and a world,and it stays so while the world grows -/
structure Kind where
 new:Bool
 p:Value→World→Prop
 st:∀ v w w',p v w→Below w.heap.size w w'→p v w'
/-- just this value -/
def Kind.val (u:Value):Kind:=⟨false,fun v _=>v=u,fun _ _ _ h _=>h⟩
/-- a block of its own -/
def Kind.cell (base:Nat) (t:TypeId) (cs:Array Value):Kind:=
 ⟨true,fun v w=>∃ g,v=.pointer (some ⟨g,0,none⟩)∧base≤g∧At w g t cs,fun _ _ _ ⟨g,h1,h2,h3⟩ hb=>⟨g,h1,h2,h3.on hb⟩⟩
/-- an operation of a region: its number,its temporary,which ones must have come up ahead of it,what it leaves -/
structure Core where
 i:Nat
 d:Nat
 pre:List Nat
 kind:Kind
 pure:Bool

/-- one operation more: it has come up only if those ahead of it have -/
def grow (acc:List (List Bool)) (pre:List Nat):List (List Bool):=
 acc.flatMap fun bs=>if pre.all (fun j=>bs[j]? == some true)=true then [bs++[false],bs++[true]] else [bs++[false]]
def Shuts (pres:List (List Nat)) (bs:List Bool):Prop:=∀ k,bs[k]? = some true→∀ j∈pres.getD k [],(bs.take k)[j]? = some true
theorem mem_grow (all:List (List Nat)):∀ (pres old:List (List Nat)) (acc:List (List Bool)) (pfx sfx:List Bool),all=old++pres→pfx.length=old.length→sfx.length=pres.length→pfx∈acc →
  Shuts all (pfx++sfx)→pfx++sfx∈pres.foldl grow acc
 | [],old,acc,pfx,sfx,_,_,hs,hm,_=>by
  have:sfx=[]:=List.length_eq_zero_iff.1 (by simpa using hs)
  subst this;simpa using hm
 | pre::pres,old,acc,pfx,[],_,_,hs,_,_=>by simp at hs
 | pre::pres,old,acc,pfx,b::sfx,ha,ho,hs,hm,hc=>by
  have e:pfx++b::sfx=(pfx++[b])++sfx:=by simp
  rw [e,List.foldl_cons]
  refine mem_grow all pres (old++[pre]) _ (pfx++[b]) sfx (by rw [ha];simp) (by simp [ho]) (by simpa using hs) ?_ (by rw [← e];exact hc)
  refine List.mem_flatMap.2 ⟨pfx,hm,?_⟩
  cases b with
  | false=>split <;> simp
  | true=>
   rw [if_pos]
   ·simp
   ·rw [List.all_eq_true]
    intro j hj
    have:=hc pfx.length (by simp) j (by rw [ha];simp [List.getD,ho];exact hj)
    simpa using this
theorem mem_shuts (pres:List (List Nat)) (bs:List Bool) (hl:bs.length=pres.length) (h:Shuts pres bs):bs∈pres.foldl grow [[]]:=by
 have:=mem_grow pres pres [] [[]] [] bs (by simp) rfl hl (by simp) (by simpa using h)
 simpa using this
theorem Shuts.step {pres:List (List Nat)} {bs:List Bool} (h:Shuts pres bs) {k:Nat} (hk:∀ j∈pres.getD k [],j<k∧bs[j]? = some true):Shuts pres (bs.set k true):=by
 intro i hi j hj
 have mono:∀ n:Nat,(bs.take i)[n]? = some true→((bs.set k true).take i)[n]? = some true:=fun n hn=>by
  have hni:n<i:=by
   have:=(List.getElem?_eq_some_iff.1 hn).1
   simp at this;omega
  rw [List.getElem?_take,if_pos hni] at hn ⊢
  by_cases e:k=n
  ·subst e
   have:k<bs.length:=(List.getElem?_eq_some_iff.1 hn).1
   rw [List.getElem?_set_self this]
  ·rw [List.getElem?_set_ne e];exact hn
 by_cases e:i=k
 ·subst e
  obtain ⟨h1,h2⟩:=hk j hj
  refine mono j ?_
  rw [List.getElem?_take,if_pos h1];exact h2
 ·rw [List.getElem?_set_ne (fun h=>e h.symm)] at hi
  exact mono j (h i hi j hj)
def okAt (md:Region.Mode) (ops:Array Oper) (l0:Array Bool) (idx:List Nat) (pres:List (List Nat)) (pures:List Bool) (bs:List Bool):Bool:=
 bs.all (fun b=>b) || ((List.range idx.length).any fun k=>pures[k]? == some true && bs[k]? == some false && ((pres.getD k []).all fun j=>decide (j<k) && bs[j]? == some true) &&
  (Region.ready md ops (mark l0 idx bs)).contains (idx.getD k 0) && Region.free md ops (mark l0 idx bs) (idx.getD k 0)) || (!(Region.ready md ops (mark l0 idx bs)).isEmpty && (Region.ready md ops (mark l0 idx bs)).all fun i=>
  (List.range idx.length).any fun k=>idx[k]? == some i && bs[k]? == some false && (pres.getD k []).all fun j=>decide (j<k) && bs[j]? == some true)
def okAll (md:Region.Mode) (ops:Array Oper) (l0:Array Bool) (idx:List Nat) (pres:List (List Nat)) (pures:List Bool):Bool:=
 (pres.foldl grow [[]]).all (okAt md ops l0 idx pres pures)

theorem mark_comm (l:Array Bool) (i j:Nat):(l.setIfInBounds i true).setIfInBounds j true=(l.setIfInBounds j true).setIfInBounds i true:=by
 by_cases h:i=j
 ·rw [h]
 ·exact Array.setIfInBounds_comm _ _ h
theorem mark_in:∀ (is:List Nat) (bs:List Bool) (l:Array Bool) (i:Nat),(mark l is bs).setIfInBounds i true=mark (l.setIfInBounds i true) is bs
 | [],_,_,_=>by simp [mark]
 | _::_,[],_,_=>by simp [mark]
 | j::is,b::bs,l,i=>by
  simp only [mark]
  rw [mark_in is bs]
  cases b
  ·simp
  ·simp only [if_true];rw [mark_comm]
theorem mark_set:∀ (is:List Nat) (bs:List Bool) (l:Array Bool) (k i:Nat),is[k]? = some i→k<bs.length→(mark l is bs).setIfInBounds i true=mark l is (bs.set k true)
 | [],_,_,_,_,h,_=>by simp at h
 | _::_,[],_,_,_,_,h=>by simp at h
 | j::is,b::bs,l,0,i,h,_=>by
  simp only [List.getElem?_cons_zero,Option.some.injEq] at h
  subst h
  simp only [mark,List.set_cons_zero,if_true]
  rw [mark_in]
  cases b <;> simp
 | j::is,b::bs,l,k+1,i,h,hk=>by
  simp only [mark,List.set_cons_succ]
  exact mark_set is bs _ k i (by simpa using h) (by simpa using hk)
theorem put_put (a:Act) (d:Nat) (u v:Value):(a.put (some d) u).put (some d) v=a.put (some d) v:=by
 simp [Act.put]
theorem put_self (a:Act) (d:Nat):a.put (some d) (a.tmps.getD d undef)=a:=by
 simp only [Act.put]
 congr 1
 apply Array.ext
 ·simp
 ·intro k h1 h2
  rw [Array.getElem_setIfInBounds h2]
  split
  ·rename_i h;subst h;simp [Array.getD,h2]
  ·rfl
theorem put_far (a:Act) (d e:Nat) (u v:Value) (h:d≠e):(a.put (some d) u).put (some e) v=(a.put (some e) v).put (some d) u:=by
 simp only [Act.put];rw [Array.setIfInBounds_comm _ _ h]
theorem over_in:∀ (ds:List Nat) (vs:List Value) (a:Act) (d:Nat) (v:Value),d ∉ ds→(over a ds vs).put (some d) v=over (a.put (some d) v) ds vs
 | [],_,_,_,_,_=>by simp [over]
 | _::_,[],_,_,_,_=>by simp [over]
 | e::ds,u::vs,a,d,v,h=>by
  simp only [over]
  rw [over_in ds vs _ _ _ (fun h'=>h (List.mem_cons_of_mem _ h')),put_far _ _ _ _ _ (fun h'=>h (by rw [h'];simp))]
theorem over_set:∀ (ds:List Nat) (vs:List Value) (a:Act) (k d:Nat) (v:Value),ds.Nodup→ds[k]? = some d→k<vs.length→(over a ds vs).put (some d) v=over a ds (vs.set k v)
 | [],_,_,_,_,_,_,h,_=>by simp at h
 | _::_,[],_,_,_,_,_,_,h=>by simp at h
 | e::ds,u::vs,a,0,d,v,hn,h,_=>by
  simp only [List.getElem?_cons_zero,Option.some.injEq] at h
  subst h
  simp only [over,List.set_cons_zero]
  rw [over_in _ _ _ _ _ (List.nodup_cons.1 hn).1,put_put]
 | e::ds,u::vs,a,k+1,d,v,hn,h,hk=>by
  simp only [over,List.set_cons_succ]
  exact over_set ds vs _ k d v (List.nodup_cons.1 hn).2 (by simpa using h) (by simpa using hk)

section
variable {P:Program} {ops:Array Oper} {Q:Exit→Act→World→Prop} {md:Region.Mode} {S:World→Prop}

/-- as many values as temporaries,each of which lies in the frame,none twice -/
structure Fit (a:Act) (cores:List Core) (vs:List Value):Prop where
 len:vs.length=cores.length
 nd:(cores.map (·.d)).Nodup
 sz:∀ d∈cores.map (·.d),d<a.tmps.size

/-- one operation,in whatever state it may come up -/
def StepOK (P:Program) (ops:Array Oper) (Q:Exit→Act→World→Prop) (a:Act) (W:World) (cores:List Core) (c:Core):Prop:=
 ∀ (vs:List Value) (w:World),Fit a cores vs→Below W.heap.size W w→(∀ j∈c.pre,∀ d:Core,cores[j]? = some d→∃ v,vs[j]? = some v∧d.kind.p v w) →
  ∀ o,ops[c.i]? = some o→∀ K:Act→World→Prop,
   Shut (∀ v w',Below w.heap.size w w'→c.kind.p v w'→(c.kind.new=true→v=.pointer (some ⟨w.heap.size,0,none⟩)∧w.heap.size<w'.heap.size)→K ((over a (cores.map (·.d)) vs).put (some c.d) v) w') →
   if Region.wanted o (yielded ops (over a (cores.map (·.d)) vs).tmps)=true then Oper.wp P o (over a (cores.map (·.d)) vs) w K Q else K ((over a (cores.map (·.d)) vs).put o.dst undef) w

/-- one operation that looks at no memory but what S tells -/
def PureOK (P:Program) (ops:Array Oper) (S:World→Prop) (a:Act) (W:World) (cores:List Core) (c:Core):Prop:=
 c.pure=true→c.kind.new=false∧∀ (vs:List Value) (w:World),Fit a cores vs→Below W.heap.size W w→(∀ j∈c.pre,∀ d:Core,cores[j]? = some d→∃ v,vs[j]? = some v∧d.kind.p v w) →
  ∀ o,ops[c.i]? = some o→∃ v,c.kind.p v w∧YieldsIf P ops S o v (over a (cores.map (·.d)) vs)

/-- all that came up so far -/
structure Came (cores:List Core) (W:World) (bs:List Bool) (vs:List Value) (w:World):Prop where
 lb:bs.length=cores.length
 lv:vs.length=cores.length
 bel:Below W.heap.size W w
 ok:∀ (k:Nat) (c:Core),cores[k]? = some c→bs[k]? = some true→∃ v,vs[k]? = some v∧c.kind.p v w
 lt:∀ (k:Nat) (c:Core),cores[k]? = some c→bs[k]? = some true→c.kind.new=true→∃ g,vs[k]? = some (.pointer (some ⟨g,0,none⟩))∧g<w.heap.size
 far:∀ (k j:Nat) (c d:Core),cores[k]? = some c→cores[j]? = some d→c.kind.new=true→d.kind.new=true→k≠j→bs[k]? = some true→bs[j]? = some true→vs[k]?≠vs[j]?

theorem okv {cores:List Core} {W:World} {bs:List Bool} {vs:List Value} {w:World} (h:Came cores W bs vs w) (k:Nat) {c:Core} {x u:Value} (h1:cores[k]? = some c:=by rfl) (h2:bs[k]? = some true:=by rfl) (h3:vs[k]? = some x:=by rfl) (h4:c.kind=Kind.val u:=by rfl):x=u:=by
 obtain ⟨y,hy,hp⟩:=h.ok k c h1 h2
 rw [h4] at hp
 rw [h3] at hy
 exact (Option.some.inj hy).trans hp
theorem set_true (bs:List Bool) (k j:Nat) (h:(bs.set k true)[j]? = some true):j=k∨bs[j]? = some true:=by
 by_cases e:j=k
 ·exact Or.inl e
 ·right;rwa [List.getElem?_set_ne (fun h=>e h.symm)] at h
theorem Came.step {cores:List Core} {W:World} {bs:List Bool} {vs:List Value} {w w':World} (h:Came cores W bs vs w) {k:Nat} {c:Core} (hc:cores[k]? = some c) {v:Value}
  (hb:Below w.heap.size w w') (hp:c.kind.p v w') (hn:c.kind.new=true→v=.pointer (some ⟨w.heap.size,0,none⟩)∧w.heap.size<w'.heap.size):Came cores W (bs.set k true) (vs.set k v) w':=by
 have hk:k<cores.length:=(List.getElem?_eq_some_iff.1 hc).1
 have hkv:k<vs.length:=by rw [h.lv];exact hk
 have at_k:(vs.set k v)[k]? = some v:=by rw [List.getElem?_set_self hkv]
 refine ⟨by rw [List.length_set,h.lb],by rw [List.length_set,h.lv],bel_tr h.bel hb,fun j d hd hj=>?_,fun j d hd hj hnew=>?_,fun i j e d he hd hne hnd hij hi hj=>?_⟩
 ·by_cases e:j=k
  ·subst e;rw [hc] at hd;cases hd;exact ⟨v,at_k,hp⟩
  ·obtain ⟨u,hu,hpu⟩:=h.ok j d hd ((set_true bs k j hj).resolve_left e)
   exact ⟨u,by rw [List.getElem?_set_ne (fun h=>e h.symm)];exact hu,d.kind.st _ _ _ hpu hb⟩
 ·by_cases e:j=k
  ·subst e;rw [hc] at hd;cases hd;exact ⟨_,by rw [at_k,(hn hnew).1],(hn hnew).2⟩
  ·obtain ⟨g,hg,hl⟩:=h.lt j d hd ((set_true bs k j hj).resolve_left e) hnew
   exact ⟨g,by rw [List.getElem?_set_ne (fun h=>e h.symm)];exact hg,Nat.lt_of_lt_of_le hl hb.size⟩
 ·have hi':=set_true bs k i hi
  have hj':=set_true bs k j hj
  by_cases e1:i=k
  ·subst e1
   have e2:j≠i:=fun h=>hij h.symm
   obtain ⟨g,hg,hl⟩:=h.lt j d hd (hj'.resolve_left e2) hnd
   rw [hc] at he;cases he
   rw [at_k,List.getElem?_set_ne (fun h=>e2 h.symm),hg,(hn hne).1]
   intro h;injection h with h;injection h with h;injection h with h;injection h with h;omega
  ·by_cases e2:j=k
   ·subst e2
    obtain ⟨g,hg,hl⟩:=h.lt i e he (hi'.resolve_left e1) hne
    rw [hc] at hd;cases hd
    rw [at_k,List.getElem?_set_ne (fun h=>e1 h.symm),hg,(hn hnd).1]
    intro h;injection h with h;injection h with h;injection h with h;injection h with h;omega
   ·rw [List.getElem?_set_ne (fun h=>e1 h.symm),List.getElem?_set_ne (fun h=>e2 h.symm)]
    exact h.far i j e d he hd hne hnd hij (hi'.resolve_left e1) (hj'.resolve_left e2)

/-- how many have not come up -/
def left (bs:List Bool):Nat:=bs.countP (! ·)
theorem left_set:∀ (bs:List Bool) (k:Nat),bs[k]? = some false→left bs=left (bs.set k true)+1
 | [],_,h=>by simp at h
 | b::bs,0,h=>by simp at h;subst h;simp [left]
 | b::bs,k+1,h=>by
  have:=left_set bs k (by simpa using h)
  simp only [left,List.set_cons_succ,List.countP_cons] at *;omega
theorem left_none:∀ (bs:List Bool),bs.all (fun b=>b)=true→left bs=0∧bs=List.replicate bs.length true
 | [],_=>by simp [left]
 | b::bs,h=>by
  simp only [List.all_cons,Bool.and_eq_true] at h
  obtain ⟨h1,h2⟩:=left_none bs h.2
  simp only [left,List.countP_cons,List.length_cons,List.replicate_succ] at *
  refine ⟨by rw [h1,h.1];rfl,by rw [h.1];congr⟩

theorem wpAnyH_set (cores:List Core) (l0:Array Bool) (a:Act) (W:World) (fuel:Nat)
  (hsz:(cores.map (·.d)).all (fun d=>Nat.ble (d+1) a.tmps.size)=true) (hok:okAll md ops l0 (cores.map (·.i)) (cores.map (·.pre)) (cores.map (·.pure))=true) (hnd:(cores.map (·.d)).Nodup)
  (hops:∀ c∈cores,∃ o,ops[c.i]? = some o∧o.dst=some c.d) (hS:∀ w,Below W.heap.size W w→S w)
  (hsel:Region.noSelect ops=true) (hQ:∀ c a w d v,Q (.panic c) (a.put d v) w→Q (.panic c) a w)
  (hpure:∀ c∈cores,PureOK P ops S a W cores c) (hstep:∀ c∈cores,c.pure=false→StepOK P ops Q a W cores c)
  (hend:∀ vs w,Came cores W (List.replicate cores.length true) vs w→wpAnyH P md ops Q S fuel (mark l0 (cores.map (·.i)) (List.replicate cores.length true)) (over a (cores.map (·.d)) vs) w) :
  ∀ (n:Nat) (bs:List Bool) (vs:List Value) (w:World),left bs=n→Shuts (cores.map (·.pre)) bs→Came cores W bs vs w→wpAnyH P md ops Q S (fuel+n) (mark l0 (cores.map (·.i)) bs) (over a (cores.map (·.d)) vs) w:=by
 have hfit:∀ vs:List Value,vs.length=cores.length→Fit a cores vs:=fun vs h=>⟨h,hnd,fun d hd=>Nat.le_of_ble_eq_true (List.all_eq_true.1 hsz d hd)⟩
 intro n
 induction n with
 | zero=>
  intro bs vs w hl hsh hc
  have h1:=List.all_eq_true.1 hok bs (mem_shuts _ _ (by rw [hc.lb,List.length_map]) hsh)
  have hall:bs.all (fun b=>b)=true:=by
   rw [List.all_eq_true]
   intro b hb
   cases b
   ·obtain ⟨k,hk,he⟩:=List.getElem_of_mem hb
    have:=left_set bs k (by rw [List.getElem?_eq_getElem hk,he]);omega
   ·rfl
  have h2:=(left_none bs hall).2
  rw [hc.lb] at h2
  subst h2
  exact hend vs w hc
 | succ n ih=>
  intro bs vs w hl hsh hc
  have h1:=List.all_eq_true.1 hok bs (mem_shuts _ _ (by rw [hc.lb,List.length_map]) hsh)
  unfold okAt at h1
  rcases Bool.or_eq_true_iff.1 h1 with h1 | h1
  rcases Bool.or_eq_true_iff.1 h1 with h1 | h1
  ·have:=(left_none bs h1).1;omega
  ·obtain ⟨k,hk,h4⟩:=List.any_eq_true.1 h1
   simp only [Bool.and_eq_true,beq_iff_eq] at h4
   obtain ⟨⟨⟨⟨h5,h6⟩,h7⟩,h8⟩,h9⟩:=h4
   rw [List.getElem?_map] at h5
   obtain ⟨c,hck,hcp⟩:=Option.map_eq_some_iff.1 h5
   have hmem:c∈cores:=List.mem_of_getElem? hck
   obtain ⟨o,ho,hod⟩:=hops c hmem
   have hkb:k<bs.length:=(List.getElem?_eq_some_iff.1 h6).1
   have hdk:(cores.map (·.d))[k]? = some c.d:=by rw [List.getElem?_map,hck];rfl
   have hik:(cores.map (·.i)).getD k 0=c.i:=by simp [List.getD,hck]
   rw [hik] at h8 h9
   obtain ⟨hnew,hp⟩:=hpure c hmem hcp
   obtain ⟨v,hv,hy⟩:=hp vs w (hfit vs hc.lv) hc.bel (fun j hj d hd=>hc.ok j d hd (by
    have e8:c.pre=(cores.map (·.pre)).getD k []:=by simp [List.getD,hck]
    have h9:=List.all_eq_true.1 h7 j (by rw [← e8];exact hj)
    simp only [Bool.and_eq_true,decide_eq_true_eq,beq_iff_eq] at h9
    exact h9.2)) o ho
   refine wpAnyH_take ho hsel h9 h8 (fun c a w h=>hQ c a w _ _ h) hy (hS _ hc.bel) ?_
   rw [hod,over_set _ _ _ k _ _ hnd hdk (by rw [hc.lv];exact (List.getElem?_eq_some_iff.1 hck).1),mark_set _ _ _ k _ (by rw [List.getElem?_map,hck];rfl) hkb]
   exact ih _ _ _ (by have:=left_set bs k h6;omega) (hsh.step (fun j hj=>by have h9:=List.all_eq_true.1 h7 j hj;simp only [Bool.and_eq_true,decide_eq_true_eq,beq_iff_eq] at h9;exact h9)) (hc.step hck (Below.refl _ _) hv (fun h=>by rw [hnew] at h;cases h))
  rw [Bool.and_eq_true] at h1
  obtain ⟨h1,h2⟩:=h1
  refine wpAnyH_all rfl (fun h=>by rw [h] at h1;cases h1) ?_
  intro i hi
  have h3:=List.all_eq_true.1 h2 i hi
  obtain ⟨k,hk,h4⟩:=List.any_eq_true.1 h3
  simp only [Bool.and_eq_true,beq_iff_eq] at h4
  obtain ⟨⟨h5,h6⟩,h7⟩:=h4
  rw [List.getElem?_map] at h5
  obtain ⟨c,hck,hci⟩:=Option.map_eq_some_iff.1 h5
  have hmem:c∈cores:=List.mem_of_getElem? hck
  obtain ⟨o,ho,hod⟩:=hops c hmem
  have hkb:k<bs.length:=(List.getElem?_eq_some_iff.1 h6).1
  have hdk:(cores.map (·.d))[k]? = some c.d:=by rw [List.getElem?_map,hck];rfl
  rw [← hci]
  cases hcp:c.pure with
  | true=>
   obtain ⟨hnew,hp⟩:=hpure c hmem hcp
   obtain ⟨v,hv,hy⟩:=hp vs w (hfit vs hc.lv) hc.bel (fun j hj d hd=>hc.ok j d hd (by
    have e8:c.pre=(cores.map (·.pre)).getD k []:=by simp [List.getD,hck]
    have h9:=List.all_eq_true.1 h7 j (by rw [← e8];exact hj)
    simp only [Bool.and_eq_true,decide_eq_true_eq,beq_iff_eq] at h9
    exact h9.2)) o ho
   refine hy.wpOp ho (hS _ hc.bel) ⟨hS _ hc.bel,?_⟩
   rw [hod,over_set _ _ _ k _ _ hnd hdk (by rw [hc.lv];exact (List.getElem?_eq_some_iff.1 hck).1),mark_set _ _ _ k _ (by rw [List.getElem?_map,hck];rfl) hkb]
   exact ih _ _ _ (by have:=left_set bs k h6;omega) (hsh.step (fun j hj=>by have h9:=List.all_eq_true.1 h7 j hj;simp only [Bool.and_eq_true,decide_eq_true_eq,beq_iff_eq] at h9;exact h9)) (hc.step hck (Below.refl _ _) hv (fun h=>by rw [hnew] at h;cases h))
  | false=>
  refine wpOp_step ho fun K' hK=>hstep c hmem hcp vs w (hfit vs hc.lv) hc.bel ?_ o ho K' ?_
  ·intro j hj d hd
   have h8:c.pre=(cores.map (·.pre)).getD k []:=by simp [List.getD,hck]
   have h9:=List.all_eq_true.1 h7 j (by rw [← h8];exact hj)
   simp only [Bool.and_eq_true,decide_eq_true_eq,beq_iff_eq] at h9
   exact hc.ok j d hd h9.2
  ·intro v w' hb hp hn
   refine hK _ _ ⟨hS _ (bel_tr hc.bel hb),?_⟩
   rw [over_set _ _ _ k _ _ hnd hdk (by rw [hc.lv];exact (List.getElem?_eq_some_iff.1 hck).1),mark_set _ _ _ k _ (by rw [List.getElem?_map,hck];rfl) hkb]
   exact ih _ _ _ (by have:=left_set bs k h6;omega) (hsh.step (fun j hj=>by have h9:=List.all_eq_true.1 h7 j hj;simp only [Bool.and_eq_true,decide_eq_true_eq,beq_iff_eq] at h9;exact h9)) (hc.step hck hb hp hn)

/-- a step that is the only one -/
theorem wpAnyH_one {fuel i:Nat} {listed:Array Bool} {a:Act} {w:World} {o:Oper} (hr:Region.ready md ops listed=[i]) (ho:ops[i]? = some o)
  (h:∀ K':Act→World→Prop,Shut (∀ a w,S w→wpAnyH P md ops Q S fuel (listed.setIfInBounds i true) a w→K' a w)→if Region.wanted o (yielded ops a.tmps)=true then Oper.wp P o a w K' Q else K' (a.put o.dst undef) w) :
  wpAnyH P md ops Q S (fuel+1) listed a w:=
 wpAnyH_ready hr (by simp) (AllReadyH.cons ho (fun K' hK=>h K' fun a w hS hW=>hK a w hS (fun _=>hW)) AllReadyH.nil)

/-- all operations of 'cores',in whatever order -/
theorem wpAnyH_cores (cores:List Core) (l0:Array Bool) (a:Act) (W w0:World) (fuel:Nat)
  (hsz:(cores.map (·.d)).all (fun d=>Nat.ble (d+1) a.tmps.size)=true) (hok:okAll md ops l0 (cores.map (·.i)) (cores.map (·.pre)) (cores.map (·.pure))=true) (hnd:(cores.map (·.d)).Nodup)
  (hops:∀ c∈cores,∃ o,ops[c.i]? = some o∧o.dst=some c.d) (hS:∀ w,Below W.heap.size W w→S w) (h0:Below W.heap.size W w0)
  (hsel:Region.noSelect ops=true) (hQ:∀ c a w d v,Q (.panic c) (a.put d v) w→Q (.panic c) a w)
  (hpure:∀ c∈cores,PureOK P ops S a W cores c) (hstep:∀ c∈cores,c.pure=false→StepOK P ops Q a W cores c)
  (hend:∀ vs w,Came cores W (List.replicate cores.length true) vs w→wpAnyH P md ops Q S fuel (mark l0 (cores.map (·.i)) (List.replicate cores.length true)) (over a (cores.map (·.d)) vs) w) :
  wpAnyH P md ops Q S (fuel+cores.length) l0 a w0:=by
 have e1:∀ (is:List Nat) (n:Nat) (l:Array Bool),mark l is (List.replicate n false)=l:=by
  intro is
  induction is with
  | nil=>intro n l;cases n <;> simp [mark]
  | cons i is ih=>intro n l;cases n with
   | zero=>simp [mark]
   | succ n=>simp [List.replicate_succ,mark,ih]
 have e2:∀ (ds:List Nat),over a ds (ds.map fun d=>a.tmps.getD d undef)=a:=by
  intro ds
  induction ds with
  | nil=>simp [over]
  | cons d ds ih=>rw [List.map_cons,over,put_self];exact ih
 have hover:=e2 (cores.map (·.d))
 have h:=wpAnyH_set cores l0 a W fuel hsz hok hnd hops hS hsel hQ hpure hstep hend cores.length (List.replicate cores.length false) ((cores.map (·.d)).map fun d=>a.tmps.getD d undef) w0 (by simp [left,List.countP_replicate])
  (fun k h=>by simp [List.getElem?_replicate] at h) ⟨by simp,by simp,h0,fun k c _ h=>by simp [List.getElem?_replicate] at h,fun k c _ h=>by simp [List.getElem?_replicate] at h,fun k j c d _ _ _ _ _ h=>by simp [List.getElem?_replicate] at h⟩
 rw [hover,e1] at h
 exact h
end
end Go.Proofs.YtlphnfajhpkleaaDoor.By
