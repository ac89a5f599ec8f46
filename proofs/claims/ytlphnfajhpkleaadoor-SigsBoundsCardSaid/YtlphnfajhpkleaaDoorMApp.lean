/-
 A region that draws its order,gone through in one step: frames and blocks as lists.
-/
import Derived.RangeFuncNested
import Derived.RangeFuncLeaves
import Derived.Shelf.Abstract
import Derived.WalkKit
import Derived.OwnWalkIn
import Derived.TacticsInMore
import Derived.LoopNIn
import Derived.LoopIn
import Derived.Stop.RegionWithIn
import Derived.Deep.AppendLies
import Derived.Test.YtlphnfajhpkleaaDoorMGInvT
import Derived.Test.YtlphnfajhpkleaaDoorMSxN
namespace Go.Proofs.YtlphnfajhpkleaaDoor
set_option maxRecDepth 100000
open Go.RowKit
set_option linter.unusedSimpArgs false
set_option linter.unusedVariables false

/-- what an operation leaves: a value,or a block of its own -/
inductive VK
 | val (u:Value)
 | cell (t:TypeId) (cs:Array Value)
 | row (t:TypeId) (cs:Array Value) (l:Nat)
 | own (t:TypeId) (cs:Array Value) (l:Nat)
 | two (n:Nat) (q:Nat→Nat→World→Prop) (st:∀ g c w w',q g c w→Below w.heap.size w w'→q g c w')
 | clo (mk:Nat→Value) (q:Nat→World→Prop) (st:(∀ g h,mk g=mk h→g=h)∧∀ g w w',q g w→Below w.heap.size w w'→q g w')
structure VC where
 i:Nat
 d:Nat
 pre:List Nat
 k:VK
 pure:Bool
/-- a slice of a row of its own -/
def Kind.row (t:TypeId) (cs:Array Value) (l:Nat):Kind:=⟨false,fun v w=>∃ g,v=.slice (some ⟨g,0,none⟩) l l∧At w g t cs,fun _ _ _ ⟨g,h1,h2⟩ hb=>⟨g,h1,h2.on hb⟩⟩
/-- the same,that was not there ahead -/
def Kind.own (b:Nat) (t:TypeId) (cs:Array Value) (l:Nat):Kind:=⟨false,fun v w=>∃ g,v=.slice (some ⟨g,0,none⟩) l l∧b≤g∧At w g t cs,fun _ _ _ ⟨g,h1,h0,h2⟩ hb=>⟨g,h1,h0,h2.on hb⟩⟩
/-- a slice of which two numbers are told -/
def Kind.two (n:Nat) (q:Nat→Nat→World→Prop) (st:∀ g c w w',q g c w→Below w.heap.size w w'→q g c w'):Kind:=⟨false,fun v w=>∃ g c,v=.slice (some ⟨g,0,none⟩) n c∧q g c w,fun _ _ _ ⟨g,c,h1,h2⟩ hb=>⟨g,c,h1,st _ _ _ _ h2 hb⟩⟩
/-- what a number tells,of which something is told -/
def Kind.clo (mk:Nat→Value) (q:Nat→World→Prop) (st:(∀ g h,mk g=mk h→g=h)∧∀ g w w',q g w→Below w.heap.size w w'→q g w'):Kind:=⟨false,fun v w=>∃ g,v=mk g∧q g w,fun _ _ _ ⟨g,h1,h2⟩ hb=>⟨g,h1,st.2 _ _ _ h2 hb⟩⟩
def VK.kind (b:Nat):VK→Kind
 | .clo mk q st=>Kind.clo mk q st
 | .two n q st=>Kind.two n q st
 | .own t cs l=>Kind.own b t cs l
 | .row t cs l=>Kind.row t cs l
 | .val u=>Kind.val u
 | .cell t cs=>Kind.cell b t cs
def VC.core (b:Nat) (c:VC):Core:=⟨c.i,c.d,c.pre,c.k.kind b,c.pure⟩
def cellsOfT:List VC→Nat
 | []=>0
 | ⟨_,_,_,.val _,_⟩::T=>cellsOfT T
 | ⟨_,_,_,.row _ _ _,_⟩::T=>cellsOfT T
 | ⟨_,_,_,.own _ _ _,_⟩::T=>cellsOfT T
 | ⟨_,_,_,.two _ _ _,_⟩::T=>cellsOfT T
 | ⟨_,_,_,.clo _ _ _,_⟩::T=>cellsOfT T
 | ⟨_,_,_,.cell _ _,_⟩::T=>cellsOfT T+1
def rowsOfT:List VC→Nat
 | []=>0
 | ⟨_,_,_,.val _,_⟩::T=>rowsOfT T
 | ⟨_,_,_,.cell _ _,_⟩::T=>rowsOfT T
 | ⟨_,_,_,.row _ _ _,_⟩::T=>rowsOfT T+1
 | ⟨_,_,_,.own _ _ _,_⟩::T=>rowsOfT T+1
 | ⟨_,_,_,.two _ _ _,_⟩::T=>rowsOfT T+1+1
 | ⟨_,_,_,.clo _ _ _,_⟩::T=>rowsOfT T+1
def slots:List VC→List Nat→List Nat→List (Nat × Value)
 | [],_,_=>[]
 | ⟨_,d,_,.val u,_⟩::T,gs,rs=>(d,u)::slots T gs rs
 | ⟨_,d,_,.cell _ _,_⟩::T,g::gs,rs=>(d,.pointer (some ⟨g,0,none⟩))::slots T gs rs
 | ⟨_,d,_,.cell _ _,_⟩::T,[],rs=>(d,undef)::slots T [] rs
 | ⟨_,d,_,.row _ _ l,_⟩::T,gs,r::rs=>(d,.slice (some ⟨r,0,none⟩) l l)::slots T gs rs
 | ⟨_,d,_,.row _ _ _,_⟩::T,gs,[]=>(d,undef)::slots T gs []
 | ⟨_,d,_,.own _ _ l,_⟩::T,gs,r::rs=>(d,.slice (some ⟨r,0,none⟩) l l)::slots T gs rs
 | ⟨_,d,_,.own _ _ _,_⟩::T,gs,[]=>(d,undef)::slots T gs []
 | ⟨_,d,_,.two n _ _,_⟩::T,gs,r::c::rs=>(d,.slice (some ⟨r,0,none⟩) n c)::slots T gs rs
 | ⟨_,d,_,.two _ _ _,_⟩::T,gs,[_]=>(d,undef)::slots T gs []
 | ⟨_,d,_,.two _ _ _,_⟩::T,gs,[]=>(d,undef)::slots T gs []
 | ⟨_,d,_,.clo mk _ _,_⟩::T,gs,r::rs=>(d,mk r)::slots T gs rs
 | ⟨_,d,_,.clo _ _ _,_⟩::T,gs,[]=>(d,undef)::slots T gs []
def blocks:List VC→List Nat→List (Nat × TypeId × Array Value)
 | [],_=>[]
 | ⟨_,_,_,.val _,_⟩::T,gs=>blocks T gs
 | ⟨_,_,_,.row _ _ _,_⟩::T,gs=>blocks T gs
 | ⟨_,_,_,.own _ _ _,_⟩::T,gs=>blocks T gs
 | ⟨_,_,_,.two _ _ _,_⟩::T,gs=>blocks T gs
 | ⟨_,_,_,.clo _ _ _,_⟩::T,gs=>blocks T gs
 | ⟨_,_,_,.cell t cs,_⟩::T,g::gs=>(g,t,cs)::blocks T gs
 | ⟨_,_,_,.cell _ _,_⟩::T,[]=>blocks T []
theorem slots_d:∀ (T:List VC) (gs rs:List Nat),(slots T gs rs).map (·.1)=T.map (·.d)
 | [],_,_=>rfl
 | ⟨_,_,_,.val _,_⟩::T,gs,rs=>by simp [slots,slots_d T gs rs]
 | ⟨_,_,_,.cell _ _,_⟩::T,g::gs,rs=>by simp [slots,slots_d T gs rs]
 | ⟨_,_,_,.cell _ _,_⟩::T,[],rs=>by simp [slots,slots_d T [] rs]
 | ⟨_,_,_,.row _ _ _,_⟩::T,gs,r::rs=>by simp [slots,slots_d T gs rs]
 | ⟨_,_,_,.row _ _ _,_⟩::T,gs,[]=>by simp [slots,slots_d T gs []]
 | ⟨_,_,_,.own _ _ _,_⟩::T,gs,r::rs=>by simp [slots,slots_d T gs rs]
 | ⟨_,_,_,.own _ _ _,_⟩::T,gs,[]=>by simp [slots,slots_d T gs []]
 | ⟨_,_,_,.two _ _ _,_⟩::T,gs,r::c::rs=>by simp [slots,slots_d T gs rs]
 | ⟨_,_,_,.two _ _ _,_⟩::T,gs,[_]=>by simp [slots,slots_d T gs []]
 | ⟨_,_,_,.two _ _ _,_⟩::T,gs,[]=>by simp [slots,slots_d T gs []]
 | ⟨_,_,_,.clo _ _ _,_⟩::T,gs,r::rs=>by simp [slots,slots_d T gs rs]
 | ⟨_,_,_,.clo _ _ _,_⟩::T,gs,[]=>by simp [slots,slots_d T gs []]
theorem blocks_in:∀ (T:List VC) (gs:List Nat) (x),x∈blocks T gs→x.1∈gs
 | [],_,_,h=>by simp [blocks] at h
 | ⟨_,_,_,.val _,_⟩::T,gs,x,h=>blocks_in T gs x (by simpa [blocks] using h)
 | ⟨_,_,_,.row _ _ _,_⟩::T,gs,x,h=>blocks_in T gs x (by simpa [blocks] using h)
 | ⟨_,_,_,.own _ _ _,_⟩::T,gs,x,h=>blocks_in T gs x (by simpa [blocks] using h)
 | ⟨_,_,_,.two _ _ _,_⟩::T,gs,x,h=>blocks_in T gs x (by simpa [blocks] using h)
 | ⟨_,_,_,.clo _ _ _,_⟩::T,gs,x,h=>blocks_in T gs x (by simpa [blocks] using h)
 | ⟨_,_,_,.cell _ _,_⟩::T,g::gs,x,h=>by
  rcases List.mem_cons.1 (show x∈(g,_,_)::blocks T gs from h) with rfl | h
  ·exact List.mem_cons_self
  ·exact List.mem_cons_of_mem _ (blocks_in T gs x h)
 | ⟨_,_,_,.cell _ _,_⟩::T,[],x,h=>blocks_in T [] x (by simpa [blocks] using h)

def LayT (b:Nat) (w:World):List VC→List Value→Prop
 | [],[]=>True
 | c::T,v::vs=>(c.k.kind b).p v w∧((c.k.kind b).new=true→∀ (j:Nat) (d:VC),T[j]? = some d→(d.k.kind b).new=true→vs[j]?≠some v)∧LayT b w T vs
 | _,_=>False
theorem lay_of {b:Nat} {w:World}:∀ (T:List VC) (vs:List Value),vs.length=T.length→(∀ (k:Nat) (c:VC),T[k]? = some c→∃ v,vs[k]? = some v∧(c.k.kind b).p v w) →
  (∀ (k j:Nat) (c d:VC),T[k]? = some c→T[j]? = some d→(c.k.kind b).new=true→(d.k.kind b).new=true→k≠j→vs[k]?≠vs[j]?)→LayT b w T vs
 | [],[],_,_,_=>trivial
 | c::T,v::vs,hl,h1,h2=>by
  refine ⟨?_,fun hn j d hd hdn he=>?_,lay_of T vs (by simpa using hl) (fun k c hc=>?_) fun k j c d hc hd hcn hdn hne=>?_⟩
  ·obtain ⟨u,hu,hp⟩:=h1 0 c rfl
   simp at hu;subst hu;exact hp
  ·exact h2 0 (j+1) c d rfl (by simpa using hd) hn hdn (by omega) (by simp [he])
  ·obtain ⟨u,hu,hp⟩:=h1 (k+1) c (by simpa using hc)
   exact ⟨u,by simpa using hu,hp⟩
  ·have:=h2 (k+1) (j+1) c d (by simpa using hc) (by simpa using hd) hcn hdn (by omega)
   simpa using this
 | [],_::_,hl,_,_=>by simp at hl
 | _::_,[],hl,_,_=>by simp at hl
theorem lay_open {b:Nat} {w:World}:∀ (T:List VC) (vs:List Value),LayT b w T vs→∃ gs rs:List Nat,gs.length=cellsOfT T∧rs.length=rowsOfT T∧vs=(slots T gs rs).map (·.2)∧(∀ x∈blocks T gs,At w x.1 x.2.1 x.2.2)∧(∀ g∈gs,b≤g) ∧
  gs.Nodup∧(∀ g∈gs,∃ (j:Nat) (d:VC),T[j]? = some d∧(d.k.kind b).new=true∧vs[j]? = some (.pointer (some ⟨g,0,none⟩)))
 | [],[],_=>⟨[],[],rfl,rfl,rfl,fun _ h=>(by cases h),fun _ h=>(by cases h),List.nodup_nil,fun _ h=>(by cases h)⟩
 | ⟨i,d,pre,.val u,p⟩::T,v::vs,⟨h1,_,h3⟩=>by
  obtain ⟨gs,rs,e1,e0,e2,e3,e4,e5,e6⟩:=lay_open T vs h3
  have hv:v=u:=h1
  subst hv
  refine ⟨gs,rs,e1,e0,by simp [slots,← e2],e3,e4,e5,fun g hg=>?_⟩
  obtain ⟨j,d',hd,hn,hv⟩:=e6 g hg
  exact ⟨j+1,d',by simpa using hd,hn,by simpa using hv⟩
 | ⟨i,d,pre,.row t cs l,p⟩::T,v::vs,⟨h1,_,h3⟩=>by
  obtain ⟨gs,rs,e1,e0,e2,e3,e4,e5,e6⟩:=lay_open T vs h3
  obtain ⟨r,rfl,hat⟩:∃ g,v=.slice (some ⟨g,0,none⟩) l l∧At w g t cs:=h1
  refine ⟨gs,r::rs,e1,by simp [rowsOfT,e0],by simp [slots,← e2],e3,e4,e5,fun g hg=>?_⟩
  obtain ⟨j,d',hd,hn,hv⟩:=e6 g hg
  exact ⟨j+1,d',by simpa using hd,hn,by simpa using hv⟩
 | ⟨i,d,pre,.own t cs l,p⟩::T,v::vs,⟨h1,_,h3⟩=>by
  obtain ⟨gs,rs,e1,e0,e2,e3,e4,e5,e6⟩:=lay_open T vs h3
  obtain ⟨r,rfl,_,hat⟩:∃ g,v=.slice (some ⟨g,0,none⟩) l l∧b≤g∧At w g t cs:=h1
  refine ⟨gs,r::rs,e1,by simp [rowsOfT,e0],by simp [slots,← e2],e3,e4,e5,fun g hg=>?_⟩
  obtain ⟨j,d',hd,hn,hv⟩:=e6 g hg
  exact ⟨j+1,d',by simpa using hd,hn,by simpa using hv⟩
 | ⟨i,d,pre,.clo mk q st,p⟩::T,v::vs,⟨h1,_,h3⟩=>by
  obtain ⟨gs,rs,e1,e0,e2,e3,e4,e5,e6⟩:=lay_open T vs h3
  obtain ⟨r,rfl,hat⟩:∃ g,v=mk g∧q g w:=h1
  refine ⟨gs,r::rs,e1,by simp [rowsOfT,e0],by simp [slots,← e2],e3,e4,e5,fun g hg=>?_⟩
  obtain ⟨j,d',hd,hn,hv⟩:=e6 g hg
  exact ⟨j+1,d',by simpa using hd,hn,by simpa using hv⟩
 | ⟨i,d,pre,.two n q st,p⟩::T,v::vs,⟨h1,_,h3⟩=>by
  obtain ⟨gs,rs,e1,e0,e2,e3,e4,e5,e6⟩:=lay_open T vs h3
  obtain ⟨r,c,rfl,hat⟩:∃ g c,v=.slice (some ⟨g,0,none⟩) n c∧q g c w:=h1
  refine ⟨gs,r::c::rs,e1,by simp [rowsOfT,e0],by simp [slots,← e2],e3,e4,e5,fun g hg=>?_⟩
  obtain ⟨j,d',hd,hn,hv⟩:=e6 g hg
  exact ⟨j+1,d',by simpa using hd,hn,by simpa using hv⟩
 | ⟨i,d,pre,.cell t cs,p⟩::T,v::vs,⟨h1,h2,h3⟩=>by
  obtain ⟨gs,rs,e1,e0,e2,e3,e4,e5,e6⟩:=lay_open T vs h3
  obtain ⟨g,rfl,hb,hat⟩:∃ g,v=.pointer (some ⟨g,0,none⟩)∧b≤g∧At w g t cs:=h1
  refine ⟨g::gs,rs,by simp [cellsOfT,e1],e0,by simp [slots,← e2],fun x hx=>?_,fun x hx=>?_,?_,fun x hx=>?_⟩
  ·rcases List.mem_cons.1 (show x∈(g,t,cs)::blocks T gs from hx) with rfl | hx
   ·exact hat
   ·exact e3 x hx
  ·rcases List.mem_cons.1 hx with rfl | hx
   ·exact hb
   ·exact e4 x hx
  ·refine List.nodup_cons.2 ⟨fun hg=>?_,e5⟩
   obtain ⟨j,d',hd,hn,hv⟩:=e6 g hg
   exact h2 rfl j d' hd hn hv
  ·rcases List.mem_cons.1 hx with rfl | hx
   ·exact ⟨0,_,rfl,rfl,rfl⟩
   ·obtain ⟨j,d',hd,hn,hv⟩:=e6 x hx
    exact ⟨j+1,d',by simpa using hd,hn,by simpa using hv⟩
 | [],_::_,h=>h.elim
 | _::_,[],h=>h.elim
theorem blocks_nd:∀ (T:List VC) (gs:List Nat),gs.Nodup→((blocks T gs).map (·.1)).Nodup
 | [],_,_=>by simp [blocks]
 | ⟨_,_,_,.val _,_⟩::T,gs,h=>by simpa [blocks] using blocks_nd T gs h
 | ⟨_,_,_,.row _ _ _,_⟩::T,gs,h=>by simpa [blocks] using blocks_nd T gs h
 | ⟨_,_,_,.own _ _ _,_⟩::T,gs,h=>by simpa [blocks] using blocks_nd T gs h
 | ⟨_,_,_,.two _ _ _,_⟩::T,gs,h=>by simpa [blocks] using blocks_nd T gs h
 | ⟨_,_,_,.clo _ _ _,_⟩::T,gs,h=>by simpa [blocks] using blocks_nd T gs h
 | ⟨_,_,_,.cell _ _,_⟩::T,g::gs,h=>by
  obtain ⟨h1,h2⟩:=List.nodup_cons.1 h
  show (g::(blocks T gs).map (·.1)).Nodup
  refine List.nodup_cons.2 ⟨fun hg=>h1 ?_,blocks_nd T gs h2⟩
  obtain ⟨x,hx,rfl⟩:=List.mem_map.1 hg
  exact blocks_in T gs x hx
 | ⟨_,_,_,.cell _ _,_⟩::T,[],h=>by simpa [blocks] using blocks_nd T [] h

section
variable {P:Program} {ops:Array Oper} {Q:Exit→Act→World→Prop} {a:Act} {n0:Nat} {w w0:World} {N:Nat} {L:List (Nat × Value)} {df:List Deferred} {M:List (Nat × TypeId × Array Value)}
theorem lk_app:∀ (R L:List (Nat × Value)) (s:Nat) (v:Value),lk (R++L) s=some v→lk R s=some v∨s ∉ R.map (·.1)
 | [],_,_,_,_=>Or.inr (by simp)
 | (d,u)::R,L,s,v,h=>by
  by_cases e:d=s
  ·subst e;simp [lk] at h;left;simp [lk,h]
  ·have e':Nat.beq d s=false:=Bool.eq_false_iff.2 fun h=>e (Nat.eq_of_beq_eq_true h)
   simp only [List.cons_append,lk,e',cond_false] at h
   rcases lk_app R L s v h with h | h
   ·left;simp [lk,e',h]
   ·right
    simp only [List.map_cons,List.mem_cons,not_or]
    exact ⟨fun h'=>e h'.symm,h⟩
variable {S:World→Prop} {md:Region.Mode} {fuel i:Nat} {listed:Array Bool}
/-- an assignment behind all -/
theorem sx_assign {x:Operand} {d:Nat} {ty:TypeId} {pos:String} {after:Array Edge} {v:Value} (F:Fr a N L df) (hS:S w) (hr:Region.ready md ops listed=[i]) (ho:ops[i]? = some ⟨some d,.assign x,ty,pos,after,none⟩) (hd:Nat.blt d N=true) (hx:a.eval x=v)
  (h:∀ a',Fr a' N ((d,v)::L) df→wpAnyH P md ops Q S fuel (listed.setIfInBounds i true) a' w):wpAnyH P md ops Q S (fuel+1) listed a w:=
 assign_one x d ty pos after v hr ho hx hS (h _ (F.put v hd))
/-- a store behind all -/
theorem sx_store {k g j:Nat} {o:Oper} {t:TypeId} {cs:Array Value} {vs:List Value} (H:Mem n0 w0 w M) (hr:Region.ready md ops listed=[i]) (ho:ops[i]? = some o) (hg:o.guard=none) (hdst:o.dst=none) (hk:M[k]? = some (g,t,cs))
  (hrun:(execOp a.eval o).run P w=.ok .skip (puts w g j vs)) {M2:List (Nat × TypeId × Array Value)} (hM2:M.set k (g,t,sets cs j vs)=M2) (hS:∀ w',Mem n0 w0 w' M2→S w')
  (h:∀ w',Mem n0 w0 w' M2→wpAnyH P md ops Q S fuel (listed.setIfInBounds i true) a w'):wpAnyH P md ops Q S (fuel+1) listed a w:=by
 have hM:=Mem.puts vs H hk j
 rw [hM2] at hM
 refine wpAnyH_one hr ho fun K hK=>want_none hg (wp_of_run_skip hrun ?_)
 rw [hdst]
 exact hK.out _ _ (hS _ hM) (h _ hM)
theorem Mem.tail {n0:Nat} {w0 w:World} {A M:List (Nat × TypeId × Array Value)} (H:Mem n0 w0 w (A++M)):Mem n0 w0 w M:=
 ⟨H.le,H.bel,H.oth,fun x hx=>H.at_ x (List.mem_append_right _ hx),fun x hx=>H.own x (List.mem_append_right _ hx),by have:=H.nd;rw [List.map_append] at this;exact (List.nodup_append.1 this).2.1⟩
theorem sx_done (hr:Region.ready md ops listed=[]) (h:Q .normal a w):∀ fuel,wpAnyH P md ops (NoPanic Q) S fuel listed a w:=wpAnyH_done hr (NoPanic.normal h)
end
section
variable {P:Program} {ops:Array Oper} {Q:Exit→Act→World→Prop} {S:World→Prop} {a:Act} {W:World} {cores:List Core}
/-- a block made among the others -/
theorem core_new (c:Core) (op:Op) (n:Nat) (t:TypeId) (cs:Array Value) (ty:TypeId) (pos:String) (after:Array Edge)
  (ho:ops[c.i]? = some ⟨some c.d,op,ty,pos,after,none⟩) (hk:c.kind=Kind.cell n t cs) (hn:n≤W.heap.size)
  (hr:∀ (ρ:Operand→Value) (w:World),(execOp ρ ⟨some c.d,op,ty,pos,after,none⟩).run P w=.ok (.value (.pointer (some ⟨w.heap.size,0,none⟩))) (w.alloc (.cells cs t))):StepOK P ops Q a W cores c:=by
 intro vs w hl hb hp o ho' K hK
 rw [ho] at ho'
 obtain rfl:=Option.some.inj ho'
 refine want_none rfl (wp_of_run_value (hr _ w) ?_)
 exact hK.out _ _ (gr_alloc (Below.refl _ _) _) (by rw [hk];exact ⟨_,rfl,Nat.le_trans hn hb.size,At.new _ _ _⟩) (fun _=>⟨rfl,by simp⟩)
/-- a call whose contract hangs on what has come up -/
theorem coreX_call (c:Core) (f:FuncId) (fn:Func) (code:Code) (xs:List Operand) (tys:Array TypeId) (ty:TypeId) (pos:String) (after:Array Edge) (u:Value)
  (ho:ops[c.i]? = some ⟨some c.d,.call ⟨.value (.func f),xs.toArray,tys⟩,ty,pos,after,none⟩) (hf:P.funcs[f]? = some fn) (hn:(fn.name == "runtime.NumGoroutine")=false) (hb:fn.body=some code)
  (hk:c.kind=Kind.val u)
  (C : ∀ (vs : List Value) (w : World), Fit a cores vs → Below W.heap.size W w → (∀ j ∈ c.pre, ∀ d : Core, cores[j]? = some d → ∃ v, vs[j]? = some v ∧ d.kind.p v w) →
   ∃ us:List Value,xs.map (over a (cores.map (·.d)) vs).eval=us∧Calls P f us.toArray w fun e w'=>e=.returned u∧Below w.heap.size w w'):StepOK P ops Q a W cores c:=by
 intro vs w hl hbw hp o ho' K hK
 rw [ho] at ho'
 obtain rfl:=Option.some.inj ho'
 refine want_none rfl ?_
 obtain ⟨us,hargs,hC⟩:=C vs w hl hbw hp
 have hargs2:xs.toArray.map (over a (cores.map (·.d)) vs).eval=us.toArray:=by rw [List.map_toArray,hargs]
 have hrun:∀ w,(execOp (over a (cores.map (·.d)) vs).eval ⟨some c.d,.call ⟨.value (.func f),xs.toArray,tys⟩,ty,pos,after,none⟩).run P w=.ok (.enter f us.toArray) w:=fun w=>by
  have h:=run_enter hf hn hb us.toArray w
  simp only [execOp,resolve,hargs2]
  simpa [Act.eval,Deferred.ofValue,invoke,go_sem] using h
 unfold Oper.wp
 rw [hrun w,Oper.upon_enter]
 refine hC.mono fun e w' ⟨he,hb⟩=>?_
 subst he
 exact hK.out u w' hb (by rw [hk];exact rfl) (fun h=>by rw [hk] at h;cases h)
/-- such a thing,when it has come up -/
theorem clo_of {vs:List Value} {w:World} {pre:List Nat} (hl:Fit a cores vs) (hp:∀ j∈pre,∀ d:Core,cores[j]? = some d→∃ v,vs[j]? = some v∧d.kind.p v w) (j t:Nat) (cc:Core) (mk:Nat→Value) (q:Nat→World→Prop) (st:(∀ g h,mk g=mk h→g=h)∧∀ g w w',q g w→Below w.heap.size w w'→q g w') (hj:j∈pre) (hc:cores[j]? = some cc) (hk:cc.kind=Kind.clo mk q st) (hd:cc.d=t) :
  ∃ g,(over a (cores.map (·.d)) vs).eval (.tmp t)=mk g∧q g w:=by
 obtain ⟨v,hv,hq⟩:=hp j hj cc hc
 rw [hk] at hq
 obtain ⟨g,rfl,hat⟩:∃ g,v=mk g∧q g w:=hq
 subst hd
 exact ⟨g,over_at _ _ _ j _ _ hl.nd (by rw [List.getElem?_map,hc];rfl) hv (hl.sz _ (List.mem_map_of_mem (List.mem_of_getElem? hc))),hat⟩
/-- an operation of one operand that may read memory of which S tells -/
theorem coreS (c:Core) (op:Op) (ty:TypeId) (pos:String) (after:Array Edge) (gd:Option (Nat × Bool)) (u:Value)
  (ho:ops[c.i]? = some ⟨some c.d,op,ty,pos,after,gd⟩) (hk:c.kind=Kind.val u) (hg:Wants ops a cores c.pre gd true)
  (h:∀ (ρ:Operand→Value) (w:World),(∀ (x:Operand) (v:Value),Known a cores c.pre x v→ρ x=v)→S w→(execOp ρ ⟨some c.d,op,ty,pos,after,gd⟩).run P w=.ok (.value u) w):PureOK P ops S a W cores c:=
 coreG_pure c _ ty pos after gd u ho hk hg fun vs w hl hp w' hS=>h _ w' (fun x v hx=>hx vs w hl hp) hS
theorem crS {c:Core} {op:Op} {ty:TypeId} {pos:String} {after:Array Edge} {gd:Option (Nat × Bool)} {u:Value} (h:∀ (ρ:Operand→Value) (w:World),(∀ (x:Operand) (v:Value),Known a cores c.pre x v→ρ x=v)→S w→(execOp ρ ⟨some c.d,op,ty,pos,after,gd⟩).run P w=.ok (.value u) w)
    (ho:ops[c.i]? = some ⟨some c.d,op,ty,pos,after,gd⟩:=by rfl) (hk:c.kind=Kind.val u:=by rfl) (hg:Wants ops a cores c.pre gd true:=by exact wants_none):PureOK P ops S a W cores c:=coreS c op ty pos after gd u ho hk hg h
end
theorem mev_nil {f:Operand→Value}:[].map f=[]:=rfl
theorem mev_cons {f:Operand→Value} {x:Operand} {v:Value} {xs:List Operand} {vs:List Value} (h:f x=v) (hs:xs.map f=vs):(x::xs).map f=v::vs:=by rw [List.map_cons,h,hs]
theorem nl0 (gs:List Nat) (h:gs.length=0):gs=[]:=List.length_eq_zero_iff.1 h
theorem nl1 (gs:List Nat) (h:gs.length=1):∃ a,gs=[a]:=by
 match gs,h with
 | [a],_=>exact ⟨a,rfl⟩
theorem nl3 (gs:List Nat) (h:gs.length=3):∃ a b c,gs=[a,b,c]:=by
 match gs,h with
 | [a,b,c],_=>exact ⟨a,b,c,rfl⟩
end Go.Proofs.YtlphnfajhpkleaaDoor

/-
 groups.together: the numbers,each with its exponent,gone through by whatever body.
-/
namespace Go.Proofs.YtlphnfajhpkleaaDoor
set_option maxRecDepth 100000
set_option linter.unusedSimpArgs false
set_option linter.unusedVariables false
open Go.RowKit Go.Shelf
attribute [local go_sem] Oper.semAt_some
attribute [local go_sem ↓] Go.wp_at_zero Go.wp_at_succ

/-- a number,and an exponent -/
abbrev NP:={ p:Nat × Nat // p.1<2^256∧p.2<2^256 }
/-- a slice of numbers,in a block below n₀ -/
def NSl (n₀:Nat) (w:World) (a:Option Addr) (cap:Nat) (xs:List Nat):Prop:=
 xs.length≤cap∧cap≤9223372036854775807∧(∀ x∈xs,x<2^256) ∧
 (xs=[]∨∃ g o,a=some ⟨g,o,none⟩∧g<n₀∧∀ i (h:i<xs.length) k,k<4→w.cell? ⟨g,o+i*4+k,none⟩=some (.int .u64 (wd xs[i] k:Nat)))
theorem NSl.below {n₀:Nat} {A B:World} (h:Below n₀ A B) {a:Option Addr} {cap:Nat} {xs:List Nat}:NSl n₀ A a cap xs→NSl n₀ B a cap xs
 | ⟨h1,h2,h3,h4⟩=>⟨h1,h2,h3,h4.imp id fun ⟨g,o,ha,hg,hc⟩=>⟨g,o,ha,hg,fun i hi k hk=>(h.cell (p:=⟨g,o+i*4+k,none⟩) hg).trans (hc i hi k hk)⟩⟩
theorem NSl.get {n₀:Nat} {w:World} {a:Option Addr} {cap:Nat} {xs:List Nat} (h:NSl n₀ w a cap xs) {i x:Nat} (hi:i<xs.length) (hx:xs[i]=x):∃ g o,a=some ⟨g,o,none⟩∧g<n₀ ∧
  w.cell? ⟨g,o+i*4,none⟩=some (.int .u64 (wd x 0:Nat))∧w.cell? ⟨g,o+i*4+1,none⟩=some (.int .u64 (wd x 1:Nat))∧w.cell? ⟨g,o+i*4+2,none⟩=some (.int .u64 (wd x 2:Nat))∧w.cell? ⟨g,o+i*4+3,none⟩=some (.int .u64 (wd x 3:Nat)):=by
 rcases h.2.2.2 with rfl | ⟨g,o,ha,hg,hc⟩
 ·exact absurd hi (Nat.not_lt_zero _)
 ·subst hx
  exact ⟨g,o,ha,hg,hc i hi 0 (by omega),hc i hi 1 (by omega),hc i hi 2 (by omega),hc i hi 3 (by omega)⟩

/-- what a round leaves alone: what lies below n₀,and block b -/
structure KP (n₀ b:Nat) (W W':World):Prop where
 bel:Below n₀ W W'
 box:b<W.heap.size→W'.heap[b]? = W.heap[b]?
theorem KP.refl (n₀ b:Nat) (W:World):KP n₀ b W W:=⟨Below.refl _ _,fun _=>rfl⟩
theorem KP.trans {n₀ b:Nat} {A B C:World} (h:KP n₀ b A B) (k:KP n₀ b B C):KP n₀ b A C:=⟨h.bel.trans k.bel,fun hb=>(k.box (Nat.lt_of_lt_of_le hb h.bel.size)).trans (h.box hb)⟩
theorem KP.of {n₀ b:Nat} {A B:World} (h:Below A.heap.size A B) (hn:n₀≤A.heap.size):KP n₀ b A B:=⟨h.mono hn,fun hb=>h.block b hb⟩

set_option maxRecDepth 100000 in
set_option maxHeartbeats 8000000 in
theorem tog1_in (n:Nat) (hn:1≤n) (l gA gN n₀:Nat) (a b:Option Addr) (ca cb:Nat) (zs:List NP) (J Jx:List NP→World→Prop)
  (hY : ∀ pre x W, J pre W → pre.length < zs.length → YieldAt Fence.wide (n - 1) Tryd.prog l #[num x.1.1, num x.1.2] W fun e W' =>
   (e=.returned (.bool true)∧J (pre++[x]) W'∧KP n₀ gN W W')∨(e=.returned (.bool false)∧Jx (pre++[x]) W'))
  (W:World) (hW:n₀≤W.heap.size) (hJ:AbidesFrom W.heap.size J) (hJx:AbidesFrom W.heap.size Jx)
  (hA:At W gA 47 #[.slice a zs.length ca]) (hN:At W gN 47 #[.slice b zs.length cb])
  (sA:NSl n₀ W a ca (zs.map (·.1.1))) (sN:NSl n₀ W b cb (zs.map (·.1.2))) (h0:J [] W) :
  CallsIn Fence.wide n Tryd.prog 58 #[.func (.yield l) #[] #[],.pointer (some ⟨gA,0,none⟩),.pointer (some ⟨gN,0,none⟩)] W fun e W'=>(∃ v,e=.returned v) ∧
   ((∃ ys,ys=zs∧J ys W')∨(∃ pre,pre <+: zs∧Jx pre W')):=by
 have cA:=hA.cell 0
 have hl1:zs.length≤9223372036854775807:=by have h1:=sA.1;have h2:=sA.2.1;simp at h1;omega
 refine callsIn_of_wp Tryd.func58 rfl trivial ?_ rfl
 simp only [Tryd.ntmps58,List.size_toArray,List.length_cons,List.length_nil,Nat.reduceAdd,Nat.reduceSub,Array.replicate_succ,Array.replicate_zero,List.push_toArray,List.append_toArray,List.nil_append,List.cons_append]
 gi_wp2
 gi_loopw [8] (fun i wr=>∃ k:Nat,k≤zs.length∧i=.int .i64 k∧J (zs.take k) wr∧KP n₀ gN W wr)
  (fun i _=>zs.length-(intOf i).toNat)
 case atStart=>exact ⟨0,Nat.zero_le _,rfl,h0,KP.refl _ _ _⟩
 case round=>
  obtain ⟨k,hk,rfl,hJs,hnx⟩:=hrel
  by_cases hlt:k<zs.length
  ·have hlt2:(k:Int)<(zs.length:Int):=by omega
   obtain ⟨g,o,rfl,hg,e0,e1,e2,e3⟩:=(sA.below hnx.bel).get (i:=k) (x:=(zs[k]).1.1) (by simpa using hlt) (by simp)
   gi_wp2
   obtain ⟨x,hx⟩:∃ x,x=zs[k]:=⟨_,rfl⟩
   obtain ⟨g2,o2,rfl,hg2,d0,d1,d2,d3⟩:=(sN.below hnx.bel).get (i:=k) (x:=x.1.2) (by simpa using hlt) (by simp [hx])
   rw [← hx]
   have hwr:n₀≤wr.heap.size:=Nat.le_trans hW hnx.bel.size
   have hsz:W.heap.size≤wr.heap.size:=hnx.bel.size
   obtain ⟨w2,hw2⟩:∃ w2,w2=wr.alloc (.cells (ncs x.1.1) 24):=⟨_,rfl⟩
   have hbx:KP n₀ gN wr w2:=by rw [hw2];exact KP.of ((Below.refl _ _).alloc (Nat.le_refl _) _) hwr
   have hb:=hbx.bel
   have hAt:At w2 wr.heap.size 24 (ncs x.1.1):=by rw [hw2];exact At.new _ _ _
   have hJ2:J (zs.take k) w2.drew:=by
    have h1:J (zs.take k) w2:=by rw [hw2];exact hJ _ _ _ none hJs (World.grownBy_alloc wr _ none) (fun _ e=>by cases e)
    exact hJ _ _ _ none h1 ⟨rfl,rfl,rfl,Nat.le_refl _,fun _ _ _=>rfl⟩ (fun _ e=>by cases e)
   rw [← hw2]
   clear hw2
   have hw2n:n₀≤w2.heap.size:=Nat.le_trans hwr hb.size
   have q0:w2.cell? ⟨wr.heap.size,0,none⟩=some (.int .u64 (wd x.1.1 0:Nat)):=hAt.cell 0
   have q1:w2.cell? ⟨wr.heap.size,1,none⟩=some (.int .u64 (wd x.1.1 1:Nat)):=hAt.cell 1
   have q2:w2.cell? ⟨wr.heap.size,2,none⟩=some (.int .u64 (wd x.1.1 2:Nat)):=hAt.cell 2
   have q3:w2.cell? ⟨wr.heap.size,3,none⟩=some (.int .u64 (wd x.1.1 3:Nat)):=hAt.cell 3
   have hN2:At w2 gN 47 #[.slice (some ⟨g2,o2,none⟩) zs.length cb]:=((hbx.box (Nat.lt_of_lt_of_le hN.lt hsz)).trans (hnx.box hN.lt)).trans hN
   have n0:w2.cell? ⟨gN,0,none⟩=some (.slice (some ⟨g2,o2,none⟩) zs.length cb):=hN2.cell 0
   have d0':=(hb.cell (p:=⟨g2,o2+k*4,none⟩) hg2).trans d0
   have d1':=(hb.cell (p:=⟨g2,o2+k*4+1,none⟩) hg2).trans d1
   have d2':=(hb.cell (p:=⟨g2,o2+k*4+2,none⟩) hg2).trans d2
   have d3':=(hb.cell (p:=⟨g2,o2+k*4+3,none⟩) hg2).trans d3
   clear d0 d1 d2 d3 e0 e1 e2 e3
   have hx':=Lib.hid hx
   clear hx
   obtain ⟨fn,tmps,assign,body,hy,hR⟩:=hY (zs.take k) x w2.drew hJ2 (by simp;omega)
   generalize wr.heap.size=gB at *
   have hR':=Lib.hid (hR.mono (R':=fun e W'=>∃ bb:Bool,e=.returned (.bool bb)∧((bb=true∧J (zs.take k++[x]) W'∧KP n₀ gN w2.drew W')∨(bb=false∧Jx (zs.take k++[x]) W'))) (fun e W' h=>by
    rcases h with ⟨h1,h2,h3⟩ | ⟨h1,h2⟩
    ·exact ⟨true,h1,Or.inl ⟨rfl,h2,h3⟩⟩
    ·exact ⟨false,h1,Or.inr ⟨rfl,h2⟩⟩))
   clear hR
   gi_region_with (first | (refine ⟨by simp,?_⟩;refine RoundIn.mono hR'.out ?_;rintro e W3 ⟨bb,rfl,hW3⟩) | (refine RoundIn.mono hR'.out ?_;rintro e W3 ⟨bb,rfl,hW3⟩))
   all_goals
    obtain ⟨rfl,hJ3,hk3⟩ | ⟨rfl,hx3⟩:=hW3
    ·gi_wp2
     go_roundw
     case rel=>exact ⟨k+1,by omega,by simp,by rw [List.take_succ_eq_append_getElem hlt,← hx'.out];exact hJ3,hnx.trans (hbx.trans ((KP.of (Below.refl _ w2).drew hw2n).trans hk3))⟩
     case measure=>simp [intOf];omega
    ·gi_wp2
     refine bodyPost_ret (results_none rfl _ _ _) rfl ?_
     exact ⟨⟨_,rfl⟩,.inr ⟨_,by rw [hx'.out,← List.take_succ_eq_append_getElem hlt];exact List.take_prefix _ _,hx3⟩⟩
  ·obtain rfl:k=zs.length:=by omega
   gi_wp2
   go_end0
   exact ⟨⟨_,rfl⟩,.inl ⟨_,rfl,by simpa using hJs⟩⟩

theorem tog_any (a b:Option Addr) (la lb ca cb:Nat) (w:World):Calls Tryd.prog 41 #[.slice a la ca,.slice b lb cb] w fun e w'=>
  e=.returned (.func (.func 58) #[] #[.pointer (some ⟨w.heap.size,0,none⟩),.pointer (some ⟨w.heap.size+1,0,none⟩)])∧w'=(w.alloc (.cells #[.slice a la ca] 47)).alloc (.cells #[.slice b lb cb] 47):=by
 go_enter Tryd.func41,Tryd.ntmps41
 go_wp2
 go_ret
 exact ⟨rfl,rfl⟩

/-- the numbers with their exponents: what is gone through -/
theorem tog_stops (n:Nat) (hn:1≤n) (gA gN n₀:Nat) (a b:Option Addr) (ca cb:Nat) (zs:List NP) (w:World) (hn₀:n₀≤w.heap.size)
  (hA:At w gA 47 #[.slice a zs.length ca]) (hN:At w gN 47 #[.slice b zs.length cb]) (sA:NSl n₀ w a ca (zs.map (·.1.1))) (sN:NSl n₀ w b cb (zs.map (·.1.2))) :
  SeqStopsK Fence.wide n Tryd.prog 58 #[.pointer (some ⟨gA,0,none⟩),.pointer (some ⟨gN,0,none⟩)] (fun x:NP=>#[num x.1.1,num x.1.2]) (KP n₀ gN) (fun ys=>ys=zs) (fun pre=>pre <+: zs) zs.length w:=
 fun l J Jx W hW hJ hJx hY h0=>
  tog1_in n hn l gA gN n₀ a b ca cb zs J Jx hY W (Nat.le_trans hn₀ hW.size) hJ hJx (hA.on hW) (hN.on hW) (sA.below (hW.mono hn₀)) (sN.below (hW.mono hn₀)) h0
end Go.Proofs.YtlphnfajhpkleaaDoor

/-
 Lists of long numbers that a function appends to,in frames and blocks as lists.
-/
namespace Go.Proofs.YtlphnfajhpkleaaDoor
set_option maxRecDepth 100000
open Go.RowKit
set_option linter.unusedSimpArgs false
set_option linter.unusedVariables false

/-- the cells of a list of numbers -/
def flat:List Nat→List Value
 | []=>[]
 | X::xs=>.int .u64 (wd X 0:Nat)::.int .u64 (wd X 1:Nat)::.int .u64 (wd X 2:Nat)::.int .u64 (wd X 3:Nat)::flat xs
theorem flat_len:∀ (xs:List Nat),(flat xs).length=xs.length*4
 | []=>rfl
 | X::xs=>by simp [flat,flat_len xs];omega
theorem flat_get:∀ (xs:List Nat) (i:Nat) (h:i<xs.length) (k:Nat),k<4→(flat xs)[i*4+k]? = some (.int .u64 (wd xs[i] k:Nat))
 | X::xs,0,_,k,hk=>by
  match k,hk with
  | 0,_=>rfl
  | 1,_=>rfl
  | 2,_=>rfl
  | 3,_=>rfl
 | X::xs,i+1,h,k,hk=>by
  have:=flat_get xs i (by simpa using h) k hk
  rw [show (i+1)*4+k=(i*4+k)+4 by omega]
  simpa [flat] using this
/-- a slice of numbers that lies in a row of its own,from base on -/
def NR (base:Nat) (w:World) (v:Value) (xs:List Nat):Prop:=w.ownsRow base 24 4 v xs.length (flat xs)
theorem NR.nil (base:Nat) (w:World):NR base w (.slice none 0 0) []:=World.ownsRow_nil w base _ 4
theorem NR.on {base:Nat} {w w':World} {v:Value} {xs:List Nat} (h:NR base w v xs) (hb:Below w.heap.size w w'):NR base w' v xs:=by
 refine ⟨h.1,?_⟩
 rcases h.2 with hn | ⟨g,cap,cur,rfl,hg,hc,rest⟩
 ·exact .inl hn
 ·exact .inr ⟨g,cap,cur,rfl,hg,(hb.block g (Array.getElem?_eq_some_iff.1 hc).1).trans hc,rest⟩
theorem NR.far {base:Nat} {w w':World} {v:Value} {xs:List Nat} {row:Option Nat} (h:NR base w v xs) (hg:w.grownBy w' row) (hne:v.ownBlock=none∨v.ownBlock≠row):NR base w' v xs:=World.ownsRow.kept h hg hne
theorem NR.lt {base:Nat} {w:World} {v:Value} {xs:List Nat} (h:NR base w v xs):∀ k,v.ownBlock=some k→base≤k∧k<w.heap.size:=World.ownsRow.lt h
/-- as a slice to be read -/
theorem NR.sl {base:Nat} {w:World} {v:Value} {xs:List Nat} (h:NR base w v xs) (hx:∀ x∈xs,x<2^256):∃ a cap,v=.slice a xs.length cap∧NSl w.heap.size w a cap xs:=by
 rcases h.2 with ⟨rfl,h0⟩ | ⟨g,cap,cur,rfl,hg,hc,h1,h2,h3,h4⟩
 ·obtain rfl:=List.length_eq_zero_iff.1 h0
  exact ⟨none,0,rfl,Nat.le_refl _,by decide,hx,Or.inl rfl⟩
 ·refine ⟨some ⟨g,0,none⟩,cap,rfl,h1,h2,hx,Or.inr ⟨g,0,rfl,(Array.getElem?_eq_some_iff.1 hc).1,fun i hi k hk=>?_⟩⟩
  have hf:=flat_get xs i hi k hk
  rw [← h4,List.getElem?_take] at hf
  split at hf
  ·rw [Nat.zero_add,cell_of_row w g (i*4+k) cur 24 (0,0) hc]
   simpa using hf
  ·cases hf
section
variable {ops:Array Oper} {Q:Exit→Act→World→Prop} {a:Act} {n0:Nat} {w w0:World} {rest:List Oper} {o:Oper} {N:Nat} {L:List (Nat × Value)} {df:List Deferred} {M:List (Nat × TypeId × Array Value)}
/-- blocks of one's own stay,where a row behind them grows -/
theorem Mem.row {base:Nat} {w':World} {v:Value} {xs:List Nat} (H:Mem n0 w0 w M) (hv:NR base w v xs) (hg:w.grownBy w' v.ownBlock) (hM:∀ x∈M,x.1<base) (hb:n0≤base):Mem n0 w0 w' M:=by
 refine ⟨H.le,H.bel.grown hg (Nat.le_trans H.le H.bel.size) (fun r e=>Nat.le_trans hb (hv.lt r e).1),H.oth.trans (KeepsOthers.of_grownBy hg fun j o hj ho=>?_),fun x hx=>?_,H.own,H.nd⟩
 ·rcases hv.2 with ⟨rfl,_⟩ | ⟨g,cap,cur,rfl,_,hc,_⟩
  ·cases hj
  ·cases hj;rw [hc] at ho;cases ho;rfl
 ·have h:=H.at_ x hx
  exact (hg.block x.1 h.lt (fun e=>by have:=(hv.lt x.1 e.symm).1;have:=hM x hx;omega)).trans h
end
end Go.Proofs.YtlphnfajhpkleaaDoor
