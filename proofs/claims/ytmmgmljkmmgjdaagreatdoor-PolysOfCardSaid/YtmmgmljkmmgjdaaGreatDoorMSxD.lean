import Derived.Deep.Cut
import Derived.Test.YtmmgmljkmmgjdaaGreatDoorMRbits
import Derived.Test.YtmmgmljkmmgjdaaGreatDoorMSx
import Derived.Test.YtmmgmljkmmgjdaaGreatDoorMTree
namespace Go.Proofs.YtmmgmljkmmgjdaaGreatDoor
set_option maxRecDepth 100000
open Go.RowKit
set_option linter.unusedSimpArgs false
set_option linter.unusedVariables false
attribute [local go_sem ↓] Go.wp_at_zero Go.wp_at_succ

abbrev gcs (P Q G H:Nat):Array Value:=#[.int .u64 (wd P 0),.int .u64 (wd P 1),.int .u64 (wd P 2),.int .u64 (wd P 3),.int .u64 (wd Q 0),.int .u64 (wd Q 1),.int .u64 (wd Q 2),.int .u64 (wd Q 3),.int .u64 (wd G 0),.int .u64 (wd G 1),.int .u64 (wd G 2),.int .u64 (wd G 3),.int .u64 (wd H 0),.int .u64 (wd H 1),.int .u64 (wd H 2),.int .u64 (wd H 3)]
abbrev acs (X Y:Nat):Array Value:=#[.int .u64 (wd X 0),.int .u64 (wd X 1),.int .u64 (wd X 2),.int .u64 (wd X 3),.int .u64 (wd Y 0),.int .u64 (wd Y 1),.int .u64 (wd Y 2),.int .u64 (wd Y 3)]
abbrev Jes (X:Nat):Array Value:=(ncs X)
abbrev rows2 (X Y:Nat):Array Value:=#[.int .u64 (wd X 0),.int .u64 (wd X 1),.int .u64 (wd X 2),.int .u64 (wd X 3),.int .u64 (wd Y 0),.int .u64 (wd Y 1),.int .u64 (wd Y 2),.int .u64 (wd Y 3)]
abbrev arr2 (X Y:Nat):Value:=.agg #[.int .u64 (wd X 0),.int .u64 (wd X 1),.int .u64 (wd X 2),.int .u64 (wd X 3),.int .u64 (wd Y 0),.int .u64 (wd Y 1),.int .u64 (wd Y 2),.int .u64 (wd Y 3)]
section
variable {x y z:Operand} {dst:Option Tmp} {ty:TypeId} {pos:String} {after:Array Edge} {guard:Option (Nat × Bool)} {ρ:Operand→Value} {w:World} {g o:Nat} {P:Program}
theorem Jb {v:Value} (hx:ρ x=v):(execOp ρ ⟨dst,.move x,ty,pos,after,guard⟩).run P w=.ok (.value v) w:=by simp only [execOp,hx];rfl
theorem Je {v:Value} (hx:ρ x=v):(execOp ρ ⟨dst,.assign x,ty,pos,after,guard⟩).run P w=.ok (.value v) w:=by simp only [execOp,hx];rfl
theorem Jk {us:Array Value} {j:Nat} {u:Value} (hx:ρ x=.tuple us) (hu:us[j]? = some u):(execOp ρ ⟨dst,.extract x j,ty,pos,after,guard⟩).run P w=.ok (.value u) w:=by simp [execOp,hx,go_sem,hu]
theorem Kc {b:Bool} {u v r:Value} (hx:ρ x=.bool b) (hy:ρ y=u) (hz:ρ z=v) (hr:(if b then u else v)=r):(execOp ρ ⟨dst,.pick x y z,ty,pos,after,guard⟩).run P w=.ok (.value r) w:=by
 subst hr
 cases b <;> simp [execOp,hx,hy,hz,go_sem]
theorem Uh {T:TypeId} {b r:Bool} (hx:ρ x=.bool b) (hr:(!b)=r):(execOp ρ ⟨dst,.unOp .not T x,ty,pos,after,guard⟩).run P w=.ok (.value (.bool r)) w:=by
 subst hr;simp [execOp,hx,go_sem]
theorem Jz {b:BinOp} {T T2:TypeId} {u v r:Value} (h:∀ ρ:Operand→Value,ρ x=u→ρ y=v→(execOp ρ ⟨dst,.binOp b T x y T2,ty,pos,after,guard⟩).run P w=.ok (.value r) w) (hx:ρ x=u) (hy:ρ y=v):(execOp ρ ⟨dst,.binOp b T x y T2,ty,pos,after,guard⟩).run P w=.ok (.value r) w:=h ρ hx hy
theorem Kw {X:Nat} (hx:ρ x=num X):(execOp ρ ⟨dst,.box 24 x,ty,pos,after,guard⟩).run Tryz.prog w=.ok (.value (.pointer (some ⟨w.heap.size,0,none⟩))) (w.alloc (.cells (ncs X) 24)):=by simp [execOp,hx,go_sem]
theorem Km {P Q G H:Nat} (hx:ρ x=grp P Q G H):(execOp ρ ⟨dst,.box 26 x,ty,pos,after,guard⟩).run Tryz.prog w=.ok (.value (.pointer (some ⟨w.heap.size,0,none⟩))) (w.alloc (.cells (gcs P Q G H) 26)):=by simp [execOp,hx,go_sem]
theorem Jw:(execOp ρ ⟨dst,.alloc 24,ty,pos,after,guard⟩).run Tryz.prog w=.ok (.value (.pointer (some ⟨w.heap.size,0,none⟩))) (w.alloc (.cells (ncs 0) 24)):=alloc_run _ ty pos after guard ρ w
theorem Ko {a:Option Addr} {l cap:Nat} (hx:ρ x=.slice a l cap):(execOp ρ ⟨dst,.call ⟨.builtin .len,#[x],#[27]⟩,ty,pos,after,guard⟩).run Tryz.prog w=.ok (.value (.int .i64 (l:Nat))) w:=by
 simp [execOp,hx,go_sem]
theorem Vl {X:Nat} (hx:ρ x=num X):(execOp ρ ⟨dst,.buildSlice 27 1 #[(0,x)],ty,pos,after,guard⟩).run Tryz.prog w=.ok (.value (.slice (some ⟨w.heap.size,0,none⟩) 1 1)) (w.alloc (.cells (Jes X) 24)):=by simp [execOp,hx,go_sem]
theorem Uc:(execOp ρ ⟨dst,.build 24 #[],ty,pos,after,guard⟩).run Tryz.prog w=.ok (.value (num 0)) w:=buildZ _ ty pos after guard ρ w
theorem Jp {X:Nat} (hx:ρ x=.pointer (some ⟨g,0,none⟩)) (h:At w g 24 (ncs X)):(execOp ρ ⟨dst,.load 24 x,ty,pos,after,guard⟩).run Tryz.prog w=.ok (.value (num X)) w:=Jec x _ ty pos after guard ρ w g _ _ _ _ hx h
theorem Js {P Q G H:Nat} (hx:ρ x=.pointer (some ⟨g,0,none⟩)) (h:At w g 26 (gcs P Q G H)):(execOp ρ ⟨dst,.load 26 x,ty,pos,after,guard⟩).run Tryz.prog w=.ok (.value (grp P Q G H)) w:=loadG x _ ty pos after guard ρ w g _ _ _ _ _ _ _ _ _ _ _ _ _ _ _ _ hx h
theorem Ug (hx:ρ x=.pointer (some ⟨g,0,none⟩)):(execOp ρ ⟨dst,.fieldAddr 26 x 1,ty,pos,after,guard⟩).run Tryz.prog w=.ok (.value (.pointer (some ⟨g,4,none⟩))) w:=fieldG1 x _ ty pos after guard ρ w g hx
theorem Ur {P Q G H:Nat} (hx:ρ x=.pointer (some ⟨g,4,none⟩)) (h:At w g 26 (gcs P Q G H)):(execOp ρ ⟨dst,.load 24 x,ty,pos,after,guard⟩).run Tryz.prog w=.ok (.value (num Q)) w:=loadG1 x _ ty pos after guard ρ w g _ _ _ _ _ _ _ _ _ _ _ _ _ _ _ _ hx h
theorem Jq {X:Nat} {u0 u1 u2 u3:Value} (hx:ρ x=.pointer (some ⟨g,0,none⟩)) (hy:ρ y=num X) (h:At w g 24 #[u0,u1,u2,u3]):(execOp ρ ⟨dst,.store 24 x y,ty,pos,after,guard⟩).run Tryz.prog w=.ok .skip (puts w g 0 [.int .u64 (wd X 0),.int .u64 (wd X 1),.int .u64 (wd X 2),.int .u64 (wd X 3)]):=
 store_run x y _ ty pos after guard ρ w g _ _ _ _ _ _ _ _ hx hy h
theorem Jcd {X Y:Nat} {b:Bool} (hX:X<2^256) (hY:Y<2^256) (hb:decide (X=Y)=b) (hx:ρ x=num X) (hy:ρ y=num Y):(execOp ρ ⟨dst,.binOp .eql 24 x y 24,ty,pos,after,guard⟩).run Tryz.prog w=.ok (.value (.bool b)) w:=
 eql_run b x y _ ty pos after guard _ _ _ _ _ _ _ _ (fun w=>by rw [← hb];exact eqN X Y hX hY w) ρ w hx hy
theorem o_neqN {X Y:Nat} {b:Bool} (hX:X<2^256) (hY:Y<2^256) (hb:decide (X=Y)=b) (hx:ρ x=num X) (hy:ρ y=num Y):(execOp ρ ⟨dst,.binOp .neq 24 x y 24,ty,pos,after,guard⟩).run Tryz.prog w=.ok (.value (.bool (!b))) w:=
 Jdg b x y dst ty pos after guard _ _ _ _ _ _ _ _ (fun w=>by rw [← hb];exact eqN X Y hX hY w) ρ w hx hy
theorem o_eqlS {X:Nat} (hx:ρ x=num X) (hy:ρ y=num X):(execOp ρ ⟨dst,.binOp .eql 24 x y 24,ty,pos,after,guard⟩).run Tryz.prog w=.ok (.value (.bool true)) w:=
 eql_run true x y _ ty pos after guard _ _ _ _ _ _ _ _ (eqY X) ρ w hx hy
theorem o_neqS {X:Nat} (hx:ρ x=num X) (hy:ρ y=num X):(execOp ρ ⟨dst,.binOp .neq 24 x y 24,ty,pos,after,guard⟩).run Tryz.prog w=.ok (.value (.bool false)) w:=
 Jdg true x y dst ty pos after guard _ _ _ _ _ _ _ _ (eqY X) ρ w hx hy
end
inductive VK
 | val (u:Value)
 | cell (t:TypeId) (cs:Array Value)
 | row (t:TypeId) (cs:Array Value) (l:Nat)
 | own (t:TypeId) (cs:Array Value) (l:Nat)
 | two (n:Nat) (q:Nat→Nat→World→Prop) (st:∀ g c w w',q g c w→Below w.heap.size w w'→q g c w')
structure VC where
 i:Nat
 d:Nat
 pre:List Nat
 k:VK
 pure:Bool
def Kind.row (t:TypeId) (cs:Array Value) (l:Nat):Kind:=⟨false,fun v w=>∃ g,v=.slice (some ⟨g,0,none⟩) l l∧At w g t cs,fun _ _ _ ⟨g,h1,h2⟩ hb=>⟨g,h1,h2.on hb⟩⟩
def Kind.own (b:Nat) (t:TypeId) (cs:Array Value) (l:Nat):Kind:=⟨false,fun v w=>∃ g,v=.slice (some ⟨g,0,none⟩) l l∧b≤g∧At w g t cs,fun _ _ _ ⟨g,h1,h0,h2⟩ hb=>⟨g,h1,h0,h2.on hb⟩⟩
def Kind.two (n:Nat) (q:Nat→Nat→World→Prop) (st:∀ g c w w',q g c w→Below w.heap.size w w'→q g c w'):Kind:=⟨false,fun v w=>∃ g c,v=.slice (some ⟨g,0,none⟩) n c∧q g c w,fun _ _ _ ⟨g,c,h1,h2⟩ hb=>⟨g,c,h1,st _ _ _ _ h2 hb⟩⟩
def VK.kind (b:Nat):VK→Kind
 | .two n q st=>Kind.two n q st
 | .own t cs l=>Kind.own b t cs l
 | .row t cs l=>Kind.row t cs l
 | .val u=>Kind.val u
 | .cell t cs=>Kind.cell b t cs
def VC.core (b:Nat) (c:VC):Core:=⟨c.i,c.d,c.pre,c.k.kind b,c.pure⟩
def Vs:List VC→Nat
 | []=>0
 | ⟨_,_,_,.val _,_⟩::T=>Vs T
 | ⟨_,_,_,.row _ _ _,_⟩::T=>Vs T
 | ⟨_,_,_,.own _ _ _,_⟩::T=>Vs T
 | ⟨_,_,_,.two _ _ _,_⟩::T=>Vs T
 | ⟨_,_,_,.cell _ _,_⟩::T=>Vs T+1
def Kf:List VC→Nat
 | []=>0
 | ⟨_,_,_,.val _,_⟩::T=>Kf T
 | ⟨_,_,_,.cell _ _,_⟩::T=>Kf T
 | ⟨_,_,_,.row _ _ _,_⟩::T=>Kf T+1
 | ⟨_,_,_,.own _ _ _,_⟩::T=>Kf T+1
 | ⟨_,_,_,.two _ _ _,_⟩::T=>Kf T+1+1
def Ub:List VC→List Nat→List Nat→List (Nat × Value)
 | [],_,_=>[]
 | ⟨_,d,_,.val u,_⟩::T,gs,rs=>(d,u)::Ub T gs rs
 | ⟨_,d,_,.cell _ _,_⟩::T,g::gs,rs=>(d,.pointer (some ⟨g,0,none⟩))::Ub T gs rs
 | ⟨_,d,_,.cell _ _,_⟩::T,[],rs=>(d,undef)::Ub T [] rs
 | ⟨_,d,_,.row _ _ l,_⟩::T,gs,r::rs=>(d,.slice (some ⟨r,0,none⟩) l l)::Ub T gs rs
 | ⟨_,d,_,.row _ _ _,_⟩::T,gs,[]=>(d,undef)::Ub T gs []
 | ⟨_,d,_,.own _ _ l,_⟩::T,gs,r::rs=>(d,.slice (some ⟨r,0,none⟩) l l)::Ub T gs rs
 | ⟨_,d,_,.own _ _ _,_⟩::T,gs,[]=>(d,undef)::Ub T gs []
 | ⟨_,d,_,.two n _ _,_⟩::T,gs,r::c::rs=>(d,.slice (some ⟨r,0,none⟩) n c)::Ub T gs rs
 | ⟨_,d,_,.two _ _ _,_⟩::T,gs,[_]=>(d,undef)::Ub T gs []
 | ⟨_,d,_,.two _ _ _,_⟩::T,gs,[]=>(d,undef)::Ub T gs []
def Up:List VC→List Nat→List (Nat × TypeId × Array Value)
 | [],_=>[]
 | ⟨_,_,_,.val _,_⟩::T,gs=>Up T gs
 | ⟨_,_,_,.row _ _ _,_⟩::T,gs=>Up T gs
 | ⟨_,_,_,.own _ _ _,_⟩::T,gs=>Up T gs
 | ⟨_,_,_,.two _ _ _,_⟩::T,gs=>Up T gs
 | ⟨_,_,_,.cell t cs,_⟩::T,g::gs=>(g,t,cs)::Up T gs
 | ⟨_,_,_,.cell _ _,_⟩::T,[]=>Up T []
theorem Uw:∀ (T:List VC) (gs rs:List Nat),(Ub T gs rs).map (·.1)=T.map (·.d)
 | [],_,_=>rfl
 | ⟨_,_,_,.val _,_⟩::T,gs,rs=>by simp [Ub,Uw T gs rs]
 | ⟨_,_,_,.cell _ _,_⟩::T,g::gs,rs=>by simp [Ub,Uw T gs rs]
 | ⟨_,_,_,.cell _ _,_⟩::T,[],rs=>by simp [Ub,Uw T [] rs]
 | ⟨_,_,_,.row _ _ _,_⟩::T,gs,r::rs=>by simp [Ub,Uw T gs rs]
 | ⟨_,_,_,.row _ _ _,_⟩::T,gs,[]=>by simp [Ub,Uw T gs []]
 | ⟨_,_,_,.own _ _ _,_⟩::T,gs,r::rs=>by simp [Ub,Uw T gs rs]
 | ⟨_,_,_,.own _ _ _,_⟩::T,gs,[]=>by simp [Ub,Uw T gs []]
 | ⟨_,_,_,.two _ _ _,_⟩::T,gs,r::c::rs=>by simp [Ub,Uw T gs rs]
 | ⟨_,_,_,.two _ _ _,_⟩::T,gs,[_]=>by simp [Ub,Uw T gs []]
 | ⟨_,_,_,.two _ _ _,_⟩::T,gs,[]=>by simp [Ub,Uw T gs []]
theorem Uk:∀ (T:List VC) (gs:List Nat) (x),x∈Up T gs→x.1∈gs
 | [],_,_,h=>by simp [Up] at h
 | ⟨_,_,_,.val _,_⟩::T,gs,x,h=>Uk T gs x (by simpa [Up] using h)
 | ⟨_,_,_,.row _ _ _,_⟩::T,gs,x,h=>Uk T gs x (by simpa [Up] using h)
 | ⟨_,_,_,.own _ _ _,_⟩::T,gs,x,h=>Uk T gs x (by simpa [Up] using h)
 | ⟨_,_,_,.two _ _ _,_⟩::T,gs,x,h=>Uk T gs x (by simpa [Up] using h)
 | ⟨_,_,_,.cell _ _,_⟩::T,g::gs,x,h=>by
  rcases List.mem_cons.1 (show x∈(g,_,_)::Up T gs from h) with rfl | h
  ·exact List.mem_cons_self
  ·exact List.mem_cons_of_mem _ (Uk T gs x h)
 | ⟨_,_,_,.cell _ _,_⟩::T,[],x,h=>Uk T [] x (by simpa [Up] using h)

def Jis (b:Nat) (w:World):List VC→List Value→Prop
 | [],[]=>True
 | c::T,v::vs=>(c.k.kind b).p v w∧((c.k.kind b).new=true→∀ (j:Nat) (d:VC),T[j]? = some d→(d.k.kind b).new=true→vs[j]?≠some v)∧Jis b w T vs
 | _,_=>False
theorem Jgy {b:Nat} {w:World}:∀ (T:List VC) (vs:List Value),vs.length=T.length→(∀ (k:Nat) (c:VC),T[k]? = some c→∃ v,vs[k]? = some v∧(c.k.kind b).p v w) →
  (∀ (k j:Nat) (c d:VC),T[k]? = some c→T[j]? = some d→(c.k.kind b).new=true→(d.k.kind b).new=true→k≠j→vs[k]?≠vs[j]?)→Jis b w T vs
 | [],[],_,_,_=>trivial
 | c::T,v::vs,hl,h1,h2=>by
  refine ⟨?_,fun hn j d hd hdn he=>?_,Jgy T vs (by simpa using hl) (fun k c hc=>?_) fun k j c d hc hd hcn hdn hne=>?_⟩
  ·obtain ⟨u,hu,hp⟩:=h1 0 c rfl
   simp at hu;subst hu;exact hp
  ·exact h2 0 (j+1) c d rfl (by simpa using hd) hn hdn (by omega) (by simp [he])
  ·obtain ⟨u,hu,hp⟩:=h1 (k+1) c (by simpa using hc)
   exact ⟨u,by simpa using hu,hp⟩
  ·have:=h2 (k+1) (j+1) c d (by simpa using hc) (by simpa using hd) hcn hdn (by omega)
   simpa using this
 | [],_::_,hl,_,_=>by simp at hl
 | _::_,[],hl,_,_=>by simp at hl
theorem Wj {b:Nat} {w:World}:∀ (T:List VC) (vs:List Value),Jis b w T vs→∃ gs rs:List Nat,gs.length=Vs T∧rs.length=Kf T∧vs=(Ub T gs rs).map (·.2)∧(∀ x∈Up T gs,At w x.1 x.2.1 x.2.2)∧(∀ g∈gs,b≤g) ∧
  gs.Nodup∧(∀ g∈gs,∃ (j:Nat) (d:VC),T[j]? = some d∧(d.k.kind b).new=true∧vs[j]? = some (.pointer (some ⟨g,0,none⟩)))
 | [],[],_=>⟨[],[],rfl,rfl,rfl,fun _ h=>(by cases h),fun _ h=>(by cases h),List.nodup_nil,fun _ h=>(by cases h)⟩
 | ⟨i,d,pre,.val u,p⟩::T,v::vs,⟨h1,_,h3⟩=>by
  obtain ⟨gs,rs,e1,e0,e2,e3,e4,e5,e6⟩:=Wj T vs h3
  have hv:v=u:=h1
  subst hv
  refine ⟨gs,rs,e1,e0,by simp [Ub,← e2],e3,e4,e5,fun g hg=>?_⟩
  obtain ⟨j,d',hd,hn,hv⟩:=e6 g hg
  exact ⟨j+1,d',by simpa using hd,hn,by simpa using hv⟩
 | ⟨i,d,pre,.row t cs l,p⟩::T,v::vs,⟨h1,_,h3⟩=>by
  obtain ⟨gs,rs,e1,e0,e2,e3,e4,e5,e6⟩:=Wj T vs h3
  obtain ⟨r,rfl,hat⟩:∃ g,v=.slice (some ⟨g,0,none⟩) l l∧At w g t cs:=h1
  refine ⟨gs,r::rs,e1,by simp [Kf,e0],by simp [Ub,← e2],e3,e4,e5,fun g hg=>?_⟩
  obtain ⟨j,d',hd,hn,hv⟩:=e6 g hg
  exact ⟨j+1,d',by simpa using hd,hn,by simpa using hv⟩
 | ⟨i,d,pre,.own t cs l,p⟩::T,v::vs,⟨h1,_,h3⟩=>by
  obtain ⟨gs,rs,e1,e0,e2,e3,e4,e5,e6⟩:=Wj T vs h3
  obtain ⟨r,rfl,_,hat⟩:∃ g,v=.slice (some ⟨g,0,none⟩) l l∧b≤g∧At w g t cs:=h1
  refine ⟨gs,r::rs,e1,by simp [Kf,e0],by simp [Ub,← e2],e3,e4,e5,fun g hg=>?_⟩
  obtain ⟨j,d',hd,hn,hv⟩:=e6 g hg
  exact ⟨j+1,d',by simpa using hd,hn,by simpa using hv⟩
 | ⟨i,d,pre,.two n q st,p⟩::T,v::vs,⟨h1,_,h3⟩=>by
  obtain ⟨gs,rs,e1,e0,e2,e3,e4,e5,e6⟩:=Wj T vs h3
  obtain ⟨r,c,rfl,hat⟩:∃ g c,v=.slice (some ⟨g,0,none⟩) n c∧q g c w:=h1
  refine ⟨gs,r::c::rs,e1,by simp [Kf,e0],by simp [Ub,← e2],e3,e4,e5,fun g hg=>?_⟩
  obtain ⟨j,d',hd,hn,hv⟩:=e6 g hg
  exact ⟨j+1,d',by simpa using hd,hn,by simpa using hv⟩
 | ⟨i,d,pre,.cell t cs,p⟩::T,v::vs,⟨h1,h2,h3⟩=>by
  obtain ⟨gs,rs,e1,e0,e2,e3,e4,e5,e6⟩:=Wj T vs h3
  obtain ⟨g,rfl,hb,hat⟩:∃ g,v=.pointer (some ⟨g,0,none⟩)∧b≤g∧At w g t cs:=h1
  refine ⟨g::gs,rs,by simp [Vs,e1],e0,by simp [Ub,← e2],fun x hx=>?_,fun x hx=>?_,?_,fun x hx=>?_⟩
  ·rcases List.mem_cons.1 (show x∈(g,t,cs)::Up T gs from hx) with rfl | hx
   ·exact hat
   ·exact e3 x hx
  ·rcases List.mem_cons.1 hx with rfl | hx
   ·exact hb
   ·exact e4 x hx
  ·refine List.nodup_cons.2 ⟨fun hg=>?_,e5⟩
   obtain ⟨j,d',hd,hn,hv⟩:=e6 g hg
   exact h2 rfl j d' hd hn hv
  ·rcases List.mem_cons.1 hx with rfl | hx
   ·exact ⟨0,_,rfl,rfl,rfl⟩
   ·obtain ⟨j,d',hd,hn,hv⟩:=e6 x hx
    exact ⟨j+1,d',by simpa using hd,hn,by simpa using hv⟩
 | [],_::_,h=>h.elim
 | _::_,[],h=>h.elim
theorem Vj:∀ (T:List VC) (gs:List Nat),gs.Nodup→((Up T gs).map (·.1)).Nodup
 | [],_,_=>by simp [Up]
 | ⟨_,_,_,.val _,_⟩::T,gs,h=>by simpa [Up] using Vj T gs h
 | ⟨_,_,_,.row _ _ _,_⟩::T,gs,h=>by simpa [Up] using Vj T gs h
 | ⟨_,_,_,.own _ _ _,_⟩::T,gs,h=>by simpa [Up] using Vj T gs h
 | ⟨_,_,_,.two _ _ _,_⟩::T,gs,h=>by simpa [Up] using Vj T gs h
 | ⟨_,_,_,.cell _ _,_⟩::T,g::gs,h=>by
  obtain ⟨h1,h2⟩:=List.nodup_cons.1 h
  show (g::(Up T gs).map (·.1)).Nodup
  refine List.nodup_cons.2 ⟨fun hg=>h1 ?_,Vj T gs h2⟩
  obtain ⟨x,hx,rfl⟩:=List.mem_map.1 hg
  exact Uk T gs x hx
 | ⟨_,_,_,.cell _ _,_⟩::T,[],h=>by simpa [Up] using Vj T [] h

section
variable {P:Program} {ops:Array Oper} {Q:Exit→Act→World→Prop} {a:Act} {n0:Nat} {w w0:World} {N:Nat} {L:List (Nat × Value)} {df:List Deferred} {M:List (Nat × TypeId × Array Value)}
theorem Jgx:∀ (R L:List (Nat × Value)) (s:Nat) (v:Value),lk (R++L) s=some v→lk R s=some v∨s ∉ R.map (·.1)
 | [],_,_,_,_=>Or.inr (by simp)
 | (d,u)::R,L,s,v,h=>by
  by_cases e:d=s
  ·subst e;simp [lk] at h;left;simp [lk,h]
  ·have e':Nat.beq d s=false:=Bool.eq_false_iff.2 fun h=>e (Nat.eq_of_beq_eq_true h)
   simp only [List.cons_append,lk,e',cond_false] at h
   rcases Jgx R L s v h with h | h
   ·left;simp [lk,e',h]
   ·right
    simp only [List.map_cons,List.mem_cons,not_or]
    exact ⟨fun h'=>e h'.symm,h⟩
theorem Jfw (T:List VC) (fuel:Nat) {id:Nat} (F:Fr a N L df) (H:Mem n0 w0 w M) (hm:P.follows .mixedOrders=true)
  (hN:(T.map (·.d)).all (fun d=>Nat.ble (d+1) N)=true) (hfuel:fuel+T.length=ops.size)
  (hok:Jhr .any ops (Array.replicate ops.size false) (T.map (·.i)) (T.map (·.pre)) (T.map (·.pure))=true) (hnd:(T.map (·.d)).Nodup)
  (hops:∀ c∈T.map (VC.core w.heap.size),∃ o,ops[c.i]? = some o∧o.dst=some c.d) (hsel:Region.noSelect ops=true)
  (hpure:∀ c∈T.map (VC.core w.heap.size),Vb P ops (fun w'=>Mem n0 w0 w' M) a w (T.map (VC.core w.heap.size)) c)
  (Jdj:∀ c∈T.map (VC.core w.heap.size),c.pure=false→Va P ops (NoPanic Q) a w (T.map (VC.core w.heap.size)) c)
  (hend:∀ gs rs a' w',gs.length=Vs T→rs.length=Kf T→Fr a' N (Ub T gs rs++L) df→Mem n0 w0 w' (Up T gs++M)→wpAnyH P .any ops (NoPanic Q) (fun w'=>Mem n0 w0 w' M) fuel (Jdo (Array.replicate ops.size false) (T.map (·.i)) (List.replicate T.length true)) a' w') :
  (Code.region id ops true).wp P Q a w:=by
 refine wp_region_noPanic ?_
 refine wp_region_held_drew (S:=fun w'=>Mem n0 w0 w' M) hm H.drew (fun _=>?_)
 have c1:(T.map (VC.core w.heap.size)).map (·.i)=T.map (·.i):=by simp [VC.core]
 have c2:(T.map (VC.core w.heap.size)).map (·.d)=T.map (·.d):=by simp [VC.core]
 have c3:(T.map (VC.core w.heap.size)).map (·.pre)=T.map (·.pre):=by simp [VC.core]
 have c4:(T.map (VC.core w.heap.size)).map (·.pure)=T.map (·.pure):=by simp [VC.core]
 have hE:=Jy (P:=P) (md:=.any) (ops:=ops) (Q:=NoPanic Q) (S:=fun w'=>Mem n0 w0 w' M) (T.map (VC.core w.heap.size)) (Array.replicate ops.size false) a w w.drew fuel (by rw [c2];exact F.all hN) (by rw [c1,c3,c4];exact hok) (by rw [c2];exact hnd) hops
  (fun _ hb=>H.on hb) (Below.refl _ _).drew hsel (fun _ _ _ _ _ h=>h) hpure Jdj ?_
 ·rw [List.length_map,hfuel] at hE
  exact hE
 ·intro vs w' hc
  rw [c1,c2,List.length_map]
  have hlay:=Jgy (b:=w.heap.size) (w:=w') T vs (by rw [hc.lv,List.length_map]) (fun k c hk=>hc.ok k (VC.core w.heap.size c) (by rw [List.getElem?_map,hk];rfl) (by rw [List.getElem?_replicate,if_pos (by simpa using (List.getElem?_eq_some_iff.1 hk).1)]))
   (fun k j c d hk hj hcn hdn hne=>hc.far k j (VC.core w.heap.size c) (VC.core w.heap.size d) (by rw [List.getElem?_map,hk];rfl) (by rw [List.getElem?_map,hj];rfl) hcn hdn hne (by rw [List.getElem?_replicate,if_pos (by simpa using (List.getElem?_eq_some_iff.1 hk).1)]) (by rw [List.getElem?_replicate,if_pos (by simpa using (List.getElem?_eq_some_iff.1 hj).1)]))
  obtain ⟨gs,rs,e1,e0,e2,e3,e4,e5,-⟩:=Wj T vs hlay
  have hM:=H.on hc.bel
  have hb:=Nat.le_trans H.le H.bel.size
  refine hend gs rs _ w' e1 e0 (F.over hnd hN (Ub T gs rs) (fun x hx=>?_) fun s v hs=>?_) ⟨hM.le,hM.bel,hM.oth,fun x hx=>?_,fun x hx=>?_,?_⟩
  ·obtain ⟨k,hk,rfl⟩:=List.getElem_of_mem hx
   refine ⟨k,?_,?_⟩
   ·rw [← Uw T gs rs,List.getElem?_map,List.getElem?_eq_getElem hk];rfl
   ·rw [e2,List.getElem?_map,List.getElem?_eq_getElem hk];rfl
  ·rcases Jgx _ _ _ _ hs with h | h
   ·exact Or.inl h
   ·right;rwa [Uw] at h
  ·rcases List.mem_append.1 hx with hx | hx
   ·exact e3 x hx
   ·exact hM.at_ x hx
  ·rcases List.mem_append.1 hx with hx | hx
   ·exact Nat.le_trans hb (e4 _ (Uk T gs x hx))
   ·exact hM.own x hx
  ·rw [List.map_append,List.nodup_append]
   refine ⟨Vj T gs e5,hM.nd,fun x hx y hy e=>?_⟩
   obtain ⟨z,hz,rfl⟩:=List.mem_map.1 hx
   obtain ⟨z',hz',rfl⟩:=List.mem_map.1 hy
   have h1:=e4 _ (Uk T gs z hz)
   have h2:=H.lt z' hz'
   omega
variable {S:World→Prop} {md:Region.Mode} {fuel i:Nat} {listed:Array Bool}
theorem Us {x:Operand} {d:Nat} {ty:TypeId} {pos:String} {after:Array Edge} {v:Value} (F:Fr a N L df) (hS:S w) (hr:Region.ready md ops listed=[i]) (ho:ops[i]? = some ⟨some d,.assign x,ty,pos,after,none⟩) (hd:Nat.blt d N=true) (hx:a.eval x=v)
  (h:∀ a',Fr a' N ((d,v)::L) df→wpAnyH P md ops Q S fuel (listed.setIfInBounds i true) a' w):wpAnyH P md ops Q S (fuel+1) listed a w:=
 Vd x d ty pos after v hr ho hx hS (h _ (F.put v hd))
theorem Kn {k g j:Nat} {o:Oper} {t:TypeId} {cs:Array Value} {vs:List Value} (H:Mem n0 w0 w M) (hr:Region.ready md ops listed=[i]) (ho:ops[i]? = some o) (hg:o.guard=none) (hdst:o.dst=none) (hk:M[k]? = some (g,t,cs))
  (hrun:(execOp a.eval o).run P w=.ok .skip (puts w g j vs)) {M2:List (Nat × TypeId × Array Value)} (hM2:M.set k (g,t,Jau cs j vs)=M2) (hS:∀ w',Mem n0 w0 w' M2→S w')
  (h:∀ w',Mem n0 w0 w' M2→wpAnyH P md ops Q S fuel (listed.setIfInBounds i true) a w'):wpAnyH P md ops Q S (fuel+1) listed a w:=by
 have hM:=Mem.puts vs H hk j
 rw [hM2] at hM
 refine Vm hr ho fun K hK=>Ky hg (Vf hrun ?_)
 rw [hdst]
 exact hK.out _ _ (hS _ hM) (h _ hM)
theorem Mem.tail {n0:Nat} {w0 w:World} {A M:List (Nat × TypeId × Array Value)} (H:Mem n0 w0 w (A++M)):Mem n0 w0 w M:=
 ⟨H.le,H.bel,H.oth,fun x hx=>H.at_ x (List.mem_append_right _ hx),fun x hx=>H.own x (List.mem_append_right _ hx),by have:=H.nd;rw [List.map_append] at this;exact (List.nodup_append.1 this).2.1⟩
theorem Ks (hr:Region.ready md ops listed=[]) (h:Q .normal a w):∀ fuel,wpAnyH P md ops (NoPanic Q) S fuel listed a w:=wpAnyH_done hr (NoPanic.normal h)
end
section
variable {P:Program} {ops:Array Oper} {Q:Exit→Act→World→Prop} {S:World→Prop} {a:Act} {W:World} {cores:List Core}
theorem Uu (c:Core) (op:Op) (n:Nat) (t:TypeId) (cs:Array Value) (ty:TypeId) (pos:String) (after:Array Edge)
  (ho:ops[c.i]? = some ⟨some c.d,op,ty,pos,after,none⟩) (hk:c.kind=Kind.cell n t cs) (hn:n≤W.heap.size)
  (hr:∀ (ρ:Operand→Value) (w:World),(execOp ρ ⟨some c.d,op,ty,pos,after,none⟩).run P w=.ok (.value (.pointer (some ⟨w.heap.size,0,none⟩))) (w.alloc (.cells cs t))):Va P ops Q a W cores c:=by
 intro vs w hl hb hp o ho' K hK
 rw [ho] at ho'
 obtain rfl:=Option.some.inj ho'
 refine Ky rfl (Kl (hr _ w) ?_)
 exact hK.out _ _ (Jd (Below.refl _ _) _) (by rw [hk];exact ⟨_,rfl,Nat.le_trans hn hb.size,At.new _ _ _⟩) (fun _=>⟨rfl,by simp⟩)
theorem core_row (c:Core) (op:Op) (t:TypeId) (cs:Array Value) (l:Nat) (ty:TypeId) (pos:String) (after:Array Edge)
  (ho:ops[c.i]? = some ⟨some c.d,op,ty,pos,after,none⟩) (hk:c.kind=Kind.row t cs l)
  (hr:∀ (ρ:Operand→Value) (w:World),(∀ (x:Operand) (v:Value),Vc a cores c.pre x v→ρ x=v)→(execOp ρ ⟨some c.d,op,ty,pos,after,none⟩).run P w=.ok (.value (.slice (some ⟨w.heap.size,0,none⟩) l l)) (w.alloc (.cells cs t))):Va P ops Q a W cores c:=by
 intro vs w hl hb hp o ho' K hK
 rw [ho] at ho'
 obtain rfl:=Option.some.inj ho'
 refine Ky rfl (Kl (hr _ w fun x v hx=>hx vs w hl hp) ?_)
 exact hK.out _ _ (Jd (Below.refl _ _) _) (by rw [hk];exact ⟨_,rfl,At.new _ _ _⟩) (fun h=>by rw [hk] at h;cases h)
theorem core_own (c:Core) (op:Op) (n:Nat) (t:TypeId) (cs:Array Value) (l:Nat) (ty:TypeId) (pos:String) (after:Array Edge)
  (ho:ops[c.i]? = some ⟨some c.d,op,ty,pos,after,none⟩) (hk:c.kind=Kind.own n t cs l) (hn:n≤W.heap.size)
  (hr:∀ (ρ:Operand→Value) (w:World),(∀ (x:Operand) (v:Value),Vc a cores c.pre x v→ρ x=v)→(execOp ρ ⟨some c.d,op,ty,pos,after,none⟩).run P w=.ok (.value (.slice (some ⟨w.heap.size,0,none⟩) l l)) (w.alloc (.cells cs t))):Va P ops Q a W cores c:=by
 intro vs w hl hb hp o ho' K hK
 rw [ho] at ho'
 obtain rfl:=Option.some.inj ho'
 refine Ky rfl (Kl (hr _ w fun x v hx=>hx vs w hl hp) ?_)
 exact hK.out _ _ (Jd (Below.refl _ _) _) (by rw [hk];exact ⟨_,rfl,Nat.le_trans hn hb.size,At.new _ _ _⟩) (fun h=>by rw [hk] at h;cases h)
theorem Wt (c:Core) (op:Op) (ty:TypeId) (pos:String) (after:Array Edge) (gd:Option (Nat × Bool)) (u:Value)
  (ho:ops[c.i]? = some ⟨some c.d,op,ty,pos,after,gd⟩) (hk:c.kind=Kind.val u) (hg:Jdm ops a cores c.pre gd true)
  (h:∀ (ρ:Operand→Value) (w:World),(∀ (x:Operand) (v:Value),Vc a cores c.pre x v→ρ x=v)→S w→(execOp ρ ⟨some c.d,op,ty,pos,after,gd⟩).run P w=.ok (.value u) w):Vb P ops S a W cores c:=
 Xd c _ ty pos after gd u ho hk hg fun vs w hl hp w' hS=>h _ w' (fun x v hx=>hx vs w hl hp) hS
theorem crS {c:Core} {op:Op} {ty:TypeId} {pos:String} {after:Array Edge} {gd:Option (Nat × Bool)} {u:Value} (h:∀ (ρ:Operand→Value) (w:World),(∀ (x:Operand) (v:Value),Vc a cores c.pre x v→ρ x=v)→S w→(execOp ρ ⟨some c.d,op,ty,pos,after,gd⟩).run P w=.ok (.value u) w)
    (ho:ops[c.i]? = some ⟨some c.d,op,ty,pos,after,gd⟩:=by rfl) (hk:c.kind=Kind.val u:=by rfl) (hg:Jdm ops a cores c.pre gd true:=by exact Jg):Vb P ops S a W cores c:=Wt c op ty pos after gd u ho hk hg h
end
theorem nl0 (gs:List Nat) (h:gs.length=0):gs=[]:=List.length_eq_zero_iff.1 h
theorem nl1 (gs:List Nat) (h:gs.length=1):∃ a,gs=[a]:=by
 match gs,h with
 | [a],_=>exact ⟨a,rfl⟩
theorem nl2 (gs:List Nat) (h:gs.length=2):∃ a b,gs=[a,b]:=by
 match gs,h with
 | [a,b],_=>exact ⟨a,b,rfl⟩
theorem nl3 (gs:List Nat) (h:gs.length=3):∃ a b c,gs=[a,b,c]:=by
 match gs,h with
 | [a,b,c],_=>exact ⟨a,b,c,rfl⟩
end Go.Proofs.YtmmgmljkmmgjdaaGreatDoor
