/-
 Tallies,bound methods,slices of numbers,and regions in more than one stretch.
-/
import Derived.Deep.Cut
import Derived.Deep.MidRow
import Derived.Test.YtlphnfajhpkleaaDoorMApp
import Derived.Test.YtlphnfajhpkleaaDoorMPm
import Derived.Test.YtlphnfajhpkleaaDoorMSmall
namespace Go.Proofs.YtlphnfajhpkleaaDoor
set_option maxRecDepth 100000
open Go.RowKit
set_option linter.unusedSimpArgs false
set_option linter.unusedVariables false
attribute [local go_sem ↓] Go.wp_at_zero Go.wp_at_succ

abbrev tal (P Q G H N:Nat):Value:=.agg #[.int .u64 (wd P 0:Nat),.int .u64 (wd P 1:Nat),.int .u64 (wd P 2:Nat),.int .u64 (wd P 3:Nat),.int .u64 (wd Q 0:Nat),.int .u64 (wd Q 1:Nat),.int .u64 (wd Q 2:Nat),.int .u64 (wd Q 3:Nat),.int .u64 (wd G 0:Nat),.int .u64 (wd G 1:Nat),.int .u64 (wd G 2:Nat),.int .u64 (wd G 3:Nat),.int .u64 (wd H 0:Nat),.int .u64 (wd H 1:Nat),.int .u64 (wd H 2:Nat),.int .u64 (wd H 3:Nat),.int .u64 (wd N 0:Nat),.int .u64 (wd N 1:Nat),.int .u64 (wd N 2:Nat),.int .u64 (wd N 3:Nat)]
abbrev tcs (P Q G H N:Nat):Array Value:=#[.int .u64 (wd P 0:Nat),.int .u64 (wd P 1:Nat),.int .u64 (wd P 2:Nat),.int .u64 (wd P 3:Nat),.int .u64 (wd Q 0:Nat),.int .u64 (wd Q 1:Nat),.int .u64 (wd Q 2:Nat),.int .u64 (wd Q 3:Nat),.int .u64 (wd G 0:Nat),.int .u64 (wd G 1:Nat),.int .u64 (wd G 2:Nat),.int .u64 (wd G 3:Nat),.int .u64 (wd H 0:Nat),.int .u64 (wd H 1:Nat),.int .u64 (wd H 2:Nat),.int .u64 (wd H 3:Nat),.int .u64 (wd N 0:Nat),.int .u64 (wd N 1:Nat),.int .u64 (wd N 2:Nat),.int .u64 (wd N 3:Nat)]
def C4 (w:World) (g o X:Nat):Prop:=w.cell? ⟨g,o,none⟩=some (.int .u64 (wd X 0:Nat))∧w.cell? ⟨g,o+1,none⟩=some (.int .u64 (wd X 1:Nat))∧w.cell? ⟨g,o+2,none⟩=some (.int .u64 (wd X 2:Nat))∧w.cell? ⟨g,o+3,none⟩=some (.int .u64 (wd X 3:Nat))
section
variable {x y z:Operand} {dst:Option Tmp} {ty:TypeId} {pos:String} {after:Array Edge} {guard:Option (Nat × Bool)} {ρ:Operand→Value} {w:World} {g o:Nat} {P:Program}
theorem o_idxN {i l cap:Nat} (hi:i<l) (hx:ρ x=.slice (some ⟨g,o,none⟩) l cap) (hy:ρ y=.int .i64 (i:Nat)):(execOp ρ ⟨dst,.indexAddr 47 x y,ty,pos,after,guard⟩).run Tryd.prog w=.ok (.value (.pointer (some ⟨g,o+i*4,none⟩))) w:=by
 have h1:(i:Int)<(l:Int):=by omega
 simp [execOp,hx,hy,go_sem,h1]
theorem o_loadC {X:Nat} (hx:ρ x=.pointer (some ⟨g,o,none⟩)) (h:C4 w g o X):(execOp ρ ⟨dst,.load 24 x,ty,pos,after,guard⟩).run Tryd.prog w=.ok (.value (num X)) w:=by
 obtain ⟨h0,h1,h2,h3⟩:=h
 simp [execOp,hx,go_sem,h0,h1,h2,h3]
end
/-- a slice of numbers,to be read -/
def RS (w:World) (a:Option Addr) (n cap:Nat) (xs:List Nat):Prop:=xs.length=n∧NSl w.heap.size w a cap xs
theorem NSl.up {n n':Nat} {w:World} {a:Option Addr} {cap:Nat} {xs:List Nat} (h:NSl n w a cap xs) (hn:n≤n'):NSl n' w a cap xs:=
 ⟨h.1,h.2.1,h.2.2.1,h.2.2.2.imp id fun ⟨g,o,ha,hg,hc⟩=>⟨g,o,ha,Nat.lt_of_lt_of_le hg hn,hc⟩⟩
theorem RS.on {w w':World} {a:Option Addr} {n cap:Nat} {xs:List Nat} (h:RS w a n cap xs) (hb:Below w.heap.size w w'):RS w' a n cap xs:=⟨h.1,(h.2.below hb).up hb.size⟩
theorem RS.lt {w:World} {a:Option Addr} {n cap:Nat} {xs:List Nat} (h:RS w a n cap xs):∀ x∈xs,x<2^256:=h.2.2.2.1
theorem RS.nil (w:World):RS w none 0 0 []:=⟨rfl,Nat.le_refl _,by decide,fun _ h=>(by cases h),Or.inl rfl⟩
theorem RS.get {w:World} {a:Option Addr} {n cap:Nat} {xs:List Nat} (h:RS w a n cap xs) {i:Nat} (hi:i<n):∃ g o x,a=some ⟨g,o,none⟩∧xs[i]? = some x∧x<2^256∧∀ u,Below w.heap.size w u→C4 u g (o+i*4) x:=by
 have hl:i<xs.length:=by rw [h.1];exact hi
 obtain ⟨g,o,ha,hg,h0,h1,h2,h3⟩:=h.2.get hl rfl
 exact ⟨g,o,xs[i],ha,List.getElem?_eq_getElem hl,h.lt _ (List.getElem_mem hl),fun u hb=>⟨(hb.cell (p:=⟨g,o+i*4,none⟩) hg).trans h0,(hb.cell (p:=⟨g,o+i*4+1,none⟩) hg).trans h1,(hb.cell (p:=⟨g,o+i*4+2,none⟩) hg).trans h2,(hb.cell (p:=⟨g,o+i*4+3,none⟩) hg).trans h3⟩⟩
/-- a row's first cells are these numbers -/
def Pf (cs:Array Value) (xs:List Nat):Prop:=xs.length*4≤cs.size∧∀ i (h:i<xs.length) k,k<4→cs[i*4+k]? = some (.int .u64 (wd xs[i] k:Nat))
theorem Pf.flat (xs:List Nat):Pf (flat xs).toArray xs:=⟨by simp [flat_len],fun i h k hk=>by rw [List.getElem?_toArray];exact flat_get xs i h k hk⟩
theorem Pf.one (X:Nat):Pf (rows1 X) [X]:=⟨Nat.le_refl 4,fun i h k hk=>by
 obtain rfl:i=0:=by simpa using h
 match k,hk with
 | 0,_=>rfl
 | 1,_=>rfl
 | 2,_=>rfl
 | 3,_=>rfl⟩
theorem Pf.rs {w:World} {g n cap:Nat} {t:TypeId} {cs:Array Value} {xs:List Nat} (h:Pf cs xs) (hat:At w g t cs) (hn:n≤xs.length) (hc:n≤cap) (hcap:cap≤9223372036854775807) (hx:∀ x∈xs,x<2^256):RS w (some ⟨g,0,none⟩) n cap (xs.take n):=by
 have hl:(xs.take n).length=n:=by rw [List.length_take];omega
 refine ⟨hl,by rw [hl];exact hc,hcap,fun x hx'=>hx x (List.mem_of_mem_take hx'),Or.inr ⟨g,0,rfl,hat.lt,fun i hi k hk=>?_⟩⟩
 rw [List.getElem_take,Nat.zero_add,hat.cell]
 exact h.2 i (by omega) k hk
theorem Pf.c4 {w:World} {g:Nat} {t:TypeId} {cs:Array Value} {xs:List Nat} (h:Pf cs xs) (hat:At w g t cs) {i x:Nat} (hi:xs[i]? = some x):C4 w g (0+i*4) x:=by
 obtain ⟨hl,rfl⟩:=List.getElem?_eq_some_iff.1 hi
 rw [Nat.zero_add]
 exact ⟨(hat.cell _).trans (by simpa using h.2 i hl 0 (by decide)),(hat.cell _).trans (h.2 i hl 1 (by decide)),(hat.cell _).trans (h.2 i hl 2 (by decide)),(hat.cell _).trans (h.2 i hl 3 (by decide))⟩
theorem Pf.room {cs:Array Value} {xs:List Nat} (h:Pf cs xs) {i:Nat} (hi:i<xs.length):0+i*4+3<cs.size:=by have:=h.1;omega
theorem sets4get (cs:Array Value) (o:Nat) (a b c d:Value) (ho:o+3<cs.size) (j:Nat):(sets cs o [a,b,c,d])[j]? = if j=o then some a else if j=o+1 then some b else if j=o+2 then some c else if j=o+3 then some d else cs[j]?:=by
 simp only [sets,Array.getElem?_setIfInBounds]
 have h0:o<cs.size:=by omega
 have h1:o+1<cs.size:=by omega
 have h2:o+2<cs.size:=by omega
 by_cases e3:o+1+1+1=j
 ·subst e3;simp [ho,Nat.add_assoc]
 by_cases e2:o+1+1=j
 ·subst e2;simp [h2,Nat.add_assoc]
 by_cases e1:o+1=j
 ·subst e1;simp [h1,Nat.add_assoc]
 by_cases e0:o=j
 ·subst e0;rw [if_neg e3,if_neg e2,if_neg e1,if_pos rfl,if_pos h0,if_pos rfl]
 rw [if_neg (by omega),if_neg (by omega),if_neg (by omega),if_neg (by omega),if_neg (by omega),if_neg (by omega),if_neg (by omega),if_neg (by omega)]
theorem sets4size (cs:Array Value) (o:Nat) (a b c d:Value):(sets cs o [a,b,c,d]).size=cs.size:=by simp [sets]
theorem Pf.set {cs:Array Value} {xs:List Nat} (h:Pf cs xs) {i:Nat} (hi:i<xs.length) (V:Nat):Pf (sets cs (0+i*4) [.int .u64 (wd V 0:Nat),.int .u64 (wd V 1:Nat),.int .u64 (wd V 2:Nat),.int .u64 (wd V 3:Nat)]) (xs.set i V):=by
 have hr:=h.room hi
 refine ⟨by rw [List.length_set,sets4size];exact h.1,fun j hj k hk=>?_⟩
 rw [List.length_set] at hj
 rw [sets4get _ _ _ _ _ _ hr,List.getElem_set]
 by_cases e:i=j
 ·subst e
  rw [if_pos rfl]
  match k,hk with
  | 0,_=>rw [if_pos (by omega)]
  | 1,_=>rw [if_neg (by omega),if_pos (by omega)]
  | 2,_=>rw [if_neg (by omega),if_neg (by omega),if_pos (by omega)]
  | 3,_=>rw [if_neg (by omega),if_neg (by omega),if_neg (by omega),if_pos (by omega)]
 ·rw [if_neg e,if_neg (by omega),if_neg (by omega),if_neg (by omega),if_neg (by omega)]
  exact h.2 j hj k hk
/-- the rows that come up -/
def rowsAt:List VC→List Nat→List (Nat × TypeId × Array Value)
 | [],_=>[]
 | ⟨_,_,_,.val _,_⟩::T,rs=>rowsAt T rs
 | ⟨_,_,_,.cell _ _,_⟩::T,rs=>rowsAt T rs
 | ⟨_,_,_,.row t cs _,_⟩::T,r::rs=>(r,t,cs)::rowsAt T rs
 | ⟨_,_,_,.row _ _ _,_⟩::T,[]=>rowsAt T []
 | ⟨_,_,_,.own t cs _,_⟩::T,r::rs=>(r,t,cs)::rowsAt T rs
 | ⟨_,_,_,.own _ _ _,_⟩::T,[]=>rowsAt T []
 | ⟨_,_,_,.two _ _ _,_⟩::T,_::_::rs=>rowsAt T rs
 | ⟨_,_,_,.two _ _ _,_⟩::T,_=>rowsAt T []
 | ⟨_,_,_,.clo _ _ _,_⟩::T,_::rs=>rowsAt T rs
 | ⟨_,_,_,.clo _ _ _,_⟩::T,[]=>rowsAt T []
/-- those that were not there ahead -/
def ownOf:List VC→List Nat→List Nat
 | [],_=>[]
 | ⟨_,_,_,.val _,_⟩::T,rs=>ownOf T rs
 | ⟨_,_,_,.cell _ _,_⟩::T,rs=>ownOf T rs
 | ⟨_,_,_,.row _ _ _,_⟩::T,_::rs=>ownOf T rs
 | ⟨_,_,_,.row _ _ _,_⟩::T,[]=>ownOf T []
 | ⟨_,_,_,.own _ _ _,_⟩::T,r::rs=>r::ownOf T rs
 | ⟨_,_,_,.own _ _ _,_⟩::T,[]=>ownOf T []
 | ⟨_,_,_,.two _ _ _,_⟩::T,_::_::rs=>ownOf T rs
 | ⟨_,_,_,.two _ _ _,_⟩::T,_=>ownOf T []
 | ⟨_,_,_,.clo _ _ _,_⟩::T,_::rs=>ownOf T rs
 | ⟨_,_,_,.clo _ _ _,_⟩::T,[]=>ownOf T []
/-- what is told of such slices -/
def twosAt (w:World):List VC→List Nat→Prop
 | [],_=>True
 | ⟨_,_,_,.val _,_⟩::T,rs=>twosAt w T rs
 | ⟨_,_,_,.cell _ _,_⟩::T,rs=>twosAt w T rs
 | ⟨_,_,_,.row _ _ _,_⟩::T,_::rs=>twosAt w T rs
 | ⟨_,_,_,.row _ _ _,_⟩::T,[]=>twosAt w T []
 | ⟨_,_,_,.own _ _ _,_⟩::T,_::rs=>twosAt w T rs
 | ⟨_,_,_,.own _ _ _,_⟩::T,[]=>twosAt w T []
 | ⟨_,_,_,.two _ q _,_⟩::T,r::c::rs=>q r c w∧twosAt w T rs
 | ⟨_,_,_,.two _ _ _,_⟩::T,_=>twosAt w T []
 | ⟨_,_,_,.clo _ q _,_⟩::T,r::rs=>q r w∧twosAt w T rs
 | ⟨_,_,_,.clo _ _ _,_⟩::T,[]=>twosAt w T []
theorem rowsAt_of {b:Nat} {w:World}:∀ (T:List VC) (vs:List Value) (gs rs:List Nat),LayT b w T vs→vs=(slots T gs rs).map (·.2)→rs.length=rowsOfT T→∀ x∈rowsAt T rs,At w x.1 x.2.1 x.2.2
 | [],[],_,_,_,_,_,x,hx=>by simp [rowsAt] at hx
 | ⟨_,_,_,.val _,_⟩::T,v::vs,gs,rs,⟨_,_,h3⟩,e,hr,x,hx=>rowsAt_of T vs gs rs h3 (by simp [slots] at e;exact e.2) (by simpa [rowsOfT] using hr) x (by simpa [rowsAt] using hx)
 | ⟨_,_,_,.cell _ _,_⟩::T,v::vs,g::gs,rs,⟨_,_,h3⟩,e,hr,x,hx=>rowsAt_of T vs gs rs h3 (by simp [slots] at e;exact e.2) (by simpa [rowsOfT] using hr) x (by simpa [rowsAt] using hx)
 | ⟨_,_,_,.cell _ _,_⟩::T,v::vs,[],rs,⟨_,_,h3⟩,e,hr,x,hx=>rowsAt_of T vs [] rs h3 (by simp [slots] at e;exact e.2) (by simpa [rowsOfT] using hr) x (by simpa [rowsAt] using hx)
 | ⟨_,_,_,.row t cs l,_⟩::T,v::vs,gs,r::rs,⟨h1,_,h3⟩,e,hr,x,hx=>by
  simp [slots] at e
  rcases List.mem_cons.1 (show x∈(r,t,cs)::rowsAt T rs from hx) with rfl | hx
  ·obtain ⟨g,hv,hat⟩:∃ g,v=.slice (some ⟨g,0,none⟩) l l∧At w g t cs:=h1
   rw [e.1] at hv
   cases hv
   exact hat
  ·exact rowsAt_of T vs gs rs h3 e.2 (by simpa [rowsOfT] using hr) x hx
 | ⟨_,_,_,.row t cs l,_⟩::T,v::vs,gs,[],_,_,hr,x,hx=>by simp [rowsOfT] at hr
 | ⟨_,_,_,.own t cs l,_⟩::T,v::vs,gs,r::rs,⟨h1,_,h3⟩,e,hr,x,hx=>by
  simp [slots] at e
  rcases List.mem_cons.1 (show x∈(r,t,cs)::rowsAt T rs from hx) with rfl | hx
  ·obtain ⟨g,hv,_,hat⟩:∃ g,v=.slice (some ⟨g,0,none⟩) l l∧b≤g∧At w g t cs:=h1
   rw [e.1] at hv
   cases hv
   exact hat
  ·exact rowsAt_of T vs gs rs h3 e.2 (by simpa [rowsOfT] using hr) x hx
 | ⟨_,_,_,.own t cs l,_⟩::T,v::vs,gs,[],_,_,hr,x,hx=>by simp [rowsOfT] at hr
 | ⟨_,_,_,.two n q st,_⟩::T,v::vs,gs,r::c::rs,⟨h1,_,h3⟩,e,hr,x,hx=>rowsAt_of T vs gs rs h3 (by simp [slots] at e;exact e.2) (by simpa [rowsOfT] using hr) x (by simpa [rowsAt] using hx)
 | ⟨_,_,_,.two n q st,_⟩::T,v::vs,gs,[_],_,_,hr,x,hx=>by simp [rowsOfT] at hr
 | ⟨_,_,_,.two n q st,_⟩::T,v::vs,gs,[],_,_,hr,x,hx=>by simp [rowsOfT] at hr
 | ⟨_,_,_,.clo mk q st,_⟩::T,v::vs,gs,r::rs,⟨_,_,h3⟩,e,hr,x,hx=>rowsAt_of T vs gs rs h3 (by simp [slots] at e;exact e.2) (by simpa [rowsOfT] using hr) x (by simpa [rowsAt] using hx)
 | ⟨_,_,_,.clo mk q st,_⟩::T,v::vs,gs,[],_,_,hr,x,hx=>by simp [rowsOfT] at hr
 | [],_::_,_,_,h,_,_,_,_=>h.elim
 | _::_,[],_,_,h,_,_,_,_=>h.elim
theorem ownOf_of {b:Nat} {w:World}:∀ (T:List VC) (vs:List Value) (gs rs:List Nat),LayT b w T vs→vs=(slots T gs rs).map (·.2)→rs.length=rowsOfT T→∀ x∈ownOf T rs,b≤x
 | [],[],_,_,_,_,_,x,hx=>by simp [ownOf] at hx
 | ⟨_,_,_,.val _,_⟩::T,v::vs,gs,rs,⟨_,_,h3⟩,e,hr,x,hx=>ownOf_of T vs gs rs h3 (by simp [slots] at e;exact e.2) (by simpa [rowsOfT] using hr) x (by simpa [ownOf] using hx)
 | ⟨_,_,_,.cell _ _,_⟩::T,v::vs,g::gs,rs,⟨_,_,h3⟩,e,hr,x,hx=>ownOf_of T vs gs rs h3 (by simp [slots] at e;exact e.2) (by simpa [rowsOfT] using hr) x (by simpa [ownOf] using hx)
 | ⟨_,_,_,.cell _ _,_⟩::T,v::vs,[],rs,⟨_,_,h3⟩,e,hr,x,hx=>ownOf_of T vs [] rs h3 (by simp [slots] at e;exact e.2) (by simpa [rowsOfT] using hr) x (by simpa [ownOf] using hx)
 | ⟨_,_,_,.row t cs l,_⟩::T,v::vs,gs,r::rs,⟨_,_,h3⟩,e,hr,x,hx=>ownOf_of T vs gs rs h3 (by simp [slots] at e;exact e.2) (by simpa [rowsOfT] using hr) x (by simpa [ownOf] using hx)
 | ⟨_,_,_,.row t cs l,_⟩::T,v::vs,gs,[],_,_,hr,x,hx=>by simp [rowsOfT] at hr
 | ⟨_,_,_,.own t cs l,_⟩::T,v::vs,gs,r::rs,⟨h1,_,h3⟩,e,hr,x,hx=>by
  simp [slots] at e
  rcases List.mem_cons.1 (show x∈r::ownOf T rs from hx) with rfl | hx
  ·obtain ⟨g,hv,hat,_⟩:∃ g,v=.slice (some ⟨g,0,none⟩) l l∧b≤g∧At w g t cs:=h1
   rw [e.1] at hv
   cases hv
   exact hat
  ·exact ownOf_of T vs gs rs h3 e.2 (by simpa [rowsOfT] using hr) x hx
 | ⟨_,_,_,.own t cs l,_⟩::T,v::vs,gs,[],_,_,hr,x,hx=>by simp [rowsOfT] at hr
 | ⟨_,_,_,.two n q st,_⟩::T,v::vs,gs,r::c::rs,⟨h1,_,h3⟩,e,hr,x,hx=>ownOf_of T vs gs rs h3 (by simp [slots] at e;exact e.2) (by simpa [rowsOfT] using hr) x (by simpa [ownOf] using hx)
 | ⟨_,_,_,.two n q st,_⟩::T,v::vs,gs,[_],_,_,hr,x,hx=>by simp [rowsOfT] at hr
 | ⟨_,_,_,.two n q st,_⟩::T,v::vs,gs,[],_,_,hr,x,hx=>by simp [rowsOfT] at hr
 | ⟨_,_,_,.clo mk q st,_⟩::T,v::vs,gs,r::rs,⟨_,_,h3⟩,e,hr,x,hx=>ownOf_of T vs gs rs h3 (by simp [slots] at e;exact e.2) (by simpa [rowsOfT] using hr) x (by simpa [ownOf] using hx)
 | ⟨_,_,_,.clo mk q st,_⟩::T,v::vs,gs,[],_,_,hr,x,hx=>by simp [rowsOfT] at hr
 | [],_::_,_,_,h,_,_,_,_=>h.elim
 | _::_,[],_,_,h,_,_,_,_=>h.elim
theorem twosAt_of {b:Nat} {w:World}:∀ (T:List VC) (vs:List Value) (gs rs:List Nat),LayT b w T vs→vs=(slots T gs rs).map (·.2)→rs.length=rowsOfT T→twosAt w T rs
 | [],[],_,_,_,_,_=>trivial
 | ⟨_,_,_,.val _,_⟩::T,v::vs,gs,rs,⟨_,_,h3⟩,e,hr=>twosAt_of T vs gs rs h3 (by simp [slots] at e;exact e.2) (by simpa [rowsOfT] using hr)
 | ⟨_,_,_,.cell _ _,_⟩::T,v::vs,g::gs,rs,⟨_,_,h3⟩,e,hr=>twosAt_of T vs gs rs h3 (by simp [slots] at e;exact e.2) (by simpa [rowsOfT] using hr)
 | ⟨_,_,_,.cell _ _,_⟩::T,v::vs,[],rs,⟨_,_,h3⟩,e,hr=>twosAt_of T vs [] rs h3 (by simp [slots] at e;exact e.2) (by simpa [rowsOfT] using hr)
 | ⟨_,_,_,.row t cs l,_⟩::T,v::vs,gs,r::rs,⟨_,_,h3⟩,e,hr=>twosAt_of T vs gs rs h3 (by simp [slots] at e;exact e.2) (by simpa [rowsOfT] using hr)
 | ⟨_,_,_,.row t cs l,_⟩::T,v::vs,gs,[],_,_,hr=>by simp [rowsOfT] at hr
 | ⟨_,_,_,.own t cs l,_⟩::T,v::vs,gs,r::rs,⟨_,_,h3⟩,e,hr=>twosAt_of T vs gs rs h3 (by simp [slots] at e;exact e.2) (by simpa [rowsOfT] using hr)
 | ⟨_,_,_,.own t cs l,_⟩::T,v::vs,gs,[],_,_,hr=>by simp [rowsOfT] at hr
 | ⟨_,_,_,.two n q st,_⟩::T,v::vs,gs,r::c::rs,⟨h1,_,h3⟩,e,hr=>by
  simp [slots] at e
  refine ⟨?_,twosAt_of T vs gs rs h3 e.2 (by simpa [rowsOfT] using hr)⟩
  obtain ⟨g,cc,hv,hq⟩:∃ g c,v=.slice (some ⟨g,0,none⟩) n c∧q g c w:=h1
  rw [e.1] at hv
  cases hv
  exact hq
 | ⟨_,_,_,.two n q st,_⟩::T,v::vs,gs,[_],_,_,hr=>by simp [rowsOfT] at hr
 | ⟨_,_,_,.two n q st,_⟩::T,v::vs,gs,[],_,_,hr=>by simp [rowsOfT] at hr
 | ⟨_,_,_,.clo mk q st,_⟩::T,v::vs,gs,r::rs,⟨h1,_,h3⟩,e,hr=>by
  have e':v::vs=mk r::(slots T gs rs).map (·.2):=e
  refine ⟨?_,twosAt_of T vs gs rs h3 (List.cons.inj e').2 (by simpa [rowsOfT] using hr)⟩
  obtain ⟨g,hv,hq⟩:∃ g,v=mk g∧q g w:=h1
  rw [(List.cons.inj e').1] at hv
  rw [st.1 _ _ hv]
  exact hq
 | ⟨_,_,_,.clo mk q st,_⟩::T,v::vs,gs,[],_,_,hr=>by simp [rowsOfT] at hr
 | [],_::_,_,_,h,_,_=>h.elim
 | _::_,[],_,_,h,_,_=>h.elim
/-- some of the blocks of one's own -/
theorem Mem.pick {n0:Nat} {w0 w:World} {M M2:List (Nat × TypeId × Array Value)} (H:Mem n0 w0 w M) (h:∀ x∈M2,x∈M) (hn:(M2.map (·.1)).Nodup):Mem n0 w0 w M2:=⟨H.le,H.bel,H.oth,fun x hx=>H.at_ x (h x hx),fun x hx=>H.own x (h x hx),hn⟩
theorem Mem.subl {n0:Nat} {w0 w:World} {M M2:List (Nat × TypeId × Array Value)} (H:Mem n0 w0 w M) (h:M2.Sublist M):Mem n0 w0 w M2:=H.pick (fun _ hx=>h.subset hx) ((h.map _).nodup H.nd)
theorem Mem.drop {n0:Nat} {w0 w:World} {M:List (Nat × TypeId × Array Value)} (k:Nat) (H:Mem n0 w0 w M):Mem n0 w0 w (M.drop k):=H.subl (List.drop_sublist k M)
theorem Mem.erase {n0:Nat} {w0 w:World} {M M2:List (Nat × TypeId × Array Value)} (H:Mem n0 w0 w M) (k:Nat) (hM:M.eraseIdx k=M2):Mem n0 w0 w M2:=by subst hM;exact H.subl (List.eraseIdx_sublist M k)
theorem Mem.again {n0:Nat} {w0 w:World} {M:List (Nat × TypeId × Array Value)} (H:Mem n0 w0 w M):Mem n0 w w M:=⟨Nat.le_trans H.le H.bel.size,Below.refl _ _,KeepsOthers.refl _,H.at_,H.own,H.nd⟩
theorem Mem.join {n0:Nat} {w0 w w':World} {M M':List (Nat × TypeId × Array Value)} (H:Mem n0 w0 w M) (K:Mem n0 w w' M'):Mem n0 w0 w' M':=⟨H.le,H.bel.trans K.bel,H.oth.trans K.oth,K.at_,K.own,K.nd⟩
section
variable {P:Program} {ops:Array Oper} {Q:Exit→Act→World→Prop} {a:Act} {n0:Nat} {w w0:World} {rest:List Oper} {o:Oper} {N:Nat} {L:List (Nat × Value)} {df:List Deferred} {M:List (Nat × TypeId × Array Value)} {S:World→Prop} {fuel i:Nat} {listed:Array Bool}
/-- the same,as a block of one's own -/
theorem lx_rowM {d l:Nat} {cs:Array Value} {t:TypeId} (F:Fr a N L df) (H:Mem n0 w0 w M) (hw:Region.wanted o (yielded ops a.tmps)=true) (hdst:o.dst=some d) (hd:Nat.blt d N=true)
  (hr:(execOp a.eval o).run P w=.ok (.value (.slice (some ⟨w.heap.size,0,none⟩) l l)) (w.alloc (.cells cs t)))
  (h:∀ a' w' g,Fr a' N ((d,.slice (some ⟨g,0,none⟩) l l)::L) df→Mem n0 w0 w' ((g,t,cs)::M)→wpList P ops Q rest a' w'):wpList P ops Q (o::rest) a w:=
 lx_value F hw hdst hd hr fun a' F'=>h a' _ _ F' (H.new cs t)
/-- a region that draws its order is entered -/
theorem sx_enterR {id:Nat} (H:Mem n0 w0 w M) (hS:∀ w',Mem n0 w0 w' M→S w') (hm:P.follows .mixedOrders=true)
  (h:∀ w',Mem n0 w0 w' M→Below w.heap.size w w'→wpAnyH P .any ops (NoPanic Q) S ops.size (Array.replicate ops.size false) a w'):(Code.region id ops true).wp P Q a w:=by
 refine wp_region_noPanic ?_
 exact wp_region_held_drew (S:=S) hm (hS _ H.drew) (fun _=>h _ H.drew (Below.refl _ _).drew)
/-- some of its operations,in whatever order -/
theorem sx_batch (T:List VC) (fuel:Nat) (l0:Array Bool) (F:Fr a N L df) (H:Mem n0 w0 w M) (hS:∀ w',Mem n0 w0 w' M→S w')
  (hN:(T.map (·.d)).all (fun d=>Nat.ble (d+1) N)=true) {n:Nat} (hfuel:n=fuel+T.length)
  (hok:okAll .any ops l0 (T.map (·.i)) (T.map (·.pre)) (T.map (·.pure))=true) (hnd:(T.map (·.d)).Nodup)
  (hops:∀ c∈T.map (VC.core w.heap.size),∃ o,ops[c.i]? = some o∧o.dst=some c.d) (hsel:Region.noSelect ops=true)
  (hpure:∀ c∈T.map (VC.core w.heap.size),PureOK P ops S a w (T.map (VC.core w.heap.size)) c)
  (hstep:∀ c∈T.map (VC.core w.heap.size),c.pure=false→StepOK P ops (NoPanic Q) a w (T.map (VC.core w.heap.size)) c)
  (hend:∀ gs rs a' w',gs.length=cellsOfT T→rs.length=rowsOfT T→Fr a' N (slots T gs rs++L) df→Mem n0 w0 w' (blocks T gs++M)→Below w.heap.size w w'→(∀ x∈rowsAt T rs,At w' x.1 x.2.1 x.2.2)→(∀ x∈ownOf T rs,w.heap.size≤x)→twosAt w' T rs→wpAnyH P .any ops (NoPanic Q) S fuel (mark l0 (T.map (·.i)) (List.replicate T.length true)) a' w') :
  wpAnyH P .any ops (NoPanic Q) S n l0 a w:=by
 subst hfuel
 have c1:(T.map (VC.core w.heap.size)).map (·.i)=T.map (·.i):=by simp [VC.core]
 have c2:(T.map (VC.core w.heap.size)).map (·.d)=T.map (·.d):=by simp [VC.core]
 have c3:(T.map (VC.core w.heap.size)).map (·.pre)=T.map (·.pre):=by simp [VC.core]
 have c4:(T.map (VC.core w.heap.size)).map (·.pure)=T.map (·.pure):=by simp [VC.core]
 have hE:=wpAnyH_cores (P:=P) (md:=.any) (ops:=ops) (Q:=NoPanic Q) (S:=S) (T.map (VC.core w.heap.size)) l0 a w w fuel (by rw [c2];exact F.all hN) (by rw [c1,c3,c4];exact hok) (by rw [c2];exact hnd) hops
  (fun _ hb=>hS _ (H.on hb)) (Below.refl _ _) hsel (fun _ _ _ _ _ h=>h) hpure hstep ?_
 ·rw [List.length_map] at hE
  exact hE
 ·intro vs w' hc
  rw [c1,c2,List.length_map]
  have hlay:=lay_of (b:=w.heap.size) (w:=w') T vs (by rw [hc.lv,List.length_map]) (fun k c hk=>hc.ok k (VC.core w.heap.size c) (by rw [List.getElem?_map,hk];rfl) (by rw [List.getElem?_replicate,if_pos (by simpa using (List.getElem?_eq_some_iff.1 hk).1)]))
   (fun k j c d hk hj hcn hdn hne=>hc.far k j (VC.core w.heap.size c) (VC.core w.heap.size d) (by rw [List.getElem?_map,hk];rfl) (by rw [List.getElem?_map,hj];rfl) hcn hdn hne (by rw [List.getElem?_replicate,if_pos (by simpa using (List.getElem?_eq_some_iff.1 hk).1)]) (by rw [List.getElem?_replicate,if_pos (by simpa using (List.getElem?_eq_some_iff.1 hj).1)]))
  obtain ⟨gs,rs,e1,e0,e2,e3,e4,e5,-⟩:=lay_open T vs hlay
  have hM:=H.on hc.bel
  have hb:=Nat.le_trans H.le H.bel.size
  refine hend gs rs _ w' e1 e0 (F.over hnd hN (slots T gs rs) (fun x hx=>?_) fun s v hs=>?_) ⟨hM.le,hM.bel,hM.oth,fun x hx=>?_,fun x hx=>?_,?_⟩ hc.bel (rowsAt_of T vs gs rs hlay e2 e0) (ownOf_of T vs gs rs hlay e2 e0) (twosAt_of T vs gs rs hlay e2 e0)
  ·obtain ⟨k,hk,rfl⟩:=List.getElem_of_mem hx
   refine ⟨k,?_,?_⟩
   ·rw [← slots_d T gs rs,List.getElem?_map,List.getElem?_eq_getElem hk];rfl
   ·rw [e2,List.getElem?_map,List.getElem?_eq_getElem hk];rfl
  ·rcases lk_app _ _ _ _ hs with h | h
   ·exact Or.inl h
   ·right;rwa [slots_d] at h
  ·rcases List.mem_append.1 hx with hx | hx
   ·exact e3 x hx
   ·exact hM.at_ x hx
  ·rcases List.mem_append.1 hx with hx | hx
   ·exact Nat.le_trans hb (e4 _ (blocks_in T gs x hx))
   ·exact hM.own x hx
  ·rw [List.map_append,List.nodup_append]
   refine ⟨blocks_nd T gs e5,hM.nd,fun x hx y hy e=>?_⟩
   obtain ⟨z,hz,rfl⟩:=List.mem_map.1 hx
   obtain ⟨z',hz',rfl⟩:=List.mem_map.1 hy
   have h1:=e4 _ (blocks_in T gs z hz)
   have h2:=H.lt z' hz'
   omega
section
variable {cores:List Core} {W:World}
theorem coreG_callB (c:Core) (f:FuncId) (fn:Func) (code:Code) (xs:List Operand) (us:List Value) (tys:Array TypeId) (ty:TypeId) (pos:String) (after:Array Edge) (gd:Option (Nat × Bool)) (u:Value)
  (ho:ops[c.i]? = some ⟨some c.d,.call ⟨.value (.func f),xs.toArray,tys⟩,ty,pos,after,gd⟩) (hf:P.funcs[f]? = some fn) (hn:(fn.name == "runtime.NumGoroutine")=false) (hb:fn.body=some code)
  (hk:c.kind=Kind.val u) (hg:Wants ops a cores c.pre gd true) (hx:Args a cores c.pre xs us)
  (C:∀ w,Below W.heap.size W w→Calls P f us.toArray w fun e w'=>e=.returned u∧Below w.heap.size w w'):StepOK P ops Q a W cores c:=by
 intro vs w hl hbw hp o ho' K hK
 rw [ho] at ho'
 obtain rfl:=Option.some.inj ho'
 refine want_if (hg vs w hl hp _ rfl) ?_
 have hargs:xs.toArray.map (over a (cores.map (·.d)) vs).eval=us.toArray:=by
  rw [List.map_toArray]
  congr 1
  clear ho C ho'
  induction hx with
  | nil=>rfl
  | cons h _ ih=>rw [List.map_cons,h vs w hl hp,ih]
 have hrun:∀ w,(execOp (over a (cores.map (·.d)) vs).eval ⟨some c.d,.call ⟨.value (.func f),xs.toArray,tys⟩,ty,pos,after,gd⟩).run P w=.ok (.enter f us.toArray) w:=fun w=>by
  have h:=run_enter hf hn hb us.toArray w
  simp only [execOp,resolve,hargs]
  simpa [Act.eval,Deferred.ofValue,invoke,go_sem] using h
 unfold Oper.wp
 rw [hrun w,Oper.upon_enter]
 refine (C w hbw).mono fun e w' ⟨he,hb⟩=>?_
 subst he
 exact hK.out u w' hb (by rw [hk];exact rfl) (fun h=>by rw [hk] at h;cases h)
end
end
end Go.Proofs.YtlphnfajhpkleaaDoor
