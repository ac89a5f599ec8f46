/-
 Tallies: times and add.
-/
import Derived.Deep.Cut
import Derived.Test.YtlphnfajhpkleaaDoorRows
import Derived.Lib.LaidTab
import Derived.LaidSub
import Derived.Test.YtlphnfajhpkleaaDoorMByNumber
import Derived.Test.YtlphnfajhpkleaaDoorMByPutL
import Derived.Test.YtlphnfajhpkleaaDoorMByTaken
import Derived.Test.YtlphnfajhpkleaaDoorMGInvT
import Derived.Test.YtlphnfajhpkleaaDoorMPm
import Derived.Test.YtlphnfajhpkleaaDoorMPrL
import Derived.Test.YtlphnfajhpkleaaDoorMPx
import Derived.Test.YtlphnfajhpkleaaDoorMSmall
namespace Go.Proofs.YtlphnfajhpkleaaDoor
set_option maxRecDepth 100000
open Go.RowKit
set_option linter.unusedSimpArgs false
set_option linter.unusedVariables false
attribute [local go_sem ↓] Go.wp_at_zero Go.wp_at_succ

end Go.Proofs.YtlphnfajhpkleaaDoor

/-
 polys: what is asked of exponents,a polynomial's value,one,by,At.
-/
namespace Go.Proofs.YtlphnfajhpkleaaDoor
set_option maxRecDepth 100000
open Go.RowKit
set_option linter.unusedSimpArgs false
set_option linter.unusedVariables false
attribute [local go_sem ↓] Go.wp_at_zero Go.wp_at_succ

/-- a slice of numbers in a block below n0,to be read -/
def RN (n0:Nat) (w:World) (a:Option Addr) (n cap:Nat) (xs:List Nat):Prop:=xs.length=n∧NSl n0 w a cap xs
theorem RN.get {n0:Nat} {w:World} {a:Option Addr} {n cap:Nat} {xs:List Nat} (h:RN n0 w a n cap xs) {i:Nat} (hi:i<n):∃ g o,a=some ⟨g,o,none⟩∧∃ hl:i<xs.length,xs[i]<2^256∧∀ u,Below n0 w u→C4 u g (o+i*4) xs[i]:=by
 have hl:i<xs.length:=by rw [h.1];exact hi
 obtain ⟨g,o,ha,hg,h0,h1,h2,h3⟩:=h.2.get hl rfl
 exact ⟨g,o,ha,hl,h.2.2.2.1 _ (List.getElem_mem hl),fun u hb=>⟨(hb.cell (p:=⟨g,o+i*4,none⟩) hg).trans h0,(hb.cell (p:=⟨g,o+i*4+1,none⟩) hg).trans h1,(hb.cell (p:=⟨g,o+i*4+2,none⟩) hg).trans h2,(hb.cell (p:=⟨g,o+i*4+3,none⟩) hg).trans h3⟩⟩
theorem RN.len {n0:Nat} {w:World} {a:Option Addr} {n cap:Nat} {xs:List Nat} (h:RN n0 w a n cap xs):n≤cap∧cap≤9223372036854775807:=⟨by rw [← h.1];exact h.2.1,h.2.2.1⟩
theorem RN.room {n0:Nat} {w:World} {a:Option Addr} {n cap:Nat} {xs:List Nat} (h:RN n0 w a n cap xs) {i:Nat} (hi:i<n):IntKind.i64.wrap ((i:Int)+1)=((i+1:Nat):Int):=by
 have:=h.len
 rw [IntKind.wrap_i64];omega
theorem RN.wr {n0:Nat} {w:World} {a:Option Addr} {n cap:Nat} {xs:List Nat} (h:RN n0 w a n cap xs) {i:Nat} (hi:i≤n):IntKind.i64.wrap (i:Int)=(i:Int):=by
 have:=h.len
 rw [IntKind.wrap_i64];omega
theorem RN.on {n0:Nat} {w w':World} {a:Option Addr} {n cap:Nat} {xs:List Nat} (h:RN n0 w a n cap xs) (hb:Below n0 w w'):RN n0 w' a n cap xs:=⟨h.1,h.2.below hb⟩
/-- all are exponents -/
def expB (Q:Nat) (xs:List Nat):Bool:=xs.all fun x=>decide (1<Q∧x<Q)
theorem expB_all {Q:Nat} {xs:List Nat} (h:expB Q xs=true):∀ x∈xs,1<Q∧x<Q:=fun x hx=>of_decide_eq_true (List.all_eq_true.1 h x hx)
section
variable {a:Act} {N:Nat} {L:List (Nat × Value)} {df:List Deferred} {w:World} {P:Program}
end
end Go.Proofs.YtlphnfajhpkleaaDoor

/-
 sigs: signatures,hashes and what a law is given,as values and as blocks;guards of which nothing is known;what Product answers.
-/
namespace Go.Proofs.YtlphnfajhpkleaaDoor
set_option maxRecDepth 100000
open Go.RowKit
set_option linter.unusedSimpArgs false
set_option linter.unusedVariables false
attribute [local go_sem ↓] Go.wp_at_zero Go.wp_at_succ

/-- what Product answers of two lists -/
def prB (P:Nat) (bs ns:List Nat):Bool:=decide (1<P) && decide (bs.length=ns.length) && bs.all (mayB P)
def prV (P:Nat) (bs ns:List Nat):Nat:=(bs.zip ns).foldl (fun s x=>s*(x.1^x.2%P)%P) 1
theorem np_of:∀ (bs ns:List Nat),bs.length=ns.length→(∀ x∈bs,x<2^256)→(∀ x∈ns,x<2^256)→∃ zs:List NP,zs.map (·.1.1)=bs∧zs.map (·.1.2)=ns∧zs.map (·.1)=bs.zip ns
 | [],[],_,_,_=>⟨[],rfl,rfl,rfl⟩
 | [],_::_,h,_,_=>by simp at h
 | _::_,[],h,_,_=>by simp at h
 | a::bs,n::ns,h,ha,hn=>by
  obtain ⟨zs,h1,h2,h3⟩:=np_of bs ns (by simpa using h) (fun x hx=>ha x (List.mem_cons_of_mem _ hx)) (fun x hx=>hn x (List.mem_cons_of_mem _ hx))
  exact ⟨⟨(a,n),ha a List.mem_cons_self,hn n List.mem_cons_self⟩::zs,by simp [h1],by simp [h2],by simp [h3]⟩
theorem cmpN_le0 {P:Nat} (h:¬ 1<P):cmpN P 1≤0:=by
 unfold cmpN
 split
 ·decide
 ·split
  ·decide
  ·omega
theorem mayAll_eq {P:Nat} {zs:List NP} {bs:List Nat} (h:zs.map (·.1.1)=bs):mayAll P zs=bs.all (mayB P):=by
 subst h
 simp [mayAll,List.all_map,Function.comp_def]
theorem prodN_eq {P:Nat} {zs:List NP} {l:List (Nat × Nat)} (h:zs.map (·.1)=l):prodN P zs=l.foldl (fun s x=>s*(x.1^x.2%P)%P) 1:=by
 subst h
 unfold prodN
 rw [List.foldl_map]
theorem prod_is (P Q G H la ca lb cb:Nat) (pa pb:Option Addr) (bs ns:List Nat) (hP:P<2^256) (w0:World) (ra:RN w0.heap.size w0 pa la ca bs) (rn:RN w0.heap.size w0 pb lb cb ns) :
  Calls Tryd.prog 25 #[grp P Q G H,.slice pa la ca,.slice pb lb cb] w0 fun e w'=>e=.returned (if prB P bs ns=true then .tuple #[num (prV P bs ns),.int .i64 0] else .tuple #[num 0,.int .i64 1])∧Below w0.heap.size w0 w':=by
 by_cases h1:1<P
 ·by_cases hl:la=lb
  ·obtain ⟨zs,e1,e2,e3⟩:=np_of bs ns (by rw [ra.1,rn.1,hl]) ra.2.2.2.1 rn.2.2.2.1
   have hz:zs.length=la:=by rw [← ra.1,← e1,List.length_map]
   have h:=prod_good P Q G H zs pa pb ca cb hP h1 w0 (by rw [e1];exact ra.2) (by rw [e2];exact rn.2)
   rw [hz,mayAll_eq e1,prodN_eq e3] at h
   have hb:prB P bs ns=bs.all (mayB P):=by unfold prB;rw [decide_eq_true h1,decide_eq_true (by rw [ra.1,rn.1,hl])];rfl
   rw [hb]
   rw [← hl]
   exact h
  ·have hb:¬ prB P bs ns=true:=by
    unfold prB
    rw [decide_eq_false (show ¬ bs.length=ns.length by rw [ra.1,rn.1];exact hl)]
    simp
   rw [if_neg hb]
   exact prod_len P Q G H la ca lb cb pa pb hP (by rw [cmpN_gt h1];decide) hl w0
 ·have hb:¬ prB P bs ns=true:=by unfold prB;rw [decide_eq_false h1];simp
  rw [if_neg hb]
  exact prod_low P Q G H la ca lb cb pa pb hP (cmpN_le0 h1) w0
theorem prod_y (P Q G H la ca lb cb:Nat) (pa pb:Option Addr) (bs ns:List Nat) (hP:P<2^256) (w0:World) (h:prB P bs ns=true) (ra:RN w0.heap.size w0 pa la ca bs) (rn:RN w0.heap.size w0 pb lb cb ns) :
  Calls Tryd.prog 25 #[grp P Q G H,.slice pa la ca,.slice pb lb cb] w0 fun e w'=>e=.returned (.tuple #[num (prV P bs ns),.int .i64 0])∧Below w0.heap.size w0 w':=by
 have:=prod_is P Q G H la ca lb cb pa pb bs ns hP w0 ra rn
 rwa [if_pos h] at this
theorem prod_n (P Q G H la ca lb cb:Nat) (pa pb:Option Addr) (bs ns:List Nat) (hP:P<2^256) (w0:World) (h:¬ prB P bs ns=true) (ra:RN w0.heap.size w0 pa la ca bs) (rn:RN w0.heap.size w0 pb lb cb ns) :
  Calls Tryd.prog 25 #[grp P Q G H,.slice pa la ca,.slice pb lb cb] w0 fun e w'=>e=.returned (.tuple #[num 0,.int .i64 1])∧Below w0.heap.size w0 w':=by
 have:=prod_is P Q G H la ca lb cb pa pb bs ns hP w0 ra rn
 rwa [if_neg h] at this
/-- cells -/
def nv (X:Nat):List Value:=[.int .u64 (wd X 0:Nat),.int .u64 (wd X 1:Nat),.int .u64 (wd X 2:Nat),.int .u64 (wd X 3:Nat)]
def hl (h:Nat→Nat):List Value:=[0,1,2,3,4,5,6,7,8,9,10,11,12,13,14,15,16,17,18,19,20,21,22,23,24,25,26,27,28,29,30,31].map fun i=>.int .u8 (h i:Nat)
def sgl (C S:Nat):List Value:=nv C++nv S
def gvl (A B K:Nat) (h:Nat→Nat) (C S:Nat):List Value:=nv A++(nv B++(nv K++(hl h++sgl C S)))
def hsv (h:Nat→Nat):Value:=.agg (hl h).toArray
def sgv (C S:Nat):Value:=.agg (sgl C S).toArray
def gvv (A B K:Nat) (h:Nat→Nat) (C S:Nat):Value:=.agg (gvl A B K h C S).toArray
def hcs (h:Nat→Nat):Array Value:=(hl h).toArray
def sgc (C S:Nat):Array Value:=(sgl C S).toArray
def gvc (A B K:Nat) (h:Nat→Nat) (C S:Nat):Array Value:=(gvl A B K h C S).toArray
theorem puts_sets (g:Nat):∀ (vs:List Value) (o:Nat) (w:World),puts w g o vs=w.setCells g o vs
 | [],_,_=>rfl
 | v::vs,o,w=>puts_sets g vs (o+1) _
theorem sets_put:∀ (vs:List Value) (o:Nat) (cs:Array Value),sets cs o vs=By.put cs o vs
 | [],_,_=>rfl
 | v::vs,o,cs=>sets_put vs (o+1) _
theorem sets_all {xs ys:List Value} (h:ys.length=xs.length):sets xs.toArray 0 ys=ys.toArray:=by rw [sets_put];exact By.put_all xs ys h
theorem sets_sg (C S C2 S2:Nat):sets (sgc C S) 0 (sgl C2 S2)=sgc C2 S2:=sets_all rfl
theorem sets_sg1 (C S X:Nat):sets (sgc C S) 4 (nv X)=sgc C X:=rfl
theorem sets_h (h k:Nat→Nat):sets (hcs h) 0 (hl k)=hcs k:=sets_all (by simp [hl])
def gv (c:Bool) (v:Value):Value:=bif c then v else undef
theorem rn_2 {w:World} {g X Y:Nat} {T:TypeId} (h:At w g T (rows2 X Y)) (hX:X<2^256) (hY:Y<2^256):RN w.heap.size w (some ⟨g,0,none⟩) 2 2 [X,Y]:=
 ⟨rfl,Nat.le_refl _,by decide,fun x hx=>by simp at hx;rcases hx with rfl | rfl <;> assumption,.inr ⟨g,0,rfl,h.lt,fun i hi k hk=>by
  match i,hi,k,hk with
  | 0,_,0,_=>exact h.cell 0
  | 0,_,1,_=>exact h.cell 1
  | 0,_,2,_=>exact h.cell 2
  | 0,_,3,_=>exact h.cell 3
  | 1,_,0,_=>exact h.cell 4
  | 1,_,1,_=>exact h.cell 5
  | 1,_,2,_=>exact h.cell 6
  | 1,_,3,_=>exact h.cell 7⟩⟩
def rows3 (X Y Z:Nat):Array Value:=(nv X++(nv Y++nv Z)).toArray
theorem rn_3 {w:World} {g X Y Z:Nat} {T:TypeId} (h:At w g T (rows3 X Y Z)) (hX:X<2^256) (hY:Y<2^256) (hZ:Z<2^256):RN w.heap.size w (some ⟨g,0,none⟩) 3 3 [X,Y,Z]:=
 ⟨rfl,Nat.le_refl _,by decide,fun x hx=>by simp at hx;rcases hx with rfl | rfl | rfl <;> assumption,.inr ⟨g,0,rfl,h.lt,fun i hi k hk=>by
  match i,hi,k,hk with
  | 0,_,0,_=>exact h.cell 0
  | 0,_,1,_=>exact h.cell 1
  | 0,_,2,_=>exact h.cell 2
  | 0,_,3,_=>exact h.cell 3
  | 1,_,0,_=>exact h.cell 4
  | 1,_,1,_=>exact h.cell 5
  | 1,_,2,_=>exact h.cell 6
  | 1,_,3,_=>exact h.cell 7
  | 2,_,0,_=>exact h.cell 8
  | 2,_,1,_=>exact h.cell 9
  | 2,_,2,_=>exact h.cell 10
  | 2,_,3,_=>exact h.cell 11⟩⟩
theorem hl_one (h:Nat→Nat):∀ u∈hl h,u.oneCell'=true:=by
 intro u hu;obtain ⟨x,_,rfl⟩:=List.mem_map.1 hu;rfl
theorem nv_one (X:Nat):∀ u∈nv X,u.oneCell'=true:=by
 intro u hu;simp [nv] at hu;rcases hu with rfl | rfl | rfl | rfl <;> rfl
theorem sgl_one (C S:Nat):∀ u∈sgl C S,u.oneCell'=true:=by
 intro u hu;rcases List.mem_append.1 hu with h | h
 ·exact nv_one _ u h
 ·exact nv_one _ u h
section
variable {x y z:Operand} {dst:Option Tmp} {ty:TypeId} {pos:String} {after:Array Edge} {guard:Option (Nat × Bool)} {ρ:Operand→Value} {w:World} {g o:Nat}
theorem ld_mid {T t:TypeId} {xs:List Value} {cs:Array Value} (hu:(Tryd.prog.underlying T).map TypeDesc.isRow=some true) (hi:(Tryd.prog.info? T).map (·.size)=some xs.length) (hx:ρ x=.pointer (some ⟨g,o,none⟩)) (h:At w g t cs) (hc:(cs.toList.drop o).take xs.length=xs):(execOp ρ ⟨dst,.load T x,ty,pos,after,guard⟩).run Tryd.prog w=.ok (.value (.agg xs.toArray)) w:=by
 have hr:w.rangeAt g o xs:=fun j v hj=>by
  rw [h.cell]
  have h1:=hj
  rw [← hc,List.getElem?_take] at h1
  split at h1
  ·rw [List.getElem?_drop] at h1
   simpa using h1
  ·cases h1
 obtain ⟨td,hu',hd⟩:=Option.map_eq_some_iff.1 hu
 exact By.load_run x g o xs td hx hr hu' hd hi
theorem st_mid {T t:TypeId} {xs:List Value} {cs:Array Value} (hi:(Tryd.prog.info? T).map (·.size)=some xs.length) (h1:∀ u∈xs,u.oneCell'=true) (hx:ρ x=.pointer (some ⟨g,o,none⟩)) (hy:ρ y=.agg xs.toArray) (h:At w g t cs) (hn:o+xs.length≤cs.size):(execOp ρ ⟨dst,.store T x y,ty,pos,after,guard⟩).run Tryd.prog w=.ok .skip (puts w g o xs):=by
 rw [puts_sets]
 exact By.store_run x y g o xs hx hy (By.At.there (show By.At w g t cs from h) hn) hi h1
theorem o_slice3 {X Y Z:Nat} (hx:ρ x=num X) (hy:ρ y=num Y) (hz:ρ z=num Z):(execOp ρ ⟨dst,.buildSlice 47 3 #[(0,x),(1,y),(2,z)],ty,pos,after,guard⟩).run Tryd.prog w=.ok (.value (.slice (some ⟨w.heap.size,0,none⟩) 3 3)) (w.alloc (.cells (rows3 X Y Z) 24)):=by
 have h:rows3 X Y Z=#[.int .u64 (wd X 0:Nat),.int .u64 (wd X 1:Nat),.int .u64 (wd X 2:Nat),.int .u64 (wd X 3:Nat),.int .u64 (wd Y 0:Nat),.int .u64 (wd Y 1:Nat),.int .u64 (wd Y 2:Nat),.int .u64 (wd Y 3:Nat),.int .u64 (wd Z 0:Nat),.int .u64 (wd Z 1:Nat),.int .u64 (wd Z 2:Nat),.int .u64 (wd Z 3:Nat)]:=rfl
 rw [h]
 simp [execOp,hx,hy,hz,go_sem]
theorem o_boxH {h:Nat→Nat} (hx:ρ x=hsv h):(execOp ρ ⟨dst,.box 28 x,ty,pos,after,guard⟩).run Tryd.prog w=.ok (.value (.pointer (some ⟨w.heap.size,0,none⟩))) (w.alloc (.cells (hcs h) 28)):=By.box_run x _ hx
theorem o_boxS {C S:Nat} (hx:ρ x=sgv C S):(execOp ρ ⟨dst,.box 30 x,ty,pos,after,guard⟩).run Tryd.prog w=.ok (.value (.pointer (some ⟨w.heap.size,0,none⟩))) (w.alloc (.cells (sgc C S) 30)):=By.box_run x _ hx
theorem o_boxV {A B K:Nat} {h:Nat→Nat} {C S:Nat} (hx:ρ x=gvv A B K h C S):(execOp ρ ⟨dst,.box 32 x,ty,pos,after,guard⟩).run Tryd.prog w=.ok (.value (.pointer (some ⟨w.heap.size,0,none⟩))) (w.alloc (.cells (gvc A B K h C S) 32)):=By.box_run x _ hx
theorem o_allocH:(execOp ρ ⟨dst,.alloc 28,ty,pos,after,guard⟩).run Tryd.prog w=.ok (.value (.pointer (some ⟨w.heap.size,0,none⟩))) (w.alloc (.cells (hcs fun _=>0) 28)):=By.alloc_run _ (by kernel_rfl)
theorem o_allocS:(execOp ρ ⟨dst,.alloc 30,ty,pos,after,guard⟩).run Tryd.prog w=.ok (.value (.pointer (some ⟨w.heap.size,0,none⟩))) (w.alloc (.cells (sgc 0 0) 30)):=By.alloc_run _ (by kernel_rfl)
theorem o_buildS0:(execOp ρ ⟨dst,.build 30 #[],ty,pos,after,guard⟩).run Tryd.prog w=.ok (.value (sgv 0 0)) w:=by kernel_rfl
theorem o_buildS {C S:Nat} (hx:ρ x=num C) (hy:ρ y=num S):(execOp ρ ⟨dst,.build 30 #[(0,x),(1,y)],ty,pos,after,guard⟩).run Tryd.prog w=.ok (.value (sgv C S)) w:=by
 simp only [execOp,List.map_toArray,List.map_cons,List.map_nil,hx,hy];kernel_rfl
theorem o_buildH7 (hx:ρ x=.int .u8 7):(execOp ρ ⟨dst,.build 28 #[(0,x)],ty,pos,after,guard⟩).run Tryd.prog w=.ok (.value (hsv fun i=>if i=0 then 7 else 0)) w:=by
 simp only [execOp,List.map_toArray,List.map_cons,List.map_nil,hx];kernel_rfl
theorem o_ldH {h:Nat→Nat} (hx:ρ x=.pointer (some ⟨g,0,none⟩)) (a:At w g 28 (hcs h)):(execOp ρ ⟨dst,.load 28 x,ty,pos,after,guard⟩).run Tryd.prog w=.ok (.value (hsv h)) w:=ld_mid (xs:=hl h) (by kernel_rfl) (by kernel_rfl) hx a rfl
theorem o_ldS {C S:Nat} (hx:ρ x=.pointer (some ⟨g,0,none⟩)) (a:At w g 30 (sgc C S)):(execOp ρ ⟨dst,.load 30 x,ty,pos,after,guard⟩).run Tryd.prog w=.ok (.value (sgv C S)) w:=ld_mid (xs:=sgl C S) (by kernel_rfl) (by kernel_rfl) hx a rfl
theorem o_ldS0 {C S:Nat} (hx:ρ x=.pointer (some ⟨g,0,none⟩)) (a:At w g 30 (sgc C S)):(execOp ρ ⟨dst,.load 24 x,ty,pos,after,guard⟩).run Tryd.prog w=.ok (.value (num C)) w:=ld_mid (xs:=nv C) (by kernel_rfl) (by kernel_rfl) hx a rfl
theorem o_ldS4 {C S:Nat} (hx:ρ x=.pointer (some ⟨g,4,none⟩)) (a:At w g 30 (sgc C S)):(execOp ρ ⟨dst,.load 24 x,ty,pos,after,guard⟩).run Tryd.prog w=.ok (.value (num S)) w:=ld_mid (xs:=nv S) (by kernel_rfl) (by kernel_rfl) hx a rfl
theorem o_stS {C S C2 S2:Nat} (hx:ρ x=.pointer (some ⟨g,0,none⟩)) (hy:ρ y=sgv C2 S2) (a:At w g 30 (sgc C S)):(execOp ρ ⟨dst,.store 30 x y,ty,pos,after,guard⟩).run Tryd.prog w=.ok .skip (puts w g 0 (sgl C2 S2)):=st_mid (by kernel_rfl) (sgl_one _ _) hx hy a (Nat.le_of_ble_eq_true rfl)
theorem o_stS4 {C S X:Nat} (hx:ρ x=.pointer (some ⟨g,4,none⟩)) (hy:ρ y=num X) (a:At w g 30 (sgc C S)):(execOp ρ ⟨dst,.store 24 x y,ty,pos,after,guard⟩).run Tryd.prog w=.ok .skip (puts w g 4 (nv X)):=st_mid (by kernel_rfl) (nv_one _) hx hy a (Nat.le_of_ble_eq_true rfl)
theorem o_stH {h k:Nat→Nat} (hx:ρ x=.pointer (some ⟨g,0,none⟩)) (hy:ρ y=hsv k) (a:At w g 28 (hcs h)):(execOp ρ ⟨dst,.store 28 x y,ty,pos,after,guard⟩).run Tryd.prog w=.ok .skip (puts w g 0 (hl k)):=st_mid (by kernel_rfl) (hl_one _) hx hy a (by simp [hl,hcs])
section
variable {A B K:Nat} {h:Nat→Nat} {C S:Nat}
theorem o_ldV0 (hx:ρ x=.pointer (some ⟨g,0,none⟩)) (a:At w g 32 (gvc A B K h C S)):(execOp ρ ⟨dst,.load 24 x,ty,pos,after,guard⟩).run Tryd.prog w=.ok (.value (num A)) w:=ld_mid (xs:=nv A) (by kernel_rfl) (by kernel_rfl) hx a rfl
theorem o_ldV4 (hx:ρ x=.pointer (some ⟨g,4,none⟩)) (a:At w g 32 (gvc A B K h C S)):(execOp ρ ⟨dst,.load 24 x,ty,pos,after,guard⟩).run Tryd.prog w=.ok (.value (num B)) w:=ld_mid (xs:=nv B) (by kernel_rfl) (by kernel_rfl) hx a rfl
theorem o_ldV8 (hx:ρ x=.pointer (some ⟨g,8,none⟩)) (a:At w g 32 (gvc A B K h C S)):(execOp ρ ⟨dst,.load 24 x,ty,pos,after,guard⟩).run Tryd.prog w=.ok (.value (num K)) w:=ld_mid (xs:=nv K) (by kernel_rfl) (by kernel_rfl) hx a rfl
theorem o_ldV12 (hx:ρ x=.pointer (some ⟨g,12,none⟩)) (a:At w g 32 (gvc A B K h C S)):(execOp ρ ⟨dst,.load 28 x,ty,pos,after,guard⟩).run Tryd.prog w=.ok (.value (hsv h)) w:=ld_mid (xs:=hl h) (by kernel_rfl) (by kernel_rfl) hx a rfl
theorem o_ldV44 (hx:ρ x=.pointer (some ⟨g,44,none⟩)) (a:At w g 32 (gvc A B K h C S)):(execOp ρ ⟨dst,.load 30 x,ty,pos,after,guard⟩).run Tryd.prog w=.ok (.value (sgv C S)) w:=ld_mid (xs:=sgl C S) (by kernel_rfl) (by kernel_rfl) hx a rfl
theorem o_ldV44n (hx:ρ x=.pointer (some ⟨g,44,none⟩)) (a:At w g 32 (gvc A B K h C S)):(execOp ρ ⟨dst,.load 24 x,ty,pos,after,guard⟩).run Tryd.prog w=.ok (.value (num C)) w:=ld_mid (xs:=nv C) (by kernel_rfl) (by kernel_rfl) hx a rfl
theorem o_ldV48 (hx:ρ x=.pointer (some ⟨g,48,none⟩)) (a:At w g 32 (gvc A B K h C S)):(execOp ρ ⟨dst,.load 24 x,ty,pos,after,guard⟩).run Tryd.prog w=.ok (.value (num S)) w:=ld_mid (xs:=nv S) (by kernel_rfl) (by kernel_rfl) hx a rfl
end
theorem o_fldS0 (hx:ρ x=.pointer (some ⟨g,o,none⟩)):(execOp ρ ⟨dst,.fieldAddr 30 x 0,ty,pos,after,guard⟩).run Tryd.prog w=.ok (.value (.pointer (some ⟨g,o,none⟩))) w:=by simp [execOp,hx,go_sem]
theorem o_fldS1 (hx:ρ x=.pointer (some ⟨g,o,none⟩)):(execOp ρ ⟨dst,.fieldAddr 30 x 1,ty,pos,after,guard⟩).run Tryd.prog w=.ok (.value (.pointer (some ⟨g,o+4,none⟩))) w:=by simp [execOp,hx,go_sem]
theorem o_fldV0 (hx:ρ x=.pointer (some ⟨g,0,none⟩)):(execOp ρ ⟨dst,.fieldAddr 32 x 0,ty,pos,after,guard⟩).run Tryd.prog w=.ok (.value (.pointer (some ⟨g,0,none⟩))) w:=by simp [execOp,hx,go_sem]
theorem o_fldV1 (hx:ρ x=.pointer (some ⟨g,0,none⟩)):(execOp ρ ⟨dst,.fieldAddr 32 x 1,ty,pos,after,guard⟩).run Tryd.prog w=.ok (.value (.pointer (some ⟨g,4,none⟩))) w:=by simp [execOp,hx,go_sem]
theorem o_fldV2 (hx:ρ x=.pointer (some ⟨g,0,none⟩)):(execOp ρ ⟨dst,.fieldAddr 32 x 2,ty,pos,after,guard⟩).run Tryd.prog w=.ok (.value (.pointer (some ⟨g,8,none⟩))) w:=by simp [execOp,hx,go_sem]
theorem o_fldV3 (hx:ρ x=.pointer (some ⟨g,0,none⟩)):(execOp ρ ⟨dst,.fieldAddr 32 x 3,ty,pos,after,guard⟩).run Tryd.prog w=.ok (.value (.pointer (some ⟨g,12,none⟩))) w:=by simp [execOp,hx,go_sem]
theorem o_fldV4 (hx:ρ x=.pointer (some ⟨g,0,none⟩)):(execOp ρ ⟨dst,.fieldAddr 32 x 4,ty,pos,after,guard⟩).run Tryd.prog w=.ok (.value (.pointer (some ⟨g,44,none⟩))) w:=by simp [execOp,hx,go_sem]
theorem o_buildW (n:Nat) (h:n<18446744073709551616) (hc:ρ (.const (.int .u64 (n:Nat)))=.int .u64 (n:Nat)):(execOp ρ ⟨dst,.build 24 #[(0,.const (.int .u64 (n:Nat)))],ty,pos,after,guard⟩).run Tryd.prog w=.ok (.value (num n)) w:=by
 have h0:wd n 0=n:=by unfold wd;rw [Nat.pow_zero,Nat.div_one,Nat.mod_eq_of_lt h]
 have hk:∀ k,wd n (k+1)=0:=fun k=>by unfold wd;rw [Nat.div_eq_of_lt (Nat.lt_of_lt_of_le h (by rw [Nat.pow_succ];exact Nat.le_mul_of_pos_left _ (Nat.pow_pos (by decide))))]
 have h1:=hk 0;have h2:=hk 1;have h3:=hk 2
 have e:(execOp ρ ⟨dst,.build 24 #[(0,.const (.int .u64 (n:Nat)))],ty,pos,after,guard⟩).run Tryd.prog w=.ok (.value (.agg #[.int .u64 (n:Nat),.int .u64 0,.int .u64 0,.int .u64 0])) w:=by simp [execOp,hc,go_sem]
 rw [e]
 simp [h0,h1,h2,h3]
theorem o_gtrI {m n:Int} {b:Bool} (hb:decide (n<m)=b) (hx:ρ x=.int .i64 m) (hy:ρ y=.int .i64 n):(execOp ρ ⟨dst,.binOp .gtr 3 x y 3,ty,pos,after,guard⟩).run Tryd.prog w=.ok (.value (.bool b)) w:=by
 subst hb;simp only [execOp,hx,hy];simp [go_sem]
theorem o_pickA {c b:Bool} (hx:ρ x=.bool c) (hy:ρ y=gv c (.bool b)) (hz:ρ z=.bool false):(execOp ρ ⟨dst,.pick x y z,ty,pos,after,guard⟩).run Tryd.prog w=.ok (.value (.bool (c && b))) w:=by
 cases c <;> simp [execOp,hx,hy,hz,go_sem,gv]
theorem o_pickO {c b:Bool} (hx:ρ x=.bool c) (hy:ρ y=.bool true) (hz:ρ z=gv (!c) (.bool b)):(execOp ρ ⟨dst,.pick x y z,ty,pos,after,guard⟩).run Tryd.prog w=.ok (.value (.bool (c || b))) w:=by
 cases c <;> simp [execOp,hx,hy,hz,go_sem,gv]
theorem eqWd (n:Nat) (a b c d a' b' c' d':Int) (w:World):(Op.equalIn (n+2) 24 (.agg #[.int .u64 a,.int .u64 b,.int .u64 c,.int .u64 d]) (.agg #[.int .u64 a',.int .u64 b',.int .u64 c',.int .u64 d'])).run Tryd.prog w=.ok (decide (a=a'∧b=b'∧c=c'∧d=d')) w:=by
 have u3:=Tryd.underlying22
 have a3:=Tryd.isAgg22
 have z3:=Tryd.sizeOf22
 rw [Op.equalIn]
 simp only [Sem.run_bind,run_underlying Tryd.underlying24,Result.andThen_ok]
 simp only [Std.Legacy.Range.forIn_eq_forIn_range',Std.Legacy.Range.size,Nat.sub_zero,Nat.add_sub_cancel,Nat.div_one,List.range'_succ,List.range'_zero,List.forIn_cons,List.forIn_nil]
 go_simp
 by_cases h1:a=a' <;> by_cases h2:b=b' <;> by_cases h3:c=c' <;> by_cases h4:d=d' <;> simp [h1,h2,h3,h4]
theorem eqNd (n X Y:Nat) (hX:X<2^256) (hY:Y<2^256) (w:World):(Op.equalIn (n+2) 24 (num X) (num Y)).run Tryd.prog w=.ok (decide (X=Y)) w:=by
 rw [show num X=num X from rfl,show num Y=num Y from rfl,eqWd]
 congr 1
 rw [decide_eq_decide,← wd_eq X Y hX hY]
 omega
theorem sg_eq {C S C2 S2:Nat} (hC:C<2^256) (hS:S<2^256) (hC2:C2<2^256) (hS2:S2<2^256) (w:World):(Op.equalIn 10000 30 (sgv C S) (sgv C2 S2)).run Tryd.prog w=.ok (decide (C=C2∧S=S2)) w:=by
 have hf:(Tryd.prog.fieldsOf 30).toList=[⟨"C",24,0,false,"","",0⟩,⟨"S",24,4,false,"","",32⟩]:=by kernel_rfl
 have p0:∀ A B:Nat,(part 24 (sgl A B).toArray 0).run Tryd.prog w=.ok (num A) w:=fun A B=>by kernel_rfl
 have p4:∀ A B:Nat,(part 24 (sgl A B).toArray 4).run Tryd.prog w=.ok (num B) w:=fun A B=>by kernel_rfl
 have n1:("C":String) ≠ "_":=by decide
 have n2:("S":String) ≠ "_":=by decide
 unfold sgv
 rw [show (10000:Nat)=(9997+2)+1 from rfl,run_equalIn_struct w _ _ _ _ (by kernel_rfl) (by kernel_rfl),hf]
 simp only [Op.eqFields,if_pos n1,if_pos n2,Sem.run_bind,p0,Result.andThen_ok,eqNd _ _ _ hC hC2]
 by_cases h1:C=C2
 ·simp only [decide_eq_true h1,Bool.not_true,Bool.false_eq_true,if_false,Sem.run_bind,p4,Result.andThen_ok,eqNd _ _ _ hS hS2]
  by_cases h2:S=S2 <;> simp [h1,h2]
 ·simp [h1]
theorem o_eqSg {C S C2 S2:Nat} {b:Bool} (hC:C<2^256) (hS:S<2^256) (hC2:C2<2^256) (hS2:S2<2^256) (hb:decide (C=C2∧S=S2)=b) (hx:ρ x=sgv C S) (hy:ρ y=sgv C2 S2):(execOp ρ ⟨dst,.binOp .eql 30 x y 30,ty,pos,after,guard⟩).run Tryd.prog w=.ok (.value (.bool b)) w:=by
 subst hb
 have h1:=run_eqGuard_agg (P:=Tryd.prog) w .eql 30 x y (sgl C S).toArray (sgl C2 S2).toArray (by kernel_rfl)
 have h2:=run_eql_struct (P:=Tryd.prog) w 30 (sgl C S).toArray (sgl C2 S2).toArray
 have h3:=sg_eq hC hS hC2 hS2 w
 unfold sgv at h3 hx hy
 rw [h3] at h2
 simp only [execOp,hx,hy,Sem.run_bind,h1,h2,Result.andThen_ok]
 rfl
end
section
variable {P:Program} {ops:Array Oper} {Q:Exit→Act→World→Prop} {a:Act} {w w0:World} {rest:List Oper} {o:Oper} {N:Nat} {L:List (Nat × Value)} {df:List Deferred}
/-- an operation behind a guard of which nothing is known -/
theorem lx_valG {d t k:Nat} {b c e:Bool} {v:Value} (F:Fr a N L df) (hg:o.guard=some (k,b)) (hk:(ops[k]?).bind (·.dst)=some t) (ht:lk L t=some (.bool c)) (hN:Nat.blt t N=true) (he:(c==b)=e) (hdst:o.dst=some d) (hd:Nat.blt d N=true)
  (hr:e=true→(execOp a.eval o).run P w=.ok (.value v) w)
  (h:∀ a',Fr a' N ((d,gv e v)::L) df→wpList P ops Q rest a' w):wpList P ops Q (o::rest) a w:=by
 have hw:=(F.wanted hg hk ht hN).trans he
 cases e
 ·exact lx_pass F hw hdst hd h
 ·exact lx_value F hw hdst hd (hr rfl) h
theorem lx_callG {d t k:Nat} {b c e:Bool} {v:Value} {f:FuncId} {args:Array Value} (F:Fr a N L df) (hg:o.guard=some (k,b)) (hk:(ops[k]?).bind (·.dst)=some t) (ht:lk L t=some (.bool c)) (hN:Nat.blt t N=true) (he:(c==b)=e) (hdst:o.dst=some d) (hd:Nat.blt d N=true)
  (hr:e=true→(execOp a.eval o).run P w=.ok (.enter f args) w) (C:e=true→Calls P f args w fun e w'=>e=.returned v∧Below w.heap.size w w')
  (h:∀ a' w',Below w.heap.size w w'→Fr a' N ((d,gv e v)::L) df→wpList P ops Q rest a' w'):wpList P ops Q (o::rest) a w:=by
 have hw:=(F.wanted hg hk ht hN).trans he
 cases e
 ·exact lx_pass F hw hdst hd fun a' F'=>h a' w (Below.refl _ _) F'
 ·exact lx_call F hw hdst hd (hr rfl) (C rfl) h
theorem Fr.evg {s:Nat} {u:Value} {e:Bool} (F:Fr a N L df) (h:lk L s=some (gv e u)) (he:e=true):a.eval (.tmp s)=u:=by
 have:=F.get s _ h
 subst he
 exact this
end
section
variable {P:Program} {ops:Array Oper} {Q:Exit→Act→World→Prop} {S:World→Prop} {a:Act} {W:World} {cores:List Core}
/-- a call that answers what the kind tells -/
theorem core_callE (c:Core) (xs:List Operand) (hd:Operand) (tys:Array TypeId) (ty:TypeId) (pos:String) (after:Array Edge) (gd:Option (Nat × Bool))
  (ho:ops[c.i]? = some ⟨some c.d,.call ⟨.value hd,xs.toArray,tys⟩,ty,pos,after,gd⟩) (hg:Wants ops a cores c.pre gd true) (hnew:c.kind.new=false)
  (C : ∀ (vs : List Value) (w : World), Fit a cores vs → Below W.heap.size W w → (∀ j ∈ c.pre, ∀ d : Core, cores[j]? = some d → ∃ v, vs[j]? = some v ∧ d.kind.p v w) →
   ∃ f us,(execOp (over a (cores.map (·.d)) vs).eval ⟨some c.d,.call ⟨.value hd,xs.toArray,tys⟩,ty,pos,after,gd⟩).run P w=.ok (.enter f us) w∧Calls P f us w fun e w'=>∃ v,e=.returned v∧Below w.heap.size w w'∧c.kind.p v w'):StepOK P ops Q a W cores c:=by
 intro vs w hl hbw hp o ho' K hK
 rw [ho] at ho'
 obtain rfl:=Option.some.inj ho'
 obtain ⟨f,us,hrun,hC⟩:=C vs w hl hbw hp
 refine want_if (hg vs w hl hp _ rfl) ?_
 unfold Oper.wp
 rw [hrun,Oper.upon_enter]
 refine hC.mono fun e w' ⟨v,he,hb,hq⟩=>?_
 subst he
 exact hK.out v w' hb hq (fun h=>by rw [hnew] at h;cases h)
/-- an operation that gives what a number tells -/
theorem core_opClo (c:Core) (op:Op) (ty:TypeId) (pos:String) (after:Array Edge) (mk:Nat→Value) (q:Nat→World→Prop) (st:(∀ g h,mk g=mk h→g=h)∧∀ g w w',q g w→Below w.heap.size w w'→q g w')
  (ho:ops[c.i]? = some ⟨some c.d,op,ty,pos,after,none⟩) (hk:c.kind=Kind.clo mk q st)
  (C : ∀ (vs : List Value) (w : World), Fit a cores vs → Below W.heap.size W w → (∀ j ∈ c.pre, ∀ d : Core, cores[j]? = some d → ∃ v, vs[j]? = some v ∧ d.kind.p v w) →
   ∃ g w',(execOp (over a (cores.map (·.d)) vs).eval ⟨some c.d,op,ty,pos,after,none⟩).run P w=.ok (.value (mk g)) w'∧Below w.heap.size w w'∧q g w'):StepOK P ops Q a W cores c:=by
 intro vs w hl hbw hp o ho' K hK
 rw [ho] at ho'
 obtain rfl:=Option.some.inj ho'
 obtain ⟨g,w',hrun,hb,hq⟩:=C vs w hl hbw hp
 refine want_none rfl (wp_of_run_value hrun ?_)
 exact hK.out _ _ hb (by rw [hk];exact ⟨g,rfl,hq⟩) (fun h=>by rw [hk] at h;cases h)
theorem known_gv {e:Bool} {pre:List Nat} {x:Operand} {u:Value} (he:e=true) (h:Known a cores pre x (gv e u)):Known a cores pre x u:=by subst he;exact h
theorem coreS_gv (c:Core) (op:Op) (ty:TypeId) (pos:String) (after:Array Edge) (gk:Nat) (b e:Bool) (u:Value)
  (ho:ops[c.i]? = some ⟨some c.d,op,ty,pos,after,some (gk,b)⟩) (hk:c.kind=Kind.val (gv e u)) (hg:Wants ops a cores c.pre (some (gk,b)) e)
  (h:e=true→∀ (ρ:Operand→Value) (w:World),(∀ (x:Operand) (v:Value),Known a cores c.pre x v→ρ x=v)→S w→(execOp ρ ⟨some c.d,op,ty,pos,after,some (gk,b)⟩).run P w=.ok (.value u) w):PureOK P ops S a W cores c:=by
 cases e
 ·exact coreG_skip c op ty pos after _ ho hk hg
 ·exact coreS c op ty pos after _ u ho hk hg (h rfl)
theorem coreG_callgv (c:Core) (f:FuncId) (fn:Func) (code:Code) (xs:List Operand) (us:List Value) (tys:Array TypeId) (ty:TypeId) (pos:String) (after:Array Edge) (gk:Nat) (b e:Bool) (u:Value)
  (ho:ops[c.i]? = some ⟨some c.d,.call ⟨.value (.func f),xs.toArray,tys⟩,ty,pos,after,some (gk,b)⟩) (hf:P.funcs[f]? = some fn) (hn:(fn.name == "runtime.NumGoroutine")=false) (hb:fn.body=some code)
  (hk:c.kind=Kind.val (gv e u)) (hg:Wants ops a cores c.pre (some (gk,b)) e) (hx:e=true→Args a cores c.pre xs us)
  (C:e=true→∀ w,Calls P f us.toArray w fun e w'=>e=.returned u∧Below w.heap.size w w'):StepOK P ops Q a W cores c:=by
 cases e
 ·intro vs w hl hbw hp o ho' K hK
  rw [ho] at ho'
  obtain rfl:=Option.some.inj ho'
  have h:=hg vs w hl hp ⟨some c.d,.call ⟨.value (.func f),xs.toArray,tys⟩,ty,pos,after,some (gk,b)⟩ rfl
  rw [if_neg (by rw [h];decide)]
  exact hK.out undef w (Below.refl _ _) (by rw [hk];exact rfl) (fun h=>by rw [hk] at h;cases h)
 ·exact coreG_call c f fn code xs us tys ty pos after _ u ho hf hn hb hk hg (hx rfl) (C rfl)
end
end Go.Proofs.YtlphnfajhpkleaaDoor

/-
 What the row's condition says of the two tables,as the walk reads them.
-/
namespace Go.Proofs.YtlphnfajhpkleaaDoor.By
set_option maxRecDepth 100000
open Go.RowKit
set_option linter.unusedSimpArgs false
set_option linter.unusedVariables false

def zcubes:List Int:=cubes.map fun x:Nat=>(x:Int)
def zinit:List Int:=init.list.map fun x:Nat=>(x:Int)
theorem tabs_of {W:World} (h:laidMet Tryd.prog [("balefire/shas.cubes",Rows.laid_balefire_shas_cubes),("balefire/shas.squares",Rows.laid_balefire_shas_squares)] W):Tabs W:=by
 have h1:laidMet Tryd.prog (("balefire/shas.cubes",Lib.tabData .u32 zcubes)::[("balefire/shas.squares",Rows.laid_balefire_shas_squares)]) W:=h
 have h2:laidMet Tryd.prog (("balefire/shas.squares",Lib.tabData .u32 zinit)::[]) W:=h.filter (fun x=>x.1 == "balefire/shas.squares")
 have t1:=Lib.tabIs_of_head (g:=1) (t:=126) (e:=109) (n:=64) (by kernel_rfl) (by kernel_rfl) Tryd.underlying126 Tryd.underlying109 (by kernel_rfl) (by kernel_rfl) h1
 have t2:=Lib.tabIs_of_head (g:=0) (t:=111) (e:=109) (n:=8) (by kernel_rfl) (by kernel_rfl) Tryd.underlying111 Tryd.underlying109 (by kernel_rfl) (by kernel_rfl) h2
 refine ⟨fun i hi=>?_,fun j v hv=>?_⟩
 ·have:=t1.cell (g:=1) (by kernel_rfl) i (by simp [zcubes,cubes_len];exact hi)
  rw [this]
  simp [zcubes,List.getD]
  rw [List.getElem?_eq_getElem (by rw [cubes_len];exact hi)];rfl
 ·have hj:j<8:=by have:=(List.getElem?_eq_some_iff.1 hv).1;simpa [hs_len,St.list] using this
  have:=t2.cell (g:=0) (by kernel_rfl) j (by simp [zinit,St.list];exact hj)
  rw [Nat.zero_add,this]
  match j,hj,hv with
  | 0,_,hv | 1,_,hv | 2,_,hv | 3,_,hv | 4,_,hv | 5,_,hv | 6,_,hv | 7,_,hv=>exact hv
end Go.Proofs.YtlphnfajhpkleaaDoor.By

/-
 How the statements' arguments are read: hashes,signatures,what a law is given;what the row's condition says of the tables.
-/
namespace Go.Proofs.YtlphnfajhpkleaaDoor
set_option maxRecDepth 100000
open Go.RowKit Go.WideShapes Go.ChangeShapes Go.ChangeAt
set_option linter.unusedSimpArgs false
set_option linter.unusedVariables false

theorem cellsH:Tryd.prog.cellsOf 28=32:=by kernel_rfl
theorem cells8:Tryd.prog.cellsOf 5=1:=by kernel_rfl
theorem cellsSg:Tryd.prog.cellsOf 30=8:=by kernel_rfl
theorem cellsV:Tryd.prog.cellsOf 32=52:=by kernel_rfl
section
variable {H:Type} {enc:TypeId × Value→H} {w:World} {held:Bool}
theorem open_nv {fuel:Nat} {l:List Value} {x:DataW H × List MemPlace} (h:DataW.trod enc Tryd.prog w 0 (fun _=>true) held fuel 24 l=some x):∃ X:Nat,X<2^256∧l=nv X:=by
 obtain ⟨_,_,_,_,hl,_⟩:=DataW.trod_array Tryd.underlying24 h
 rw [Tryd.cells24] at hl
 match l,hl with
 | [c0,c1,c2,c3],_=>
  obtain ⟨X,hX,rfl,rfl,rfl,rfl⟩:=open_four h
  exact ⟨X,hX,rfl⟩
theorem open_hl {fuel:Nat} {l:List Value} {x:DataW H × List MemPlace} (h:DataW.trod enc Tryd.prog w 0 (fun _=>true) held fuel 28 l=some x):∃ k:Nat→Nat,(∀ i,k i<256)∧l=hl k:=by
 obtain ⟨xs,m,rfl,_,hl',hn,he⟩:=DataW.trod_array Tryd.underlying28 h
 rw [cellsH] at hl'
 rw [cells8] at he
 have each:∀ i,i<32→∃ n:Nat,n<256∧l[i]? = some (.int .u8 (n:Nat)):=fun i hi=>by
  have e:=he i hi
  rw [List.getElem?_eq_getElem (by omega),Nat.mul_one] at e
  have e2:(l.drop i).take 1=[l[i]'(by omega)]:=by
   rw [List.drop_eq_getElem_cons (by omega)];rfl
  rw [e2] at e
  obtain ⟨n,en,_,hw⟩:=DataW.trod_int Tryd.underlying5 e
  have bd:=bounds_u8 hw
  refine ⟨n.toNat,by omega,?_⟩
  rw [List.getElem?_eq_getElem (by omega),(List.cons.inj en).1,Int.toNat_of_nonneg bd.1]
 refine ⟨fun i=>if hi:i<32 then (each i hi).choose else 0,fun i=>?_,?_⟩
 ·dsimp only
  split
  ·rename_i hi;exact (each i hi).choose_spec.1
  ·decide
 ·refine List.ext_getElem? fun i=>?_
  by_cases hi:i<32
  ·have hr:(hl fun i=>if hi:i<32 then (each i hi).choose else 0)[i]? = some (.int .u8 ((if hi:i<32 then (each i hi).choose else 0:Nat):Int)):=by
    unfold hl
    rw [show [0,1,2,3,4,5,6,7,8,9,10,11,12,13,14,15,16,17,18,19,20,21,22,23,24,25,26,27,28,29,30,31]=List.range 32 from rfl,List.getElem?_map,List.getElem?_range hi]
    rfl
   rw [hr,dif_pos hi]
   exact (each i hi).choose_spec.2
  ·rw [List.getElem?_eq_none (by omega),List.getElem?_eq_none (by simp [hl];omega)]
theorem open_sgl {fuel:Nat} {l:List Value} {x:DataW H × List MemPlace} (h:DataW.trod enc Tryd.prog w 0 (fun _=>true) held fuel 30 l=some x):∃ C S:Nat,C<2^256∧S<2^256∧l=sgl C S:=by
 obtain ⟨xs,m,_,_,hl',hlen,hf⟩:=DataW.trod_struct Tryd.underlying30 h
 rw [cellsSg] at hl'
 match xs,hlen with
 | [y0,y1],_=>
  have h0:DataW.trod enc Tryd.prog w 0 (fun _=>true) held m 24 (l.take 4)=some y0:=by simpa [Tryd.cells24] using hf 0 _ rfl
  have h1:DataW.trod enc Tryd.prog w 0 (fun _=>true) held m 24 ((l.drop 4).take 4)=some y1:=by simpa [Tryd.cells24] using hf 1 _ rfl
  obtain ⟨C,hC,e0⟩:=open_nv h0
  obtain ⟨S,hS,e1⟩:=open_nv h1
  refine ⟨C,S,hC,hS,?_⟩
  unfold sgl
  rw [← e0,← e1,List.take_of_length_le (l:=l.drop 4) (by simp;omega),List.take_append_drop]
theorem open_gvl {fuel:Nat} {l:List Value} {x:DataW H × List MemPlace} (h:DataW.trod enc Tryd.prog w 0 (fun _=>true) held fuel 32 l=some x):∃ (A B K:Nat) (k:Nat→Nat) (C S:Nat),A<2^256∧B<2^256∧K<2^256∧(∀ i,k i<256)∧C<2^256∧S<2^256∧l=gvl A B K k C S:=by
 obtain ⟨xs,m,_,_,hl',hlen,hf⟩:=DataW.trod_struct Tryd.underlying32 h
 rw [cellsV] at hl'
 match xs,hlen with
 | [y0,y1,y2,y3,y4],_=>
  have h0:DataW.trod enc Tryd.prog w 0 (fun _=>true) held m 24 (l.take 4)=some y0:=by simpa [Tryd.cells24] using hf 0 _ rfl
  have h1:DataW.trod enc Tryd.prog w 0 (fun _=>true) held m 24 ((l.drop 4).take 4)=some y1:=by simpa [Tryd.cells24] using hf 1 _ rfl
  have h2:DataW.trod enc Tryd.prog w 0 (fun _=>true) held m 24 ((l.drop 8).take 4)=some y2:=by simpa [Tryd.cells24] using hf 2 _ rfl
  have h3:DataW.trod enc Tryd.prog w 0 (fun _=>true) held m 28 ((l.drop 12).take 32)=some y3:=by simpa [cellsH] using hf 3 _ rfl
  have h4:DataW.trod enc Tryd.prog w 0 (fun _=>true) held m 30 ((l.drop 44).take 8)=some y4:=by simpa [cellsSg] using hf 4 _ rfl
  obtain ⟨A,hA,e0⟩:=open_nv h0
  obtain ⟨B,hB,e1⟩:=open_nv h1
  obtain ⟨K,hK,e2⟩:=open_nv h2
  obtain ⟨k,hk,e3⟩:=open_hl h3
  obtain ⟨C,S,hC,hS,e4⟩:=open_sgl h4
  refine ⟨A,B,K,k,C,S,hA,hB,hK,hk,hC,hS,?_⟩
  unfold gvl
  have t:∀ a b:Nat,(l.drop a).take b++l.drop (a+b)=l.drop a:=fun a b=>by
   have:=List.take_append_drop b (l.drop a)
   rwa [List.drop_drop] at this
  rw [← e0,← e1,← e2,← e3,← e4,List.take_of_length_le (l:=l.drop 44) (by simp;omega),t 12 32,t 8 4,t 4 4,List.take_append_drop]
theorem okWide_str {base:Nat} {t:TypeId} {fs:Array Field} {v:Value} (ht:Tryd.prog.underlying t=some (.struct fs)) (h:Value.okWide Tryd.prog w .any base t v):∃ cs,v=.agg cs∧cs.size=Tryd.prog.cellsOf t:=by
 simp only [Value.okWide,ht] at h
 obtain ⟨cs,h1,h2,_⟩:=h
 exact ⟨cs,h1,h2⟩
theorem open_hash {base:Nat} {v:Value} {d:DataW H} {p:List MemPlace} (hv:Value.okWide Tryd.prog w .any base 28 v) (h:DataW.Trod enc Tryd.prog w 0 (fun _=>true) held 28 v d p):∃ k:Nat→Nat,(∀ i,k i<256)∧v=hsv k:=by
 obtain ⟨cs,rfl,_⟩:=okWide_arr Tryd.underlying28 hv
 obtain ⟨fuel,hf⟩:=h
 obtain ⟨k,hk,e⟩:=open_hl hf
 exact ⟨k,hk,by unfold hsv;rw [← e];rfl⟩
theorem open_giv13 {base:Nat} {v:Value} {d:DataW H} {p:List MemPlace} (hv:Value.okWide Tryd.prog w .any base 32 v) (h:DataW.Trod enc Tryd.prog w 0 (fun _=>true) held 32 v d p):∃ (A B K:Nat) (k:Nat→Nat) (C S:Nat),v=gvv A B K k C S∧A<2^256∧B<2^256∧K<2^256∧(∀ i,k i<256)∧C<2^256∧S<2^256:=by
 obtain ⟨cs,rfl,_⟩:=okWide_str Tryd.underlying32 hv
 obtain ⟨fuel,hf⟩:=h
 obtain ⟨A,B,K,k,C,S,hA,hB,hK,hk,hC,hS,e⟩:=open_gvl hf
 exact ⟨A,B,K,k,C,S,by unfold gvv;rw [← e];rfl,hA,hB,hK,hk,hC,hS⟩
end
/-- a table's cells,off what the row says that it holds -/
def tabCells:DataW Unit→Array Value
 | .agg ds=>(ds.map fun | .lit (.int k z)=>Value.int k z | _=>undef).toArray
 | _=>#[]
def lay (c:Array Value):Obj→Obj
 | .cells _ t frozen=>.cells c t frozen
 | o=>o
/-- a world for the witness: the settled one,the tables holding what their initialisers lay -/
noncomputable def laidWorld (os:Os):World:=
 { World.holding Tryd.prog os ⟨#[],#[],[]⟩ with heap:=(((World.holding Tryd.prog os ⟨#[],#[],[]⟩).heap.modify 0 (lay (tabCells Rows.laid_balefire_shas_squares))).modify 1 (lay (tabCells Rows.laid_balefire_shas_cubes))) }
end Go.Proofs.YtlphnfajhpkleaaDoor
