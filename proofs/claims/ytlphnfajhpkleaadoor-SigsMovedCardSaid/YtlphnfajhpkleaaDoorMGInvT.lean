/-
 How the statements' arguments are read: a long number,three of them in an array.
-/
import Derived.Test.YtlphnfajhpkleaaDoorRows
import Derived.ProofKit
import Derived.OpenShut
import Derived.ShutString
import Derived.ChangeOld
import Derived.SizedLaws
import Derived.Below
import Derived.ChangeArms
import Derived.Deep.Slices
import Derived.Deep.Cut
import Derived.Test.YtlphnfajhpkleaaDoorMMod10
import Derived.Test.YtlphnfajhpkleaaDoorMMod9
import Derived.Test.YtlphnfajhpkleaaDoorMMult
import Derived.Test.YtlphnfajhpkleaaDoorMRsn
import Derived.Test.YtlphnfajhpkleaaDoorMSmall
namespace Go.Proofs.YtlphnfajhpkleaaDoor
set_option maxRecDepth 100000
set_option linter.unusedSimpArgs false
set_option linter.unusedVariables false
open Go.ChangeShapes Go.WideShapes Go.ChangeAt Go.RowKit

theorem own:ownKnob Tryd.prog.godebug=none:=by kernel_rfl
theorem laidOut:laidOutB Tryd.prog=true:=by kernel_rfl
theorem Tryd.cells24:Tryd.prog.cellsOf 24=4:=by kernel_rfl
theorem Tryd.cells22:Tryd.prog.cellsOf 22=1:=by kernel_rfl

section
variable {H:Type} {enc:TypeId × Value→H} {w:World} {held:Bool}

theorem open_word {fuel:Nat} {c:Value} {x:DataW H × List MemPlace} (h:DataW.trod enc Tryd.prog w 0 (fun _=>true) held fuel 22 [c]=some x) :
  ∃ n:Nat,c=.int .u64 (n:Int)∧n<18446744073709551616:=by
 obtain ⟨n,e,_,hw⟩:=DataW.trod_int Tryd.underlying22 h
 have bd:=bounds_u64 hw
 simp at e
 exact ⟨n.toNat,by rw [e,Int.toNat_of_nonneg bd.1],by omega⟩

theorem open_four {fuel:Nat} {c0 c1 c2 c3:Value} {x:DataW H × List MemPlace} (h:DataW.trod enc Tryd.prog w 0 (fun _=>true) held fuel 24 [c0,c1,c2,c3]=some x) :
  ∃ X:Nat,X<2^256∧c0=.int .u64 (wd X 0:Nat)∧c1=.int .u64 (wd X 1:Nat)∧c2=.int .u64 (wd X 2:Nat)∧c3=.int .u64 (wd X 3:Nat):=by
 obtain ⟨xs,m,rfl,hx,hl,hn,he⟩:=DataW.trod_array Tryd.underlying24 h
 rw [Tryd.cells22] at he
 match xs,hn with
 | [x0,x1,x2,x3],_=>
  have e0:=he 0 (by omega)
  have e1:=he 1 (by omega)
  have e2:=he 2 (by omega)
  have e3:=he 3 (by omega)
  simp at e0 e1 e2 e3
  obtain ⟨a,rfl,wa⟩:=open_word e0
  obtain ⟨b,rfl,wb⟩:=open_word e1
  obtain ⟨p,rfl,wp⟩:=open_word e2
  obtain ⟨q,rfl,wq⟩:=open_word e3
  obtain ⟨X,hX⟩:∃ X,X=a+18446744073709551616*b+340282366920938463463374607431768211456*p+6277101735386680763835789423207666416102355444464034512896*q:=⟨_,rfl⟩
  obtain ⟨f0,f1,f2,f3⟩:=wd_of a b p q wa wb wp wq X hX
  exact ⟨X,by omega,by rw [f0],by rw [f1],by rw [f2],by rw [f3]⟩

theorem okWide_arr {base n:Nat} {t e:TypeId} {v:Value} (ht:Tryd.prog.underlying t=some (.array n e)) (h:Value.okWide Tryd.prog w .any base t v):∃ cs,v=.agg cs∧cs.size=Tryd.prog.cellsOf t:=by
 simp only [Value.okWide,ht] at h
 obtain ⟨cs,h1,h2,_⟩:=h
 exact ⟨cs,h1,h2⟩

/-- a long number -/
theorem open_num {base:Nat} {v:Value} {d:DataW H} {p:List MemPlace} (hv:Value.okWide Tryd.prog w .any base 24 v) (h:DataW.Trod enc Tryd.prog w 0 (fun _=>true) held 24 v d p) :
  ∃ X:Nat,X<2^256∧v=num X:=by
 obtain ⟨cs,rfl,hsz⟩:=okWide_arr Tryd.underlying24 hv
 obtain ⟨fuel,hf⟩:=h
 rw [Tryd.cells24] at hsz
 obtain ⟨cs⟩:=cs
 match cs,hsz with
 | [c0,c1,c2,c3],_=>
  simp [Value.cells] at hf
  obtain ⟨X,hX,rfl,rfl,rfl,rfl⟩:=open_four hf
  exact ⟨X,hX,rfl⟩

end
end Go.Proofs.YtlphnfajhpkleaaDoor

/-
 Reasons in memory: a reason as a value,a list of reasons as a slice;what stays while the world grows. How the statements' reasons are read.
-/
namespace Go.Proofs.YtlphnfajhpkleaaDoor
set_option maxRecDepth 100000
open Go.RowKit
set_option linter.unusedSimpArgs false
set_option linter.unusedVariables false

open Pr (Rsn)
/-- a reason,as a value -/
abbrev rv (n y:Nat) (s:Value):Value:=.agg #[.int .u64 (wd n 0:Nat),.int .u64 (wd n 1:Nat),.int .u64 (wd n 2:Nat),.int .u64 (wd n 3:Nat),.int .u64 (wd y 0:Nat),.int .u64 (wd y 1:Nat),.int .u64 (wd y 2:Nat),.int .u64 (wd y 3:Nat),s]

/-- the words of a number,in four cells -/
def W4 (w:World) (g off X:Nat):Prop:=X<2^256∧∀ k,k<4→w.cell? ⟨g,off+k,none⟩=some (.int .u64 (wd X k:Nat))

mutual
/-- a reason lies in nine cells -/
def RsAt (w:World):Rsn→Nat→Nat→Prop
 | .mk n y ps,g,off=>W4 w g off n∧W4 w g (off+4) y∧∃ a cap,w.cell? ⟨g,off+8,none⟩=some (.slice a ps.length cap)∧ps.length≤cap∧cap≤9223372036854775807∧(a=none→cap=0) ∧
   (ps=[]∨∃ g' off',a=some ⟨g',off',none⟩∧RsLs w ps g' off')
/-- reasons lie one behind the other -/
def RsLs (w:World):List Rsn→Nat→Nat→Prop
 | [],_,_=>True
 | r::rs,g,off=>RsAt w r g off∧RsLs w rs g (off+9)
end
/-- a slice tells a list of reasons -/
def Sl (w:World) (a:Option Addr) (cap:Nat) (ps:List Rsn):Prop:=
 ps.length≤cap∧cap≤9223372036854775807∧(a=none→cap=0)∧(ps=[]∨∃ g off,a=some ⟨g,off,none⟩∧RsLs w ps g off)

theorem W4.keep {w w':World} (hk:∀ p v,w.cell? p=some v→w'.cell? p=some v) {g off X:Nat} (h:W4 w g off X):W4 w' g off X:=⟨h.1,fun k hk'=>hk _ _ (h.2 k hk')⟩
mutual
theorem RsAt.keep {w w':World} (hk:∀ p v,w.cell? p=some v→w'.cell? p=some v):∀ (r:Rsn) {g off:Nat},RsAt w r g off→RsAt w' r g off
 | .mk n y ps,g,off,h=>by
   simp only [RsAt] at h ⊢
   obtain ⟨h1,h2,a,cap,hc,hl,hm,hn,hp⟩:=h
   refine ⟨h1.keep hk,h2.keep hk,a,cap,hk _ _ hc,hl,hm,hn,?_⟩
   rcases hp with h | ⟨g',off',e,h⟩
   ·exact Or.inl h
   ·exact Or.inr ⟨g',off',e,RsLs.keep hk ps h⟩
theorem RsLs.keep {w w':World} (hk:∀ p v,w.cell? p=some v→w'.cell? p=some v):∀ (ps:List Rsn) {g off:Nat},RsLs w ps g off→RsLs w' ps g off
 | [],_,_,_=>by simp only [RsLs]
 | r::rs,g,off,h=>by
   simp only [RsLs] at h ⊢
   exact ⟨RsAt.keep hk r h.1,RsLs.keep hk rs h.2⟩
end
theorem Sl.keep {w w':World} (hk:∀ p v,w.cell? p=some v→w'.cell? p=some v) {a:Option Addr} {cap:Nat} {ps:List Rsn} (h:Sl w a cap ps):Sl w' a cap ps:=by
 obtain ⟨hl,hm,hn,hp⟩:=h
 refine ⟨hl,hm,hn,?_⟩
 rcases hp with h | ⟨g',off',e,h⟩
 ·exact Or.inl h
 ·exact Or.inr ⟨g',off',e,RsLs.keep hk ps h⟩
theorem Sl.on {w w':World} {a:Option Addr} {cap:Nat} {ps:List Rsn} (h:Sl w a cap ps) (hb:Below w.heap.size w w'):Sl w' a cap ps:=h.keep fun _ _=>cell_on hb

theorem RsLs.get {w:World}:∀ {ps:List Rsn} {g off i:Nat} (h:RsLs w ps g off) (hi:i<ps.length),RsAt w ps[i] g (off+9*i)
 | r::rs,g,off,0,h,_=>by simp only [RsLs] at h;exact h.1
 | r::rs,g,off,i+1,h,hi=>by
   simp only [RsLs] at h
   have:=RsLs.get (i:=i) h.2 (by simpa using hi)
   rw [show off+9+9*i=off+9*(i+1) by omega] at this
   exact this
theorem RsLs.of {w:World}:∀ {ps:List Rsn} {g off:Nat},(∀ i (hi:i<ps.length),RsAt w ps[i] g (off+9*i))→RsLs w ps g off
 | [],_,_,_=>by simp only [RsLs]
 | r::rs,g,off,h=>by
   simp only [RsLs]
   refine ⟨h 0 (by simp),RsLs.of fun i hi=>?_⟩
   have:=h (i+1) (by simpa using hi)
   rw [show off+9+9*i=off+9*(i+1) by omega]
   exact this
/-- the i-th part of a slice -/
theorem Sl.get {w:World} {a:Option Addr} {cap:Nat} {ps:List Rsn} (h:Sl w a cap ps) {i:Nat} (hi:i<ps.length):∃ g off,a=some ⟨g,off,none⟩∧RsAt w ps[i] g (off+9*i):=by
 rcases h.2.2.2 with h | ⟨g,off,e,h⟩
 ·subst h;simp at hi
 ·exact ⟨g,off,e,h.get hi⟩

/-! ### how they are read -/
open Go.ChangeShapes Go.WideShapes Go.ChangeAt Go.Deep
instance : Inhabited Rsn := ⟨.mk 0 0 []⟩
section
variable {H:Type} {enc:TypeId × Value→H} {w:World} {held:Bool}
end
end Go.Proofs.YtlphnfajhpkleaaDoor

/-
 Blocks of api.Reason,nine cells: fields' addresses,loads,among the operations of a region that draws its order.
-/
namespace Go.Proofs.YtlphnfajhpkleaaDoor
set_option maxRecDepth 100000
open Go.RowKit
set_option linter.unusedSimpArgs false
set_option linter.unusedVariables false
attribute [local go_sem ↓] Go.wp_at_zero Go.wp_at_succ

section
variable (x:Operand) (dst:Option Tmp) (ty:TypeId) (pos:String) (after:Array Edge) (guard:Option (Nat × Bool)) (ρ:Operand→Value) (w:World) (g:Nat) (u0 u1 u2 u3 u4 u5 u6 u7 u8:Value)
theorem buildZ:(execOp ρ ⟨dst,.build 24 #[],ty,pos,after,guard⟩).run Tryd.prog w=.ok (.value (.agg #[.int .u64 0,.int .u64 0,.int .u64 0,.int .u64 0])) w:=by
 simp [execOp,go_sem]
end
section
variable {P:Program} {ops:Array Oper} {Q:Exit→Act→World→Prop} {md:Region.Mode} {S:World→Prop} {a:Act} {W:World} {cores:List Core}
/-- a guarded operation of one operand that may read memory of which S tells -/
theorem coreG_held (c:Core) (op:Op) (ty:TypeId) (pos:String) (after:Array Edge) (gd:Option (Nat × Bool)) (u:Value) (x:Operand) (xv:Value)
  (ho:ops[c.i]? = some ⟨some c.d,op,ty,pos,after,gd⟩) (hk:c.kind=Kind.val u) (hg:Wants ops a cores c.pre gd true) (hx:Known a cores c.pre x xv)
  (h:∀ (ρ:Operand→Value) (w:World),ρ x=xv→S w→(execOp ρ ⟨some c.d,op,ty,pos,after,gd⟩).run P w=.ok (.value u) w):PureOK P ops S a W cores c:=
 coreG_pure c _ ty pos after gd u ho hk hg fun vs w hl hp w' hS=>h _ w' (hx vs w hl hp) hS
end
end Go.Proofs.YtlphnfajhpkleaaDoor

/-
 mods: Add,Sub,Mul,Exp,Inv.
-/
namespace Go.Proofs.YtlphnfajhpkleaaDoor
open Go.RowKit
set_option linter.unusedSimpArgs false
set_option linter.unusedVariables false
attribute [local go_sem ↓] Go.wp_at_zero Go.wp_at_succ

set_option maxRecDepth 100000 in
set_option maxHeartbeats 8000000 in
theorem addw (A B M V:Nat) (er:Int)
  (c1:∀ w,Calls Tryd.prog 37 #[.agg #[.func (.func 46) #[] #[]],num A,num B,num M] w fun e w'=>e=.returned (.tuple #[num V,.int .i64 er])∧Below w.heap.size w w')
  (w:World):Calls Tryd.prog 31 #[num A,num B,num M] w fun e w'=>e=.returned (.tuple #[num V,.int .i64 er])∧Below w.heap.size w w':=by
 have Hc1:=Lib.hid c1
 clear c1
 go_enter Tryd.func31,Tryd.ntmps31
 go_wp2_with fail
 have BW:=Lib.hid (Below.refl w.heap.size w)
 generalize hW1:((((w.alloc (.cells #[.int .u64 (wd A 0:Nat),.int .u64 (wd A 1:Nat),.int .u64 (wd A 2:Nat),.int .u64 (wd A 3:Nat)] 24)).alloc (.cells #[.int .u64 (wd B 0:Nat),.int .u64 (wd B 1:Nat),.int .u64 (wd B 2:Nat),.int .u64 (wd B 3:Nat)] 24)).alloc (.cells #[.int .u64 (wd M 0:Nat),.int .u64 (wd M 1:Nat),.int .u64 (wd M 2:Nat),.int .u64 (wd M 3:Nat)] 24)).alloc (.cells #[.int .u64 0,.int .u64 0,.int .u64 0,.int .u64 0] 24))=W1 at *
 have Na:At W1 (w.heap.size) _ _:=at_of hW1 ((((At.at_ _ _ _ _ (by simp)).alloc _).alloc _).alloc _)
 have Nb:At W1 (w.heap.size+1) _ _:=at_of hW1 (((At.at_ _ _ _ _ (by simp)).alloc _).alloc _)
 have Nm:At W1 (w.heap.size+1+1) _ _:=at_of hW1 ((At.at_ _ _ _ _ (by simp)).alloc _)
 have No:At W1 (w.heap.size+1+1+1) _ _:=at_of hW1 (At.at_ _ _ _ _ (by simp))
 have Eo:w.heap.size≤w.heap.size+1+1+1:=by have:=BW.out.size;omega
 have Dao:w.heap.size≠w.heap.size+1+1+1:=by omega
 have Dbo:w.heap.size+1≠w.heap.size+1+1+1:=by omega
 have Dmo:w.heap.size+1+1≠w.heap.size+1+1+1:=by omega
 have NB:=gr_of hW1 (gr_alloc (gr_alloc (gr_alloc (gr_alloc BW.out _) _) _) _)
 clear BW
 clear hW1
 generalize w.heap.size+1+1+1=go at *
 generalize w.heap.size+1+1=gm at *
 generalize w.heap.size+1=gb at *
 obtain ⟨ga,hg0⟩:∃ g,g=w.heap.size:=⟨_,rfl⟩
 rw [← hg0] at Na ⊢
 rw [← hg0] at Dao
 clear hg0
 have Fa:=Lib.hid Na
 have Fb:=Lib.hid Nb
 have Fm:=Lib.hid Nm
 have Fo:=Lib.hid No
 have BW:=Lib.hid NB
 clear NB Na Nb Nm No
 refine (Hc1.out _).mono ?_
 rintro e v2 ⟨rfl,z2⟩
 have Na:=Lib.hid (Fa.out.on z2)
 have Nb:=Lib.hid (Fb.out.on z2)
 have Nm:=Lib.hid (Fm.out.on z2)
 have No:=Lib.hid (Fo.out.on z2)
 have NB:=Lib.hid (bel_tr BW.out z2)
 clear BW z2 Fa Fb Fm Fo
 have Fa:=Na
 have Fb:=Nb
 have Fm:=Nm
 have Fo:=No
 have BW:=NB
 clear NB Na Nb Nm No
 have Lo:=Fo.out.lt
 have co0:v2.cell? ⟨go,0,none⟩=some (.int .u64 0):=Fo.out.cell 0
 have co1:v2.cell? ⟨go,1,none⟩=some (.int .u64 0):=Fo.out.cell 1
 have co2:v2.cell? ⟨go,2,none⟩=some (.int .u64 0):=Fo.out.cell 2
 have co3:v2.cell? ⟨go,3,none⟩=some (.int .u64 0):=Fo.out.cell 3
 have fo0:v2.frozen? ⟨go,0,none⟩=false:=Fo.out.frozen 0
 have fo1:v2.frozen? ⟨go,1,none⟩=false:=Fo.out.frozen 1
 have fo2:v2.frozen? ⟨go,2,none⟩=false:=Fo.out.frozen 2
 have fo3:v2.frozen? ⟨go,3,none⟩=false:=Fo.out.frozen 3
 go_wp2_with fail
 generalize hW3:((((v2.setCell ⟨go,0,none⟩ (.int .u64 (wd V 0:Nat))).setCell ⟨go,1,none⟩ (.int .u64 (wd V 1:Nat))).setCell ⟨go,2,none⟩ (.int .u64 (wd V 2:Nat))).setCell ⟨go,3,none⟩ (.int .u64 (wd V 3:Nat)))=W3 at *
 clear Lo co0 co1 co2 co3 fo0 fo1 fo2 fo3
 have Na_0:=at_of hW3 ((Fa.out).far4 Dao _ _ _ _)
 have Nb_0:=at_of hW3 ((Fb.out).far4 Dbo _ _ _ _)
 have Nm_0:=at_of hW3 ((Fm.out).far4 Dmo _ _ _ _)
 have No_0:=at_of hW3 ((Fo.out).put4 _ _ _ _)
 have NB_0:=gr_of hW3 (((((BW.out).setCell Eo _).setCell Eo _).setCell Eo _).setCell Eo _)
 have Na:=Na_0
 have Nb:=Nb_0
 have Nm:=Nm_0
 have No:=No_0
 have NB:=NB_0
 clear BW Fa Fb Fm Fo Na_0 Nb_0 Nm_0 No_0 NB_0
 clear hW3
 have Fa:=Lib.hid Na
 have Fb:=Lib.hid Nb
 have Fm:=Lib.hid Nm
 have Fo:=Lib.hid No
 have BW:=Lib.hid NB
 clear NB Na Nb Nm No
 have Lo:=Fo.out.lt
 have co0:=Fo.out.c0
 have co1:=Fo.out.c1
 have co2:=Fo.out.c2
 have co3:=Fo.out.c3
 refine bodyPost_ret (v:=.tuple #[num V,.int .i64 er]) (by simp [results,Tryd.results31,go_sem, *]) rfl ⟨rfl,BW.out⟩

set_option maxRecDepth 100000 in
set_option maxHeartbeats 8000000 in
theorem subw (A B M V:Nat) (er:Int)
  (c1:∀ w,Calls Tryd.prog 37 #[.agg #[.func (.func 43) #[] #[]],num A,num B,num M] w fun e w'=>e=.returned (.tuple #[num V,.int .i64 er])∧Below w.heap.size w w')
  (w:World):Calls Tryd.prog 27 #[num A,num B,num M] w fun e w'=>e=.returned (.tuple #[num V,.int .i64 er])∧Below w.heap.size w w':=by
 have Hc1:=Lib.hid c1
 clear c1
 go_enter Tryd.func27,Tryd.ntmps27
 go_wp2_with fail
 have BW:=Lib.hid (Below.refl w.heap.size w)
 generalize hW1:((((w.alloc (.cells #[.int .u64 (wd A 0:Nat),.int .u64 (wd A 1:Nat),.int .u64 (wd A 2:Nat),.int .u64 (wd A 3:Nat)] 24)).alloc (.cells #[.int .u64 (wd B 0:Nat),.int .u64 (wd B 1:Nat),.int .u64 (wd B 2:Nat),.int .u64 (wd B 3:Nat)] 24)).alloc (.cells #[.int .u64 (wd M 0:Nat),.int .u64 (wd M 1:Nat),.int .u64 (wd M 2:Nat),.int .u64 (wd M 3:Nat)] 24)).alloc (.cells #[.int .u64 0,.int .u64 0,.int .u64 0,.int .u64 0] 24))=W1 at *
 have Na:At W1 (w.heap.size) _ _:=at_of hW1 ((((At.at_ _ _ _ _ (by simp)).alloc _).alloc _).alloc _)
 have Nb:At W1 (w.heap.size+1) _ _:=at_of hW1 (((At.at_ _ _ _ _ (by simp)).alloc _).alloc _)
 have Nm:At W1 (w.heap.size+1+1) _ _:=at_of hW1 ((At.at_ _ _ _ _ (by simp)).alloc _)
 have No:At W1 (w.heap.size+1+1+1) _ _:=at_of hW1 (At.at_ _ _ _ _ (by simp))
 have Eo:w.heap.size≤w.heap.size+1+1+1:=by have:=BW.out.size;omega
 have Dao:w.heap.size≠w.heap.size+1+1+1:=by omega
 have Dbo:w.heap.size+1≠w.heap.size+1+1+1:=by omega
 have Dmo:w.heap.size+1+1≠w.heap.size+1+1+1:=by omega
 have NB:=gr_of hW1 (gr_alloc (gr_alloc (gr_alloc (gr_alloc BW.out _) _) _) _)
 clear BW
 clear hW1
 generalize w.heap.size+1+1+1=go at *
 generalize w.heap.size+1+1=gm at *
 generalize w.heap.size+1=gb at *
 obtain ⟨ga,hg0⟩:∃ g,g=w.heap.size:=⟨_,rfl⟩
 rw [← hg0] at Na ⊢
 rw [← hg0] at Dao
 clear hg0
 have Fa:=Lib.hid Na
 have Fb:=Lib.hid Nb
 have Fm:=Lib.hid Nm
 have Fo:=Lib.hid No
 have BW:=Lib.hid NB
 clear NB Na Nb Nm No
 refine (Hc1.out _).mono ?_
 rintro e v2 ⟨rfl,z2⟩
 have Na:=Lib.hid (Fa.out.on z2)
 have Nb:=Lib.hid (Fb.out.on z2)
 have Nm:=Lib.hid (Fm.out.on z2)
 have No:=Lib.hid (Fo.out.on z2)
 have NB:=Lib.hid (bel_tr BW.out z2)
 clear BW z2 Fa Fb Fm Fo
 have Fa:=Na
 have Fb:=Nb
 have Fm:=Nm
 have Fo:=No
 have BW:=NB
 clear NB Na Nb Nm No
 have Lo:=Fo.out.lt
 have co0:v2.cell? ⟨go,0,none⟩=some (.int .u64 0):=Fo.out.cell 0
 have co1:v2.cell? ⟨go,1,none⟩=some (.int .u64 0):=Fo.out.cell 1
 have co2:v2.cell? ⟨go,2,none⟩=some (.int .u64 0):=Fo.out.cell 2
 have co3:v2.cell? ⟨go,3,none⟩=some (.int .u64 0):=Fo.out.cell 3
 have fo0:v2.frozen? ⟨go,0,none⟩=false:=Fo.out.frozen 0
 have fo1:v2.frozen? ⟨go,1,none⟩=false:=Fo.out.frozen 1
 have fo2:v2.frozen? ⟨go,2,none⟩=false:=Fo.out.frozen 2
 have fo3:v2.frozen? ⟨go,3,none⟩=false:=Fo.out.frozen 3
 go_wp2_with fail
 generalize hW3:((((v2.setCell ⟨go,0,none⟩ (.int .u64 (wd V 0:Nat))).setCell ⟨go,1,none⟩ (.int .u64 (wd V 1:Nat))).setCell ⟨go,2,none⟩ (.int .u64 (wd V 2:Nat))).setCell ⟨go,3,none⟩ (.int .u64 (wd V 3:Nat)))=W3 at *
 clear Lo co0 co1 co2 co3 fo0 fo1 fo2 fo3
 have Na_0:=at_of hW3 ((Fa.out).far4 Dao _ _ _ _)
 have Nb_0:=at_of hW3 ((Fb.out).far4 Dbo _ _ _ _)
 have Nm_0:=at_of hW3 ((Fm.out).far4 Dmo _ _ _ _)
 have No_0:=at_of hW3 ((Fo.out).put4 _ _ _ _)
 have NB_0:=gr_of hW3 (((((BW.out).setCell Eo _).setCell Eo _).setCell Eo _).setCell Eo _)
 have Na:=Na_0
 have Nb:=Nb_0
 have Nm:=Nm_0
 have No:=No_0
 have NB:=NB_0
 clear BW Fa Fb Fm Fo Na_0 Nb_0 Nm_0 No_0 NB_0
 clear hW3
 have Fa:=Lib.hid Na
 have Fb:=Lib.hid Nb
 have Fm:=Lib.hid Nm
 have Fo:=Lib.hid No
 have BW:=Lib.hid NB
 clear NB Na Nb Nm No
 have Lo:=Fo.out.lt
 have co0:=Fo.out.c0
 have co1:=Fo.out.c1
 have co2:=Fo.out.c2
 have co3:=Fo.out.c3
 refine bodyPost_ret (v:=.tuple #[num V,.int .i64 er]) (by simp [results,Tryd.results27,go_sem, *]) rfl ⟨rfl,BW.out⟩

set_option maxRecDepth 100000 in
set_option maxHeartbeats 8000000 in
theorem mulw (A B M V:Nat) (er:Int)
  (c1:∀ w,Calls Tryd.prog 37 #[.agg #[.func (.func 45) #[] #[]],num A,num B,num M] w fun e w'=>e=.returned (.tuple #[num V,.int .i64 er])∧Below w.heap.size w w')
  (w:World):Calls Tryd.prog 29 #[num A,num B,num M] w fun e w'=>e=.returned (.tuple #[num V,.int .i64 er])∧Below w.heap.size w w':=by
 have Hc1:=Lib.hid c1
 clear c1
 go_enter Tryd.func29,Tryd.ntmps29
 go_wp2_with fail
 have BW:=Lib.hid (Below.refl w.heap.size w)
 generalize hW1:((((w.alloc (.cells #[.int .u64 (wd A 0:Nat),.int .u64 (wd A 1:Nat),.int .u64 (wd A 2:Nat),.int .u64 (wd A 3:Nat)] 24)).alloc (.cells #[.int .u64 (wd B 0:Nat),.int .u64 (wd B 1:Nat),.int .u64 (wd B 2:Nat),.int .u64 (wd B 3:Nat)] 24)).alloc (.cells #[.int .u64 (wd M 0:Nat),.int .u64 (wd M 1:Nat),.int .u64 (wd M 2:Nat),.int .u64 (wd M 3:Nat)] 24)).alloc (.cells #[.int .u64 0,.int .u64 0,.int .u64 0,.int .u64 0] 24))=W1 at *
 have Na:At W1 (w.heap.size) _ _:=at_of hW1 ((((At.at_ _ _ _ _ (by simp)).alloc _).alloc _).alloc _)
 have Nb:At W1 (w.heap.size+1) _ _:=at_of hW1 (((At.at_ _ _ _ _ (by simp)).alloc _).alloc _)
 have Nm:At W1 (w.heap.size+1+1) _ _:=at_of hW1 ((At.at_ _ _ _ _ (by simp)).alloc _)
 have No:At W1 (w.heap.size+1+1+1) _ _:=at_of hW1 (At.at_ _ _ _ _ (by simp))
 have Eo:w.heap.size≤w.heap.size+1+1+1:=by have:=BW.out.size;omega
 have Dao:w.heap.size≠w.heap.size+1+1+1:=by omega
 have Dbo:w.heap.size+1≠w.heap.size+1+1+1:=by omega
 have Dmo:w.heap.size+1+1≠w.heap.size+1+1+1:=by omega
 have NB:=gr_of hW1 (gr_alloc (gr_alloc (gr_alloc (gr_alloc BW.out _) _) _) _)
 clear BW
 clear hW1
 generalize w.heap.size+1+1+1=go at *
 generalize w.heap.size+1+1=gm at *
 generalize w.heap.size+1=gb at *
 obtain ⟨ga,hg0⟩:∃ g,g=w.heap.size:=⟨_,rfl⟩
 rw [← hg0] at Na ⊢
 rw [← hg0] at Dao
 clear hg0
 have Fa:=Lib.hid Na
 have Fb:=Lib.hid Nb
 have Fm:=Lib.hid Nm
 have Fo:=Lib.hid No
 have BW:=Lib.hid NB
 clear NB Na Nb Nm No
 refine (Hc1.out _).mono ?_
 rintro e v2 ⟨rfl,z2⟩
 have Na:=Lib.hid (Fa.out.on z2)
 have Nb:=Lib.hid (Fb.out.on z2)
 have Nm:=Lib.hid (Fm.out.on z2)
 have No:=Lib.hid (Fo.out.on z2)
 have NB:=Lib.hid (bel_tr BW.out z2)
 clear BW z2 Fa Fb Fm Fo
 have Fa:=Na
 have Fb:=Nb
 have Fm:=Nm
 have Fo:=No
 have BW:=NB
 clear NB Na Nb Nm No
 have Lo:=Fo.out.lt
 have co0:v2.cell? ⟨go,0,none⟩=some (.int .u64 0):=Fo.out.cell 0
 have co1:v2.cell? ⟨go,1,none⟩=some (.int .u64 0):=Fo.out.cell 1
 have co2:v2.cell? ⟨go,2,none⟩=some (.int .u64 0):=Fo.out.cell 2
 have co3:v2.cell? ⟨go,3,none⟩=some (.int .u64 0):=Fo.out.cell 3
 have fo0:v2.frozen? ⟨go,0,none⟩=false:=Fo.out.frozen 0
 have fo1:v2.frozen? ⟨go,1,none⟩=false:=Fo.out.frozen 1
 have fo2:v2.frozen? ⟨go,2,none⟩=false:=Fo.out.frozen 2
 have fo3:v2.frozen? ⟨go,3,none⟩=false:=Fo.out.frozen 3
 go_wp2_with fail
 generalize hW3:((((v2.setCell ⟨go,0,none⟩ (.int .u64 (wd V 0:Nat))).setCell ⟨go,1,none⟩ (.int .u64 (wd V 1:Nat))).setCell ⟨go,2,none⟩ (.int .u64 (wd V 2:Nat))).setCell ⟨go,3,none⟩ (.int .u64 (wd V 3:Nat)))=W3 at *
 clear Lo co0 co1 co2 co3 fo0 fo1 fo2 fo3
 have Na_0:=at_of hW3 ((Fa.out).far4 Dao _ _ _ _)
 have Nb_0:=at_of hW3 ((Fb.out).far4 Dbo _ _ _ _)
 have Nm_0:=at_of hW3 ((Fm.out).far4 Dmo _ _ _ _)
 have No_0:=at_of hW3 ((Fo.out).put4 _ _ _ _)
 have NB_0:=gr_of hW3 (((((BW.out).setCell Eo _).setCell Eo _).setCell Eo _).setCell Eo _)
 have Na:=Na_0
 have Nb:=Nb_0
 have Nm:=Nm_0
 have No:=No_0
 have NB:=NB_0
 clear BW Fa Fb Fm Fo Na_0 Nb_0 Nm_0 No_0 NB_0
 clear hW3
 have Fa:=Lib.hid Na
 have Fb:=Lib.hid Nb
 have Fm:=Lib.hid Nm
 have Fo:=Lib.hid No
 have BW:=Lib.hid NB
 clear NB Na Nb Nm No
 have Lo:=Fo.out.lt
 have co0:=Fo.out.c0
 have co1:=Fo.out.c1
 have co2:=Fo.out.c2
 have co3:=Fo.out.c3
 refine bodyPost_ret (v:=.tuple #[num V,.int .i64 er]) (by simp [results,Tryd.results29,go_sem, *]) rfl ⟨rfl,BW.out⟩

set_option maxRecDepth 100000 in
set_option maxHeartbeats 8000000 in
theorem invw (A M V:Nat) (er:Int)
  (c1:∀ w,Calls Tryd.prog 37 #[.agg #[.func (.func 44) #[] #[]],num A,num A,num M] w fun e w'=>e=.returned (.tuple #[num V,.int .i64 er])∧Below w.heap.size w w')
  (w:World):Calls Tryd.prog 28 #[num A,num M] w fun e w'=>e=.returned (.tuple #[num V,.int .i64 er])∧Below w.heap.size w w':=by
 have Hc1:=Lib.hid c1
 clear c1
 go_enter Tryd.func28,Tryd.ntmps28
 go_wp2_with fail
 have BW:=Lib.hid (Below.refl w.heap.size w)
 generalize hW1:(((w.alloc (.cells #[.int .u64 (wd A 0:Nat),.int .u64 (wd A 1:Nat),.int .u64 (wd A 2:Nat),.int .u64 (wd A 3:Nat)] 24)).alloc (.cells #[.int .u64 (wd M 0:Nat),.int .u64 (wd M 1:Nat),.int .u64 (wd M 2:Nat),.int .u64 (wd M 3:Nat)] 24)).alloc (.cells #[.int .u64 0,.int .u64 0,.int .u64 0,.int .u64 0] 24))=W1 at *
 have Na:At W1 (w.heap.size) _ _:=at_of hW1 (((At.at_ _ _ _ _ (by simp)).alloc _).alloc _)
 have Nm:At W1 (w.heap.size+1) _ _:=at_of hW1 ((At.at_ _ _ _ _ (by simp)).alloc _)
 have No:At W1 (w.heap.size+1+1) _ _:=at_of hW1 (At.at_ _ _ _ _ (by simp))
 have Eo:w.heap.size≤w.heap.size+1+1:=by have:=BW.out.size;omega
 have Dao:w.heap.size≠w.heap.size+1+1:=by omega
 have Dmo:w.heap.size+1≠w.heap.size+1+1:=by omega
 have NB:=gr_of hW1 (gr_alloc (gr_alloc (gr_alloc BW.out _) _) _)
 clear BW
 clear hW1
 generalize w.heap.size+1+1=go at *
 generalize w.heap.size+1=gm at *
 obtain ⟨ga,hg0⟩:∃ g,g=w.heap.size:=⟨_,rfl⟩
 rw [← hg0] at Na ⊢
 rw [← hg0] at Dao
 clear hg0
 have Fa:=Lib.hid Na
 have Fm:=Lib.hid Nm
 have Fo:=Lib.hid No
 have BW:=Lib.hid NB
 clear NB Na Nm No
 refine (Hc1.out _).mono ?_
 rintro e v2 ⟨rfl,z2⟩
 have Na:=Lib.hid (Fa.out.on z2)
 have Nm:=Lib.hid (Fm.out.on z2)
 have No:=Lib.hid (Fo.out.on z2)
 have NB:=Lib.hid (bel_tr BW.out z2)
 clear BW z2 Fa Fm Fo
 have Fa:=Na
 have Fm:=Nm
 have Fo:=No
 have BW:=NB
 clear NB Na Nm No
 have Lo:=Fo.out.lt
 have co0:v2.cell? ⟨go,0,none⟩=some (.int .u64 0):=Fo.out.cell 0
 have co1:v2.cell? ⟨go,1,none⟩=some (.int .u64 0):=Fo.out.cell 1
 have co2:v2.cell? ⟨go,2,none⟩=some (.int .u64 0):=Fo.out.cell 2
 have co3:v2.cell? ⟨go,3,none⟩=some (.int .u64 0):=Fo.out.cell 3
 have fo0:v2.frozen? ⟨go,0,none⟩=false:=Fo.out.frozen 0
 have fo1:v2.frozen? ⟨go,1,none⟩=false:=Fo.out.frozen 1
 have fo2:v2.frozen? ⟨go,2,none⟩=false:=Fo.out.frozen 2
 have fo3:v2.frozen? ⟨go,3,none⟩=false:=Fo.out.frozen 3
 go_wp2_with fail
 generalize hW3:((((v2.setCell ⟨go,0,none⟩ (.int .u64 (wd V 0:Nat))).setCell ⟨go,1,none⟩ (.int .u64 (wd V 1:Nat))).setCell ⟨go,2,none⟩ (.int .u64 (wd V 2:Nat))).setCell ⟨go,3,none⟩ (.int .u64 (wd V 3:Nat)))=W3 at *
 clear Lo co0 co1 co2 co3 fo0 fo1 fo2 fo3
 have Na_0:=at_of hW3 ((Fa.out).far4 Dao _ _ _ _)
 have Nm_0:=at_of hW3 ((Fm.out).far4 Dmo _ _ _ _)
 have No_0:=at_of hW3 ((Fo.out).put4 _ _ _ _)
 have NB_0:=gr_of hW3 (((((BW.out).setCell Eo _).setCell Eo _).setCell Eo _).setCell Eo _)
 have Na:=Na_0
 have Nm:=Nm_0
 have No:=No_0
 have NB:=NB_0
 clear BW Fa Fm Fo Na_0 Nm_0 No_0 NB_0
 clear hW3
 have Fa:=Lib.hid Na
 have Fm:=Lib.hid Nm
 have Fo:=Lib.hid No
 have BW:=Lib.hid NB
 clear NB Na Nm No
 have Lo:=Fo.out.lt
 have co0:=Fo.out.c0
 have co1:=Fo.out.c1
 have co2:=Fo.out.c2
 have co3:=Fo.out.c3
 refine bodyPost_ret (v:=.tuple #[num V,.int .i64 er]) (by simp [results,Tryd.results28,go_sem, *]) rfl ⟨rfl,BW.out⟩

set_option maxRecDepth 100000 in
set_option maxHeartbeats 8000000 in
theorem expw (A N M V:Nat) (er:Int)
  (c1:∀ (gn:Nat) (w:World),At w gn 24 #[.int .u64 (wd N 0:Nat),.int .u64 (wd N 1:Nat),.int .u64 (wd N 2:Nat),.int .u64 (wd N 3:Nat)]→Calls Tryd.prog 37 #[.agg #[.func (.func 35) #[] #[.pointer (some ⟨gn,0,none⟩)]],num A,num A,num M] w fun e w'=>e=.returned (.tuple #[num V,.int .i64 er])∧Below w.heap.size w w')
  (w:World):Calls Tryd.prog 21 #[num A,num N,num M] w fun e w'=>e=.returned (.tuple #[num V,.int .i64 er])∧Below w.heap.size w w':=by
 have Hc1:=Lib.hid c1
 clear c1
 go_enter Tryd.func21,Tryd.ntmps21
 go_wp2_with fail
 have BW:=Lib.hid (Below.refl w.heap.size w)
 generalize hW1:((((w.alloc (.cells #[.int .u64 (wd A 0:Nat),.int .u64 (wd A 1:Nat),.int .u64 (wd A 2:Nat),.int .u64 (wd A 3:Nat)] 24)).alloc (.cells #[.int .u64 (wd N 0:Nat),.int .u64 (wd N 1:Nat),.int .u64 (wd N 2:Nat),.int .u64 (wd N 3:Nat)] 24)).alloc (.cells #[.int .u64 (wd M 0:Nat),.int .u64 (wd M 1:Nat),.int .u64 (wd M 2:Nat),.int .u64 (wd M 3:Nat)] 24)).alloc (.cells #[.int .u64 0,.int .u64 0,.int .u64 0,.int .u64 0] 24))=W1 at *
 have Na:At W1 (w.heap.size) _ _:=at_of hW1 ((((At.at_ _ _ _ _ (by simp)).alloc _).alloc _).alloc _)
 have Nn:At W1 (w.heap.size+1) _ _:=at_of hW1 (((At.at_ _ _ _ _ (by simp)).alloc _).alloc _)
 have Nm:At W1 (w.heap.size+1+1) _ _:=at_of hW1 ((At.at_ _ _ _ _ (by simp)).alloc _)
 have No:At W1 (w.heap.size+1+1+1) _ _:=at_of hW1 (At.at_ _ _ _ _ (by simp))
 have Eo:w.heap.size≤w.heap.size+1+1+1:=by have:=BW.out.size;omega
 have Dao:w.heap.size≠w.heap.size+1+1+1:=by omega
 have Dno:w.heap.size+1≠w.heap.size+1+1+1:=by omega
 have Dmo:w.heap.size+1+1≠w.heap.size+1+1+1:=by omega
 have NB:=gr_of hW1 (gr_alloc (gr_alloc (gr_alloc (gr_alloc BW.out _) _) _) _)
 clear BW
 clear hW1
 generalize w.heap.size+1+1+1=go at *
 generalize w.heap.size+1+1=gm at *
 generalize w.heap.size+1=gn at *
 obtain ⟨ga,hg0⟩:∃ g,g=w.heap.size:=⟨_,rfl⟩
 rw [← hg0] at Na ⊢
 rw [← hg0] at Dao
 clear hg0
 have Fa:=Lib.hid Na
 have Fn:=Lib.hid Nn
 have Fm:=Lib.hid Nm
 have Fo:=Lib.hid No
 have BW:=Lib.hid NB
 clear NB Na Nn Nm No
 refine (Hc1.out _ _ Fn.out).mono ?_
 rintro e v2 ⟨rfl,z2⟩
 have Na:=Lib.hid (Fa.out.on z2)
 have Nn:=Lib.hid (Fn.out.on z2)
 have Nm:=Lib.hid (Fm.out.on z2)
 have No:=Lib.hid (Fo.out.on z2)
 have NB:=Lib.hid (bel_tr BW.out z2)
 clear BW z2 Fa Fn Fm Fo
 have Fa:=Na
 have Fn:=Nn
 have Fm:=Nm
 have Fo:=No
 have BW:=NB
 clear NB Na Nn Nm No
 have Lo:=Fo.out.lt
 have co0:v2.cell? ⟨go,0,none⟩=some (.int .u64 0):=Fo.out.cell 0
 have co1:v2.cell? ⟨go,1,none⟩=some (.int .u64 0):=Fo.out.cell 1
 have co2:v2.cell? ⟨go,2,none⟩=some (.int .u64 0):=Fo.out.cell 2
 have co3:v2.cell? ⟨go,3,none⟩=some (.int .u64 0):=Fo.out.cell 3
 have fo0:v2.frozen? ⟨go,0,none⟩=false:=Fo.out.frozen 0
 have fo1:v2.frozen? ⟨go,1,none⟩=false:=Fo.out.frozen 1
 have fo2:v2.frozen? ⟨go,2,none⟩=false:=Fo.out.frozen 2
 have fo3:v2.frozen? ⟨go,3,none⟩=false:=Fo.out.frozen 3
 go_wp2_with fail
 generalize hW3:((((v2.setCell ⟨go,0,none⟩ (.int .u64 (wd V 0:Nat))).setCell ⟨go,1,none⟩ (.int .u64 (wd V 1:Nat))).setCell ⟨go,2,none⟩ (.int .u64 (wd V 2:Nat))).setCell ⟨go,3,none⟩ (.int .u64 (wd V 3:Nat)))=W3 at *
 clear Lo co0 co1 co2 co3 fo0 fo1 fo2 fo3
 have Na_0:=at_of hW3 ((Fa.out).far4 Dao _ _ _ _)
 have Nn_0:=at_of hW3 ((Fn.out).far4 Dno _ _ _ _)
 have Nm_0:=at_of hW3 ((Fm.out).far4 Dmo _ _ _ _)
 have No_0:=at_of hW3 ((Fo.out).put4 _ _ _ _)
 have NB_0:=gr_of hW3 (((((BW.out).setCell Eo _).setCell Eo _).setCell Eo _).setCell Eo _)
 have Na:=Na_0
 have Nn:=Nn_0
 have Nm:=Nm_0
 have No:=No_0
 have NB:=NB_0
 clear BW Fa Fn Fm Fo Na_0 Nn_0 Nm_0 No_0 NB_0
 clear hW3
 have Fa:=Lib.hid Na
 have Fn:=Lib.hid Nn
 have Fm:=Lib.hid Nm
 have Fo:=Lib.hid No
 have BW:=Lib.hid NB
 clear NB Na Nn Nm No
 have Lo:=Fo.out.lt
 have co0:=Fo.out.c0
 have co1:=Fo.out.c1
 have co2:=Fo.out.c2
 have co3:=Fo.out.c3
 refine bodyPost_ret (v:=.tuple #[num V,.int .i64 er]) (by simp [results,Tryd.results21,go_sem, *]) rfl ⟨rfl,BW.out⟩

theorem cmpN_le {X Y:Nat} (h:X≤Y):cmpN X Y≤0:=by unfold cmpN;split <;> (try split) <;> omega
theorem cmpN_ge {X Y:Nat} (h:Y≤X):0≤cmpN X Y:=by unfold cmpN;rw [if_neg (by omega)];split <;> omega
theorem cmpN_pos {X Y:Nat} (h:Y<X):0<cmpN X Y:=by rw [cmpN_gt h];omega
theorem cmpN_neg {X Y:Nat} (h:X<Y):cmpN X Y<0:=by rw [cmpN_lt h];omega

theorem with_not (A B M:Nat) (hA:A<2^256) (hB:B<2^256) (hM:M<2^256) (h:¬ (1<M∧A<M∧B<M)) (fv:Value) (w:World) :
  Calls Tryd.prog 37 #[.agg #[fv],num A,num B,num M] w fun e w'=>e=.returned (.tuple #[num 0,.int .i64 1])∧Below w.heap.size w w':=by
 rw [num_zero]
 by_cases h1:1<M
 ·by_cases h2:A<M
  ·exact with_bad2 A B M 1 fv _ _ _ (cmpN_pos h1) (cmpN_neg h2) (cmpN_ge (by omega)) (fun w=>of_any 1 (by decide) w) (fun w=>cmp_any M 1 hM (by decide) w) (fun w=>cmp_any A M hA hM w) (fun w=>cmp_any B M hB hM w) w
  ·exact with_bad1 A B M 1 fv _ _ (cmpN_pos h1) (cmpN_ge (by omega)) (fun w=>of_any 1 (by decide) w) (fun w=>cmp_any M 1 hM (by decide) w) (fun w=>cmp_any A M hA hM w) w
 ·exact with_bad0 A B M 1 fv _ (cmpN_le (by omega)) (fun w=>of_any 1 (by decide) w) (fun w=>cmp_any M 1 hM (by decide) w) w

/-- mods.Add,of numbers that may be -/
theorem madd_yes (A B M:Nat) (hM:M<2^256) (h1:1<M) (hA:A<M) (hB:B<M):∀ w,Calls Tryd.prog 31 #[num A,num B,num M] w fun e w'=>e=.returned (.tuple #[num ((A+B)%M),.int .i64 0])∧Below w.heap.size w w':=by
 exact fun w=>addw A B M _ _ (fun w=>with_sum A B M 1 _ _ _ _ _ (cmpN_pos h1) (cmpN_neg hA) (cmpN_neg hB) (fun w=>of_any 1 (by decide) w) (fun w=>cmp_any M 1 hM (by decide) w) (fun w=>cmp_any A M (by omega) hM w) (fun w=>cmp_any B M (by omega) hM w) (sum_any A B M hA hB hM) w) w
/-- mods.Add,of numbers that may not be -/
theorem madd_no (A B M:Nat) (hA:A<2^256) (hB:B<2^256) (hM:M<2^256) (h:¬ (1<M∧A<M∧B<M)):∀ w,Calls Tryd.prog 31 #[num A,num B,num M] w fun e w'=>e=.returned (.tuple #[num (0),.int .i64 1])∧Below w.heap.size w w':=fun w=>addw A B M _ _ (fun w=>with_not A B M hA hB hM h _ w) w

/-- mods.Mul,of numbers that may be -/
theorem mmul_yes (A B M:Nat) (hM:M<2^256) (h1:1<M) (hA:A<M) (hB:B<M):∀ w,Calls Tryd.prog 29 #[num A,num B,num M] w fun e w'=>e=.returned (.tuple #[num (A*B%M),.int .i64 0])∧Below w.heap.size w w':=by
 exact fun w=>mulw A B M _ _ (fun w=>with_product A B M 1 _ _ _ _ _ (cmpN_pos h1) (cmpN_neg hA) (cmpN_neg hB) (fun w=>of_any 1 (by decide) w) (fun w=>cmp_any M 1 hM (by decide) w) (fun w=>cmp_any A M (by omega) hM w) (fun w=>cmp_any B M (by omega) hM w) (prod_any A B M (by omega) (by omega) hM (by omega)) w) w
/-- mods.Sub,of numbers that may be -/
theorem msub_yes (A B M:Nat) (hM:M<2^256) (h1:1<M) (hA:A<M) (hB:B<M):∀ w,Calls Tryd.prog 27 #[num A,num B,num M] w fun e w'=>e=.returned (.tuple #[num ((A+M-B)%M),.int .i64 0])∧Below w.heap.size w w':=by
 obtain ⟨L,c,hL,hc,he,C⟩:=diff_ex A B M hA hB hM
 have e:(A+M-B)%M=L:=by
  have h01:c=0∨c=1:=by omega
  rcases h01 with rfl | rfl
  ·rw [show A+M-B=L+M by omega,Nat.add_mod_right,Nat.mod_eq_of_lt hL]
  ·rw [show A+M-B=L by omega,Nat.mod_eq_of_lt hL]
 rw [e]
 exact fun w=>subw A B M _ _ (fun w=>with_difference A B M 1 _ _ _ _ _ (cmpN_pos h1) (cmpN_neg hA) (cmpN_neg hB) (fun w=>of_any 1 (by decide) w) (fun w=>cmp_any M 1 hM (by decide) w) (fun w=>cmp_any A M (by omega) hM w) (fun w=>cmp_any B M (by omega) hM w) C w) w
/-- mods.Exp,of a number that may be -/
theorem mexp_yes (A N M:Nat) (hM:M<2^256) (hN:N<2^256) (h1:1<M) (hA:A<M):∀ w,Calls Tryd.prog 21 #[num A,num N,num M] w fun e w'=>e=.returned (.tuple #[num (A^N%M),.int .i64 0])∧Below w.heap.size w w':=fun w=>
 expw A N M _ _ (fun gn w at1=>with_power A A M 1 _ N gn _ _ _ _ (cmpN_pos h1) (cmpN_neg hA) (cmpN_neg hA) (fun w=>of_any 1 (by decide) w) (fun w=>cmp_any M 1 hM (by decide) w) (fun w=>cmp_any A M (by omega) hM w) (fun w=>cmp_any A M (by omega) hM w) (fun w at2=>expfn_walk gn A A M N _ (fun w=>raise_any A N M hA h1 hM hN w) w at2) w at1) w
/-- mods.Inv -/
theorem minv_yes (A M V:Nat) (hM:M<2^256) (h1:1<M) (hA:A<M) (hV:V<M) (hAV:A*V%M=1):∀ w,Calls Tryd.prog 28 #[num A,num M] w fun e w'=>e=.returned (.tuple #[num (V),.int .i64 0])∧Below w.heap.size w w':=fun w=>
 invw A M _ _ (fun w=>with_inverse A A M 1 _ _ _ _ _ (cmpN_pos h1) (cmpN_neg hA) (cmpN_neg hA) (fun w=>of_any 1 (by decide) w) (fun w=>cmp_any M 1 hM (by decide) w) (fun w=>cmp_any A M (by omega) hM w) (fun w=>cmp_any A M (by omega) hM w) (fun w=>(inverse_walk A A M hA h1 hM w).mono fun e w' ⟨v,er,he,hh,hb⟩=>by
  rcases hh with ⟨_,rfl,X,rfl,hX,hAX⟩ | ⟨hg,_⟩
  ·rw [inv_one A X V M hX hV hAX hAV] at he;exact ⟨he,hb⟩
  ·exact absurd (inv_gcd A M V h1 hAV) hg) w) w
end Go.Proofs.YtlphnfajhpkleaaDoor

/-
 Blocks of api.Group,sixteen cells: fields' addresses,loads,among the operations of a region that draws its order.
-/
namespace Go.Proofs.YtlphnfajhpkleaaDoor
set_option maxRecDepth 100000
open Go.RowKit
set_option linter.unusedSimpArgs false
set_option linter.unusedVariables false
attribute [local go_sem ↓] Go.wp_at_zero Go.wp_at_succ

abbrev grp (P Q G H:Nat):Value:=.agg #[.int .u64 (wd P 0:Nat),.int .u64 (wd P 1:Nat),.int .u64 (wd P 2:Nat),.int .u64 (wd P 3:Nat),.int .u64 (wd Q 0:Nat),.int .u64 (wd Q 1:Nat),.int .u64 (wd Q 2:Nat),.int .u64 (wd Q 3:Nat),.int .u64 (wd G 0:Nat),.int .u64 (wd G 1:Nat),.int .u64 (wd G 2:Nat),.int .u64 (wd G 3:Nat),.int .u64 (wd H 0:Nat),.int .u64 (wd H 1:Nat),.int .u64 (wd H 2:Nat),.int .u64 (wd H 3:Nat)]
section
variable (x:Operand) (dst:Option Tmp) (ty:TypeId) (pos:String) (after:Array Edge) (guard:Option (Nat × Bool)) (ρ:Operand→Value) (w:World) (g:Nat) (u0 u1 u2 u3 u4 u5 u6 u7 u8 u9 u10 u11 u12 u13 u14 u15:Value)
theorem fieldG0 (hx:ρ x=.pointer (some ⟨g,0,none⟩)):(execOp ρ ⟨dst,.fieldAddr 26 x 0,ty,pos,after,guard⟩).run Tryd.prog w=.ok (.value (.pointer (some ⟨g,0,none⟩))) w:=by
 simp [execOp,hx,go_sem]
theorem fieldG1 (hx:ρ x=.pointer (some ⟨g,0,none⟩)):(execOp ρ ⟨dst,.fieldAddr 26 x 1,ty,pos,after,guard⟩).run Tryd.prog w=.ok (.value (.pointer (some ⟨g,4,none⟩))) w:=by
 simp [execOp,hx,go_sem]
theorem fieldG2 (hx:ρ x=.pointer (some ⟨g,0,none⟩)):(execOp ρ ⟨dst,.fieldAddr 26 x 2,ty,pos,after,guard⟩).run Tryd.prog w=.ok (.value (.pointer (some ⟨g,8,none⟩))) w:=by
 simp [execOp,hx,go_sem]
theorem fieldG3 (hx:ρ x=.pointer (some ⟨g,0,none⟩)):(execOp ρ ⟨dst,.fieldAddr 26 x 3,ty,pos,after,guard⟩).run Tryd.prog w=.ok (.value (.pointer (some ⟨g,12,none⟩))) w:=by
 simp [execOp,hx,go_sem]
theorem loadG0 (hx:ρ x=.pointer (some ⟨g,0,none⟩)) (h:At w g 26 #[u0,u1,u2,u3,u4,u5,u6,u7,u8,u9,u10,u11,u12,u13,u14,u15]) :
  (execOp ρ ⟨dst,.load 24 x,ty,pos,after,guard⟩).run Tryd.prog w=.ok (.value (.agg #[u0,u1,u2,u3])) w:=by
 have c0:w.cell? ⟨g,0,none⟩=some u0:=h.cell 0
 have c1:w.cell? ⟨g,1,none⟩=some u1:=h.cell 1
 have c2:w.cell? ⟨g,2,none⟩=some u2:=h.cell 2
 have c3:w.cell? ⟨g,3,none⟩=some u3:=h.cell 3
 simp [execOp,hx,go_sem,c0,c1,c2,c3]
theorem loadG1 (hx:ρ x=.pointer (some ⟨g,4,none⟩)) (h:At w g 26 #[u0,u1,u2,u3,u4,u5,u6,u7,u8,u9,u10,u11,u12,u13,u14,u15]) :
  (execOp ρ ⟨dst,.load 24 x,ty,pos,after,guard⟩).run Tryd.prog w=.ok (.value (.agg #[u4,u5,u6,u7])) w:=by
 have c0:w.cell? ⟨g,4,none⟩=some u4:=h.cell 4
 have c1:w.cell? ⟨g,5,none⟩=some u5:=h.cell 5
 have c2:w.cell? ⟨g,6,none⟩=some u6:=h.cell 6
 have c3:w.cell? ⟨g,7,none⟩=some u7:=h.cell 7
 simp [execOp,hx,go_sem,c0,c1,c2,c3]
theorem loadG2 (hx:ρ x=.pointer (some ⟨g,8,none⟩)) (h:At w g 26 #[u0,u1,u2,u3,u4,u5,u6,u7,u8,u9,u10,u11,u12,u13,u14,u15]) :
  (execOp ρ ⟨dst,.load 24 x,ty,pos,after,guard⟩).run Tryd.prog w=.ok (.value (.agg #[u8,u9,u10,u11])) w:=by
 have c0:w.cell? ⟨g,8,none⟩=some u8:=h.cell 8
 have c1:w.cell? ⟨g,9,none⟩=some u9:=h.cell 9
 have c2:w.cell? ⟨g,10,none⟩=some u10:=h.cell 10
 have c3:w.cell? ⟨g,11,none⟩=some u11:=h.cell 11
 simp [execOp,hx,go_sem,c0,c1,c2,c3]
theorem loadG3 (hx:ρ x=.pointer (some ⟨g,12,none⟩)) (h:At w g 26 #[u0,u1,u2,u3,u4,u5,u6,u7,u8,u9,u10,u11,u12,u13,u14,u15]) :
  (execOp ρ ⟨dst,.load 24 x,ty,pos,after,guard⟩).run Tryd.prog w=.ok (.value (.agg #[u12,u13,u14,u15])) w:=by
 have c0:w.cell? ⟨g,12,none⟩=some u12:=h.cell 12
 have c1:w.cell? ⟨g,13,none⟩=some u13:=h.cell 13
 have c2:w.cell? ⟨g,14,none⟩=some u14:=h.cell 14
 have c3:w.cell? ⟨g,15,none⟩=some u15:=h.cell 15
 simp [execOp,hx,go_sem,c0,c1,c2,c3]
theorem loadG (hx:ρ x=.pointer (some ⟨g,0,none⟩)) (h:At w g 26 #[u0,u1,u2,u3,u4,u5,u6,u7,u8,u9,u10,u11,u12,u13,u14,u15]) :
  (execOp ρ ⟨dst,.load 26 x,ty,pos,after,guard⟩).run Tryd.prog w=.ok (.value (.agg #[u0,u1,u2,u3,u4,u5,u6,u7,u8,u9,u10,u11,u12,u13,u14,u15])) w:=by
 have c0:w.cell? ⟨g,0,none⟩=some u0:=h.cell 0
 have c1:w.cell? ⟨g,1,none⟩=some u1:=h.cell 1
 have c2:w.cell? ⟨g,2,none⟩=some u2:=h.cell 2
 have c3:w.cell? ⟨g,3,none⟩=some u3:=h.cell 3
 have c4:w.cell? ⟨g,4,none⟩=some u4:=h.cell 4
 have c5:w.cell? ⟨g,5,none⟩=some u5:=h.cell 5
 have c6:w.cell? ⟨g,6,none⟩=some u6:=h.cell 6
 have c7:w.cell? ⟨g,7,none⟩=some u7:=h.cell 7
 have c8:w.cell? ⟨g,8,none⟩=some u8:=h.cell 8
 have c9:w.cell? ⟨g,9,none⟩=some u9:=h.cell 9
 have c10:w.cell? ⟨g,10,none⟩=some u10:=h.cell 10
 have c11:w.cell? ⟨g,11,none⟩=some u11:=h.cell 11
 have c12:w.cell? ⟨g,12,none⟩=some u12:=h.cell 12
 have c13:w.cell? ⟨g,13,none⟩=some u13:=h.cell 13
 have c14:w.cell? ⟨g,14,none⟩=some u14:=h.cell 14
 have c15:w.cell? ⟨g,15,none⟩=some u15:=h.cell 15
 simp [execOp,hx,go_sem,c0,c1,c2,c3,c4,c5,c6,c7,c8,c9,c10,c11,c12,c13,c14,c15]
end
end Go.Proofs.YtlphnfajhpkleaaDoor

/-
 groups: mayMultiply,Mul,Inv,Exp,In;what they answer.
-/
namespace Go.Proofs.YtlphnfajhpkleaaDoor
set_option maxRecDepth 100000
open Go.RowKit
set_option linter.unusedSimpArgs false
set_option linter.unusedVariables false
attribute [local go_sem ↓] Go.wp_at_zero Go.wp_at_succ

theorem cmpN_lt0b {X Y:Nat} (h:X<Y):cmpN X Y<0:=by rw [cmpN_lt h];decide
theorem cmpN_nlt0 {X Y:Nat} (h:¬ X<Y):¬ cmpN X Y<0:=by unfold cmpN;rw [if_neg h];split <;> decide
/-- may a number be multiplied? -/
def mayB (P A:Nat):Bool:=decide (A≠0) && decide (A<P)
theorem mayB_iff {P A:Nat}:mayB P A=true ↔ A≠0∧A<P:=by simp [mayB]
set_option maxRecDepth 100000 in
set_option maxHeartbeats 8000000 in
theorem gmay_any (P Q G H A:Nat) (hP:P<2^256) (hA:A<2^256) (w:World):Calls Tryd.prog 20 #[grp P Q G H,num A] w fun e w'=>e=.returned (.bool (mayB P A))∧Below w.heap.size w w':=by
 have eqz:=eqZ A hA
 by_cases h0:A=0
 ·rw [decide_eq_true h0] at eqz
  rw [show mayB P A=false from by simp [mayB,h0]]
  clear h0 hP hA
  go_enter Tryd.func20,Tryd.ntmps20
  have BW:=Lib.hid (Below.refl w.heap.size w)
  go_upto_region 1 with fail
  generalize hW1:((w.alloc (.cells #[.int .u64 (wd P 0:Nat),.int .u64 (wd P 1:Nat),.int .u64 (wd P 2:Nat),.int .u64 (wd P 3:Nat),.int .u64 (wd Q 0:Nat),.int .u64 (wd Q 1:Nat),.int .u64 (wd Q 2:Nat),.int .u64 (wd Q 3:Nat),.int .u64 (wd G 0:Nat),.int .u64 (wd G 1:Nat),.int .u64 (wd G 2:Nat),.int .u64 (wd G 3:Nat),.int .u64 (wd H 0:Nat),.int .u64 (wd H 1:Nat),.int .u64 (wd H 2:Nat),.int .u64 (wd H 3:Nat)] 26)).alloc (.cells #[.int .u64 (wd A 0:Nat),.int .u64 (wd A 1:Nat),.int .u64 (wd A 2:Nat),.int .u64 (wd A 3:Nat)] 24))=W1 at *
  have Nr:At W1 (w.heap.size) _ _:=at_of hW1 ((At.at_ _ _ _ _ (by simp)).alloc _)
  have Na:At W1 (w.heap.size+1) _ _:=at_of hW1 (At.at_ _ _ _ _ (by simp))
  have NB:=gr_of hW1 (gr_alloc (gr_alloc BW.out _) _)
  clear hW1 BW 
  generalize w.heap.size+1=ga at *
  obtain ⟨gr,hg0⟩:∃ g,g=w.heap.size:=⟨_,rfl⟩
  rw [← hg0] at Nr ⊢
  clear hg0
  have Fr:=Lib.hid Nr
  have Fa:=Lib.hid Na
  have BW:=Lib.hid NB
  clear NB Nr Na
  have Lr:=Fr.out.lt
  have cr0:W1.cell? ⟨gr,0,none⟩=some (.int .u64 (wd P 0:Nat)):=Fr.out.cell 0
  have cr1:W1.cell? ⟨gr,1,none⟩=some (.int .u64 (wd P 1:Nat)):=Fr.out.cell 1
  have cr2:W1.cell? ⟨gr,2,none⟩=some (.int .u64 (wd P 2:Nat)):=Fr.out.cell 2
  have cr3:W1.cell? ⟨gr,3,none⟩=some (.int .u64 (wd P 3:Nat)):=Fr.out.cell 3
  have cr4:W1.cell? ⟨gr,4,none⟩=some (.int .u64 (wd Q 0:Nat)):=Fr.out.cell 4
  have cr5:W1.cell? ⟨gr,5,none⟩=some (.int .u64 (wd Q 1:Nat)):=Fr.out.cell 5
  have cr6:W1.cell? ⟨gr,6,none⟩=some (.int .u64 (wd Q 2:Nat)):=Fr.out.cell 6
  have cr7:W1.cell? ⟨gr,7,none⟩=some (.int .u64 (wd Q 3:Nat)):=Fr.out.cell 7
  have cr8:W1.cell? ⟨gr,8,none⟩=some (.int .u64 (wd G 0:Nat)):=Fr.out.cell 8
  have cr9:W1.cell? ⟨gr,9,none⟩=some (.int .u64 (wd G 1:Nat)):=Fr.out.cell 9
  have cr10:W1.cell? ⟨gr,10,none⟩=some (.int .u64 (wd G 2:Nat)):=Fr.out.cell 10
  have cr11:W1.cell? ⟨gr,11,none⟩=some (.int .u64 (wd G 3:Nat)):=Fr.out.cell 11
  have cr12:W1.cell? ⟨gr,12,none⟩=some (.int .u64 (wd H 0:Nat)):=Fr.out.cell 12
  have cr13:W1.cell? ⟨gr,13,none⟩=some (.int .u64 (wd H 1:Nat)):=Fr.out.cell 13
  have cr14:W1.cell? ⟨gr,14,none⟩=some (.int .u64 (wd H 2:Nat)):=Fr.out.cell 14
  have cr15:W1.cell? ⟨gr,15,none⟩=some (.int .u64 (wd H 3:Nat)):=Fr.out.cell 15
  have La:=Fa.out.lt
  have ca0:=Fa.out.c0
  have ca1:=Fa.out.c1
  have ca2:=Fa.out.c2
  have ca3:=Fa.out.c3
  go_wp2
  go_ret
  exact ⟨rfl,BW.out⟩
 ·rw [decide_eq_false h0] at eqz
  have HC:=Lib.hid (fun w=>cmp_any A P hA hP w)
  have HK:mayB P A=decide (cmpN A P<0):=by
   by_cases h:A<P
   ·simp [mayB,h0,h,cmpN_lt0b h]
   ·simp only [mayB,h,cmpN_nlt0 h,decide_false,Bool.and_false]
  rw [HK]
  clear h0 hP hA HK
  generalize cmpN A P=k at *
  obtain ⟨V,hV⟩:∃ V,V=decide (k<0):=⟨_,rfl⟩
  rw [← hV]
  have HV:=Lib.hid hV
  clear hV
  go_enter Tryd.func20,Tryd.ntmps20
  have BW:=Lib.hid (Below.refl w.heap.size w)
  go_upto_region 1 with fail
  generalize hW1:((w.alloc (.cells #[.int .u64 (wd P 0:Nat),.int .u64 (wd P 1:Nat),.int .u64 (wd P 2:Nat),.int .u64 (wd P 3:Nat),.int .u64 (wd Q 0:Nat),.int .u64 (wd Q 1:Nat),.int .u64 (wd Q 2:Nat),.int .u64 (wd Q 3:Nat),.int .u64 (wd G 0:Nat),.int .u64 (wd G 1:Nat),.int .u64 (wd G 2:Nat),.int .u64 (wd G 3:Nat),.int .u64 (wd H 0:Nat),.int .u64 (wd H 1:Nat),.int .u64 (wd H 2:Nat),.int .u64 (wd H 3:Nat)] 26)).alloc (.cells #[.int .u64 (wd A 0:Nat),.int .u64 (wd A 1:Nat),.int .u64 (wd A 2:Nat),.int .u64 (wd A 3:Nat)] 24))=W1 at *
  have Nr:At W1 (w.heap.size) _ _:=at_of hW1 ((At.at_ _ _ _ _ (by simp)).alloc _)
  have Na:At W1 (w.heap.size+1) _ _:=at_of hW1 (At.at_ _ _ _ _ (by simp))
  have NB:=gr_of hW1 (gr_alloc (gr_alloc BW.out _) _)
  clear hW1 BW 
  generalize w.heap.size+1=ga at *
  obtain ⟨gr,hg0⟩:∃ g,g=w.heap.size:=⟨_,rfl⟩
  rw [← hg0] at Nr ⊢
  clear hg0
  have Fr:=Lib.hid Nr
  have Fa:=Lib.hid Na
  have BW:=Lib.hid NB
  clear NB Nr Na
  have Lr:=Fr.out.lt
  have cr0:W1.cell? ⟨gr,0,none⟩=some (.int .u64 (wd P 0:Nat)):=Fr.out.cell 0
  have cr1:W1.cell? ⟨gr,1,none⟩=some (.int .u64 (wd P 1:Nat)):=Fr.out.cell 1
  have cr2:W1.cell? ⟨gr,2,none⟩=some (.int .u64 (wd P 2:Nat)):=Fr.out.cell 2
  have cr3:W1.cell? ⟨gr,3,none⟩=some (.int .u64 (wd P 3:Nat)):=Fr.out.cell 3
  have cr4:W1.cell? ⟨gr,4,none⟩=some (.int .u64 (wd Q 0:Nat)):=Fr.out.cell 4
  have cr5:W1.cell? ⟨gr,5,none⟩=some (.int .u64 (wd Q 1:Nat)):=Fr.out.cell 5
  have cr6:W1.cell? ⟨gr,6,none⟩=some (.int .u64 (wd Q 2:Nat)):=Fr.out.cell 6
  have cr7:W1.cell? ⟨gr,7,none⟩=some (.int .u64 (wd Q 3:Nat)):=Fr.out.cell 7
  have cr8:W1.cell? ⟨gr,8,none⟩=some (.int .u64 (wd G 0:Nat)):=Fr.out.cell 8
  have cr9:W1.cell? ⟨gr,9,none⟩=some (.int .u64 (wd G 1:Nat)):=Fr.out.cell 9
  have cr10:W1.cell? ⟨gr,10,none⟩=some (.int .u64 (wd G 2:Nat)):=Fr.out.cell 10
  have cr11:W1.cell? ⟨gr,11,none⟩=some (.int .u64 (wd G 3:Nat)):=Fr.out.cell 11
  have cr12:W1.cell? ⟨gr,12,none⟩=some (.int .u64 (wd H 0:Nat)):=Fr.out.cell 12
  have cr13:W1.cell? ⟨gr,13,none⟩=some (.int .u64 (wd H 1:Nat)):=Fr.out.cell 13
  have cr14:W1.cell? ⟨gr,14,none⟩=some (.int .u64 (wd H 2:Nat)):=Fr.out.cell 14
  have cr15:W1.cell? ⟨gr,15,none⟩=some (.int .u64 (wd H 3:Nat)):=Fr.out.cell 15
  have La:=Fa.out.lt
  have ca0:=Fa.out.c0
  have ca1:=Fa.out.c1
  have ca2:=Fa.out.c2
  have ca3:=Fa.out.c3
  go_wp2_with fail
  clear Lr cr0 cr1 cr2 cr3 cr4 cr5 cr6 cr7 cr8 cr9 cr10 cr11 cr12 cr13 cr14 cr15 La ca0 ca1 ca2 ca3
  clear eqz
  refine (HC.out _).mono ?_
  rintro e v2 ⟨rfl,z2⟩
  have Nr:=Lib.hid (Fr.out.on z2)
  have Na:=Lib.hid (Fa.out.on z2)
  have NB:=Lib.hid (bel_tr BW.out z2)
  clear BW z2 Fr Fa
  have Fr:=Nr
  have Fa:=Na
  have BW:=NB
  clear NB Nr Na
  by_cases hk:k<0
  ·go_wp2
   go_ret
   exact ⟨by rw [HV.out,decide_eq_true hk];rfl,BW.out⟩
  ·go_wp2
   go_ret
   exact ⟨by rw [HV.out,decide_eq_false (by omega)];rfl,BW.out⟩

end Go.Proofs.YtlphnfajhpkleaaDoor

/-
 groups: what is answered,walked.
-/
namespace Go.Proofs.YtlphnfajhpkleaaDoor
set_option maxRecDepth 100000
open Go.RowKit
set_option linter.unusedSimpArgs false
set_option linter.unusedVariables false
attribute [local go_sem ↓] Go.wp_at_zero Go.wp_at_succ

end Go.Proofs.YtlphnfajhpkleaaDoor

/-
 groups: what is answered,walked.
-/
namespace Go.Proofs.YtlphnfajhpkleaaDoor
set_option maxRecDepth 100000
open Go.RowKit
set_option linter.unusedSimpArgs false
set_option linter.unusedVariables false
attribute [local go_sem ↓] Go.wp_at_zero Go.wp_at_succ

end Go.Proofs.YtlphnfajhpkleaaDoor

/-
 How an argument api.Group is opened.
-/
namespace Go.Proofs.YtlphnfajhpkleaaDoor
set_option maxRecDepth 100000
set_option linter.unusedSimpArgs false
set_option linter.unusedVariables false
open Go.RowKit Go.WideShapes Go.ChangeShapes Go.ChangeAt

theorem Tryd.cellsG:Tryd.prog.cellsOf 26=16:=by kernel_rfl
section
variable {H:Type} {enc:TypeId × Value→H} {w:World} {held:Bool}
/-- a group -/
theorem open_group {base:Nat} {v:Value} {d:DataW H} {p:List MemPlace} (hv:Value.okWide Tryd.prog w .any base 26 v) (h:DataW.Trod enc Tryd.prog w 0 (fun _=>true) held 26 v d p) :
  ∃ P Q G H':Nat,v=grp P Q G H'∧P<2^256∧Q<2^256∧G<2^256∧H'<2^256:=by
 obtain ⟨cs,rfl,hsz⟩:∃ cs,v=.agg cs∧cs.size=Tryd.prog.cellsOf 26:=by
  simp only [Value.okWide,Tryd.underlying26] at hv
  obtain ⟨cs,h1,h2,_⟩:=hv
  exact ⟨cs,h1,h2⟩
 obtain ⟨fuel,hf⟩:=h
 obtain ⟨xs,m,hm,_,hl,hlen,hf⟩:=DataW.trod_struct Tryd.underlying26 hf
 rw [Tryd.cellsG] at hsz
 obtain ⟨cs⟩:=cs
 match cs,hsz with
 | [c0,c1,c2,c3,c4,c5,c6,c7,c8,c9,c10,c11,c12,c13,c14,c15],_=>
  match xs,hlen with
  | [y0,y1,y2,y3],_=>
   simp only [Value.cells] at hf
   have h0:DataW.trod enc Tryd.prog w 0 (fun _=>true) held m 24 [c0,c1,c2,c3]=some y0:=by simpa [Tryd.cells24] using hf 0 _ rfl
   have h1:DataW.trod enc Tryd.prog w 0 (fun _=>true) held m 24 [c4,c5,c6,c7]=some y1:=by simpa [Tryd.cells24] using hf 1 _ rfl
   have h2:DataW.trod enc Tryd.prog w 0 (fun _=>true) held m 24 [c8,c9,c10,c11]=some y2:=by simpa [Tryd.cells24] using hf 2 _ rfl
   have h3:DataW.trod enc Tryd.prog w 0 (fun _=>true) held m 24 [c12,c13,c14,c15]=some y3:=by simpa [Tryd.cells24] using hf 3 _ rfl
   obtain ⟨P,hP,rfl,rfl,rfl,rfl⟩:=open_four h0
   obtain ⟨Q,hQ,rfl,rfl,rfl,rfl⟩:=open_four h1
   obtain ⟨G,hG,rfl,rfl,rfl,rfl⟩:=open_four h2
   obtain ⟨K,hK,rfl,rfl,rfl,rfl⟩:=open_four h3
   exact ⟨P,Q,G,K,rfl,hP,hQ,hG,hK⟩
end
end Go.Proofs.YtlphnfajhpkleaaDoor
