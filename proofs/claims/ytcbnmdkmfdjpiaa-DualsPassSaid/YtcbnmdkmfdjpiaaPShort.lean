import Derived.WalkKit
import Derived.Below
import Derived.Deep.QuietTactic
import Derived.BigQuiet
import Derived.Test.YtcbnmdkmfdjpiaaRows
import Derived.ProofKit
import Derived.OpenShut
import Derived.ShutString
import Derived.ChangeOld
import Derived.SizedLaws
import Derived.OwnWalk
import Derived.Laws.OwnMore
import Derived.Laws.MakeOwn
import Derived.Laws.Rows
import Derived.Laws.CopyOwn
import Derived.Laws.Externs
import Derived.Lib.Mul64
import Derived.Laws.Bits64b
import Derived.Deep.Draws
import Derived.WalkSpells
import Derived.Maps.AppendAt
import Derived.Lib.Hide
import Derived.Deep.DrawnRows
import Derived.Deep.RegionWith
import Derived.RegionTactic
import Derived.BigRegion
import Derived.StillTailTactics
import Derived.Deep.RegionHeld3
import Derived.Deep.RegionLaw
namespace Go.Proofs.Ytcbnmdkmfdjpiaa
set_option maxRecDepth 100000
open Go.RowKit
set_option linter.unusedSimpArgs false
set_option linter.unusedVariables false

def wd (X i:Nat):Nat:=X/18446744073709551616^i%18446744073709551616
abbrev num (X:Nat):Value:=.agg #[.int .u64 (wd X 0),.int .u64 (wd X 1),.int .u64 (wd X 2),.int .u64 (wd X 3)]
abbrev ncs (X:Nat):Array Value:=#[.int .u64 (wd X 0),.int .u64 (wd X 1),.int .u64 (wd X 2),.int .u64 (wd X 3)]

theorem Un (X i:Nat):wd X i<18446744073709551616:=Nat.mod_lt _ (by decide)
theorem Xt (X:Nat) (h:X<2^256):X=wd X 0+18446744073709551616*wd X 1+340282366920938463463374607431768211456*wd X 2+6277101735386680763835789423207666416102355444464034512896*wd X 3:=by
 unfold wd;omega
theorem wd_of (r0 r1 r2 r3:Nat) (h0:r0<18446744073709551616) (h1:r1<18446744073709551616) (h2:r2<18446744073709551616) (h3:r3<18446744073709551616) (Z:Nat)
  (hZ:Z=r0+18446744073709551616*r1+340282366920938463463374607431768211456*r2+6277101735386680763835789423207666416102355444464034512896*r3) :
  wd Z 0=r0∧wd Z 1=r1∧wd Z 2=r2∧wd Z 3=r3:=by
 unfold wd;omega
theorem Jcn (r0 r1 r2 r3:Nat) (h0:r0<18446744073709551616) (h1:r1<18446744073709551616) (h2:r2<18446744073709551616) (h3:r3<18446744073709551616) (Z:Nat)
  (hZ:Z=r0+18446744073709551616*r1+340282366920938463463374607431768211456*r2+6277101735386680763835789423207666416102355444464034512896*r3) :
  (.agg #[.int .u64 (r0:Nat),.int .u64 (r1:Nat),.int .u64 (r2:Nat),.int .u64 (r3:Nat)]:Value)=num Z:=by
 obtain ⟨e0,e1,e2,e3⟩:=wd_of r0 r1 r2 r3 h0 h1 h2 h3 Z hZ
 unfold num;rw [e0,e1,e2,e3]
theorem wd_eq (X Y:Nat) (hX:X<2^256) (hY:Y<2^256):(wd X 0=wd Y 0∧wd X 1=wd Y 1∧wd X 2=wd Y 2∧wd X 3=wd Y 3) ↔ X=Y:=by
 constructor
 ·intro h
  have:=Xt X hX
  have:=Xt Y hY
  omega
 ·rintro rfl;exact ⟨rfl,rfl,rfl,rfl⟩

theorem Vv (x y c:Nat) (hx:x<18446744073709551616) (hy:y<18446744073709551616) (hc:c≤1):∃ s d:Nat,s<18446744073709551616∧d≤1∧x+y+c=s+18446744073709551616*d∧s=(x+y+c)%18446744073709551616∧d=(x+y+c)/18446744073709551616:=
 ⟨_,_,by omega,by omega,by omega,rfl,rfl⟩
theorem Wv (x y c:Nat) (hx:x<18446744073709551616) (hy:y<18446744073709551616) (hc:c≤1):∃ s d:Nat,s<18446744073709551616∧d≤1∧x+18446744073709551616*d=s+y+c∧s=(x+18446744073709551616-y-c)%18446744073709551616∧d=(if x<y+c then 1 else 0):=by
 by_cases h:x<y+c
 ·exact ⟨_,_,by omega,by rw [if_pos h];omega,by rw [if_pos h];omega,rfl,rfl⟩
 ·exact ⟨_,_,by omega,by rw [if_neg h];omega,by rw [if_neg h];omega,rfl,rfl⟩

theorem Jw {a b c:World} (h:Below a.heap.size a b) (k:Below b.heap.size b c):Below a.heap.size a c:=h.trans (k.mono h.size)
theorem cell_on {W w:World} {a:Addr} {v:Value} (hb:Below W.heap.size W w) (h:W.cell? a=some v):w.cell? a=some v:=(hb.cell (World.block_lt_of_cell? W a h)).trans h
theorem Jb {a b:World} (h:Below a.heap.size a b) (o:Obj):Below a.heap.size a (b.alloc o):=h.alloc h.size o
theorem Uq {a b:World} (h:Below a.heap.size a b) (n:Nat):Below a.heap.size a (b.drewN n):=⟨h.os,h.tape,h.output,h.size,h.block⟩
open Go.ChangeShapes Go.WideShapes Go.ChangeAt Go.RowKit
theorem own:ownKnob Try.prog.godebug=none:=by kernel_rfl
theorem Jen:laidOutB Try.prog=true:=by kernel_rfl
theorem Try.cells24:Try.prog.cellsOf 24=4:=by kernel_rfl
theorem Try.cells22:Try.prog.cellsOf 22=1:=by kernel_rfl

section
variable {H:Type} {enc:TypeId × Value→H} {w:World} {held:Bool}

theorem Jav {fuel:Nat} {c:Value} {x:DataW H × List MemPlace} (h:DataW.trod enc Try.prog w 0 (fun _=>true) held fuel 22 [c]=some x) :
  ∃ n:Nat,c=.int .u64 (n:Int)∧n<18446744073709551616:=by
 obtain ⟨n,e,_,hw⟩:=DataW.trod_int Try.underlying22 h
 have bd:=bounds_u64 hw
 simp at e
 exact ⟨n.toNat,by rw [e,Int.toNat_of_nonneg bd.1],by omega⟩

theorem Xu {fuel:Nat} {c0 c1 c2 c3:Value} {x:DataW H × List MemPlace} (h:DataW.trod enc Try.prog w 0 (fun _=>true) held fuel 24 [c0,c1,c2,c3]=some x) :
  ∃ X:Nat,X<2^256∧c0=.int .u64 (wd X 0)∧c1=.int .u64 (wd X 1)∧c2=.int .u64 (wd X 2)∧c3=.int .u64 (wd X 3):=by
 obtain ⟨xs,m,rfl,hx,hl,hn,he⟩:=DataW.trod_array Try.underlying24 h
 rw [Try.cells22] at he
 match xs,hn with
 | [x0,x1,x2,x3],_=>
  have e0:=he 0 (by omega)
  have e1:=he 1 (by omega)
  have e2:=he 2 (by omega)
  have e3:=he 3 (by omega)
  simp at e0 e1 e2 e3
  obtain ⟨a,rfl,wa⟩:=Jav e0
  obtain ⟨b,rfl,wb⟩:=Jav e1
  obtain ⟨p,rfl,wp⟩:=Jav e2
  obtain ⟨q,rfl,wq⟩:=Jav e3
  obtain ⟨X,hX⟩:∃ X,X=a+18446744073709551616*b+340282366920938463463374607431768211456*p+6277101735386680763835789423207666416102355444464034512896*q:=⟨_,rfl⟩
  obtain ⟨f0,f1,f2,f3⟩:=wd_of a b p q wa wb wp wq X hX
  exact ⟨X,by omega,by rw [f0],by rw [f1],by rw [f2],by rw [f3]⟩

end
def lv (b:Nat):List Nat→Nat
 | []=>0
 | x::l=>x+b*lv b l
theorem Jfk (b:Nat):∀ (l:List Nat) (k v:Nat),k<l.length→lv b (l.set k v)+b^k*l.getD k 0=lv b l+b^k*v
 | [],_,_,h=>absurd h (Nat.not_lt_zero _)
 | x::l,0,v,_=>by simp [lv];omega
 | x::l,k+1,v,h=>by
  have ih:=Jfk b l k v (by simpa using h)
  have e:b*(lv b (l.set k v)+b^k*l.getD k 0)=b*(lv b l+b^k*v):=by rw [ih]
  rw [Nat.mul_add,Nat.mul_add,← Nat.mul_assoc,← Nat.mul_assoc,Nat.mul_comm b (b^k),show b^k*b=b^(k+1) from (Nat.pow_succ _ _).symm] at e
  simp only [List.set_cons_succ,lv,List.getD_cons_succ]
  omega
theorem row_step (b V x Y c c' l' i j:Nat) (L:List Nat) (hk:i+j<L.length) (inv:lv b L+b^(i+j)*c=V+b^i*(x*(Y%b^j)))
  (st:x*(Y/b^j%b)+L.getD (i+j) 0+c=l'+b*c'):lv b (L.set (i+j) l')+b^(i+(j+1))*c'=V+b^i*(x*(Y%b^(j+1))):=by
 have s:=Jfk b L (i+j) l' hk
 have m:=congrArg (b^(i+j)*·) st
 simp only [Nat.mul_add] at m
 rw [Nat.mod_pow_succ,Nat.mul_add,Nat.mul_add,← Nat.add_assoc i j 1,show b^(i+j+1)=b^(i+j)*b from Nat.pow_succ _ _]
 have e1:b^(i+j)*(x*(Y/b^j%b))=b^i*(x*(b^j*(Y/b^j%b))):=by rw [Nat.pow_add];ac_rfl
 have e2:b^(i+j)*(b*c')=b^(i+j)*b*c':=by ac_rfl
 omega
theorem row_done (b X Y n i c:Nat) (L:List Nat) (hY:Y<b^n) (hk:i+n<L.length) (h0:L.getD (i+n) 0=0)
  (inv:lv b L+b^(i+n)*c=X%b^i*Y+b^i*(X/b^i%b*(Y%b^n))):lv b (L.set (i+n) c)=X%b^(i+1)*Y:=by
 have s:=Jfk b L (i+n) c hk
 rw [h0] at s
 rw [Nat.mod_pow_succ,Nat.add_mul,Nat.mul_assoc]
 rw [Nat.mod_eq_of_lt hY] at inv
 omega

def At (w:World) (g:Nat) (t:TypeId) (cs:Array Value):Prop:=w.heap[g]? = some (.cells cs t (0,0))
section
variable {w w':World} {g:Nat} {t:TypeId} {cs:Array Value}
theorem At.lt (h:At w g t cs):g<w.heap.size:=(Array.getElem?_eq_some_iff.1 h).1
theorem At.cell (h:At w g t cs) (i:Nat):w.cell? ⟨g,i,none⟩=cs[i]?:=cell_of_row w g i cs t (0,0) h
theorem At.frozen (h:At w g t cs) (i:Nat):w.frozen? ⟨g,i,none⟩=false:=by
 unfold At at h
 simp [World.frozen?,h]
theorem At.new (w:World) (t:TypeId) (cs:Array Value):At (w.alloc (.cells cs t)) w.heap.size t cs:=heap_alloc_new w _
theorem At.at_ (w:World) (g:Nat) (t:TypeId) (cs:Array Value) (h:g=w.heap.size):At (w.alloc (.cells cs t)) g t cs:=by rw [h];exact At.new w t cs
theorem At.alloc (h:At w g t cs) (o:Obj):At (w.alloc o) g t cs:=(Below.heap_alloc w o g h.lt).trans h
theorem At.drew (h:At w g t cs):At w.drew g t cs:=h
theorem At.drewN (h:At w g t cs) (k:Nat):At (w.drewN k) g t cs:=h
theorem At.set (h:At w g t cs) (i:Nat) (u:Value):At (w.setCell ⟨g,i,none⟩ u) g t (cs.setIfInBounds i u):=by
 unfold At at h ⊢
 simp [World.setCell,Array.getElem?_modify,h]
theorem At.far (h:At w g t cs) {p:Addr} (hp:p.block≠g) (u:Value):At (w.setCell p u) g t cs:=by
 unfold At at h ⊢
 simp [World.setCell,Array.getElem?_modify,hp,h]
theorem At.row (h:At w g t cs) (ds:Array Value):At (w.setRow g ds) g t ds:=setRow_heap w g _ _ t _ h
theorem At.rowFar (h:At w g t cs) {g':Nat} (hne:g≠g') (ds:Array Value):At (w.setRow g' ds) g t cs:=(setRow_other w g' g ds hne).trans h
theorem At.again (h:At w g t cs) (i:Nat) (v:Value) (hv:cs[i]? = some v):w.setCell ⟨g,i,none⟩ v=w:=by
 have hs:w.setCell ⟨g,i,none⟩ v=w.setRow g (cs.setIfInBounds i v):=by
  unfold At at h
  simp only [World.setCell,World.setRow]
  congr 1
  apply Array.ext
  ·simp
  ·intro k h1 h2
   simp only [Array.getElem_modify]
   split
   ·rename_i hk
    subst hk
    have:=(Array.getElem?_eq_some_iff.1 h).2
    simp [this]
   ·rfl
 rw [hs]
 have e:cs.setIfInBounds i v=cs:=by
  obtain ⟨hi,hv⟩:=Array.getElem?_eq_some_iff.1 hv
  subst hv
  apply Array.ext
  ·simp
  ·intro k h1 h2
   rw [Array.getElem_setIfInBounds h2]
   split
   ·rename_i hk;subst hk;rfl
   ·rfl
 rw [e]
 exact setRow_self w g cs t (0,0) h
theorem At.on (h:At w g t cs) (hb:Below w.heap.size w w'):At w' g t cs:=(hb.block g h.lt).trans h
end

theorem At.put4 {w:World} {g:Nat} {t:TypeId} {a b c d:Value} (h:At w g t #[a,b,c,d]) (a' b' c' d':Value) :
  At ((((w.setCell ⟨g,0,none⟩ a').setCell ⟨g,1,none⟩ b').setCell ⟨g,2,none⟩ c').setCell ⟨g,3,none⟩ d') g t #[a',b',c',d']:=by
 simpa using (((h.set 0 a').set 1 b').set 2 c').set 3 d'
theorem At.far4 {w:World} {g g':Nat} {t:TypeId} {cs:Array Value} (h:At w g t cs) (hne:g≠g') (a' b' c' d':Value) :
  At ((((w.setCell ⟨g',0,none⟩ a').setCell ⟨g',1,none⟩ b').setCell ⟨g',2,none⟩ c').setCell ⟨g',3,none⟩ d') g t cs:=
 (((h.far (by exact fun e=>hne e.symm) a').far (by exact fun e=>hne e.symm) b').far (by exact fun e=>hne e.symm) c').far (by exact fun e=>hne e.symm) d'

theorem Ku {w:World} {g X:Nat} {t:TypeId} (h:At w g t (ncs X)):w.cell? ⟨g,0,none⟩=some (.int .u64 (wd X 0))∧w.cell? ⟨g,1,none⟩=some (.int .u64 (wd X 1))∧w.cell? ⟨g,2,none⟩=some (.int .u64 (wd X 2))∧w.cell? ⟨g,3,none⟩=some (.int .u64 (wd X 3)):=⟨h.cell 0,h.cell 1,h.cell 2,h.cell 3⟩
theorem Wc {w:World} {g:Nat} {t:TypeId} {cs:Array Value} (h:At w g t cs):w.frozen? ⟨g,0,none⟩=false∧w.frozen? ⟨g,1,none⟩=false∧w.frozen? ⟨g,2,none⟩=false∧w.frozen? ⟨g,3,none⟩=false:=⟨h.frozen 0,h.frozen 1,h.frozen 2,h.frozen 3⟩
theorem Jgl {w:World} {g N Y:Nat} {t:TypeId} {s:Value} (h:At w g t #[.int .u64 (wd N 0),.int .u64 (wd N 1),.int .u64 (wd N 2),.int .u64 (wd N 3),.int .u64 (wd Y 0),.int .u64 (wd Y 1),.int .u64 (wd Y 2),.int .u64 (wd Y 3),s]):w.cell? ⟨g,0,none⟩=some (.int .u64 (wd N 0))∧w.cell? ⟨g,1,none⟩=some (.int .u64 (wd N 1))∧w.cell? ⟨g,2,none⟩=some (.int .u64 (wd N 2))∧w.cell? ⟨g,3,none⟩=some (.int .u64 (wd N 3))∧w.cell? ⟨g,4,none⟩=some (.int .u64 (wd Y 0))∧w.cell? ⟨g,5,none⟩=some (.int .u64 (wd Y 1))∧w.cell? ⟨g,6,none⟩=some (.int .u64 (wd Y 2))∧w.cell? ⟨g,7,none⟩=some (.int .u64 (wd Y 3))∧w.cell? ⟨g,8,none⟩=some s:=⟨h.cell 0,h.cell 1,h.cell 2,h.cell 3,h.cell 4,h.cell 5,h.cell 6,h.cell 7,h.cell 8⟩
def ws (l:List Nat):Array Value:=(l.map fun x:Nat=>(.int .u64 (x:Nat):Value)).toArray
theorem Jfv (l:List Nat) (k:Nat) (h:k<l.length):(ws l)[k]? = some (.int .u64 (l.getD k 0:Nat)):=by simp [ws,h]
theorem ws_set (l:List Nat) (k v:Nat):(ws l).setIfInBounds k (.int .u64 (v:Nat))=ws (l.set k v):=by simp [ws,List.map_set]
def wl (X:Nat):List Nat:=[wd X 0,wd X 1,wd X 2,wd X 3]
theorem wl_at (X k:Nat) (h:k<4):(wl X).getD k 0=wd X k:=by
 match k,h with
 | 0,_ | 1,_ | 2,_ | 3,_=>rfl
open Go.RowKit Go.Lib
def sub64E:Array Value→Sem Value:=fun args=>do
 let (x,y,b) ← Extern.MathBitsCarry.three "Sub64" args
 pure (Extern.MathBitsCarry.pair ((x+Extern.MathBitsCarry.m64-y-b)%Extern.MathBitsCarry.m64) (if x<y+b then 1 else 0))

theorem Jcr (x y c s d:Nat) (hc:c≤1) (hs:s=(x+y+c)%18446744073709551616) (hd:d=(x+y+c)/18446744073709551616) (w:World) :
  (callFunc 73 #[.int .u64 x,.int .u64 y,.int .u64 c]).run Try.prog w=.ok (.value (.tuple #[.int .u64 s,.int .u64 d])) w:=by
 rw [run_callFunc_extern Try.func73 (by kernel_rfl) (by kernel_rfl) (by kernel_rfl) (e:=add64Entry) (by kernel_rfl),run_add64 x y c (by omega) (by omega) (by omega) (by omega)]
 simp only [Result.andThen]
 subst hs hd
 congr 5 <;> omega

theorem Jdy (x y c s d:Nat) (hc:c≤1) (hs:s=(x+18446744073709551616-y-c)%18446744073709551616) (hd:d=if x<y+c then 1 else 0) (w:World) :
  (callFunc 74 #[.int .u64 x,.int .u64 y,.int .u64 c]).run Try.prog w=.ok (.value (.tuple #[.int .u64 s,.int .u64 d])) w:=by
 rw [run_callFunc_extern Try.func74 (by kernel_rfl) (by kernel_rfl) (by kernel_rfl) (e:=sub64E) (by kernel_rfl)]
 subst hs hd
 have:c=0∨c=1:=by omega
 rcases this with rfl | rfl <;> rfl

namespace M64
theorem maskN (a:Nat) (ha:a<18446744073709551616):bits .and .u64 (a:Int) 4294967295=((a%4294967296:Nat):Int):=by
 have h:=bits_and_u64_nat a 4294967295 ha (by omega)
 have e:a &&& 4294967295=a%4294967296:=Nat.and_two_pow_sub_one_eq_mod a 32
 rw [e] at h
 exact h
theorem divN (a:Nat):(a:Int)/4294967296=((a/4294967296:Nat):Int):=by omega
theorem mulN (a b:Nat):(a:Int)*(b:Int)=((a*b:Nat):Int):=(Int.natCast_mul a b).symm
theorem addN (a b:Nat):(a:Int)+(b:Int)=((a+b:Nat):Int):=(Int.natCast_add a b).symm
theorem wrapN (a:Nat) (ha:a<18446744073709551616):IntKind.u64.wrap (a:Int)=(a:Int):=by rw [IntKind.wrap_u64];omega
theorem wrapM (a:Nat):IntKind.u64.wrap (a:Int)=((a%18446744073709551616:Nat):Int):=by rw [IntKind.wrap_u64];omega
end M64

set_option maxHeartbeats 1000000 in
theorem mul64 (x y:Nat) (hx:x<18446744073709551616) (hy:y<18446744073709551616) (w:World) :
  Calls Try.prog 90 #[.int .u64 x,.int .u64 y] w fun e w'=>e=.returned (.tuple #[.int .u64 ((x*y/18446744073709551616:Nat):Int),.int .u64 ((x*y%18446744073709551616:Nat):Int)])∧w=w':=by
 obtain ⟨bd,bt,bw,hhi⟩:=Lib.mul64_hi x y hx hy
 have ba:=Lib.half_mul_le (a:=x/4294967296) (b:=y/4294967296) (by omega) (by omega)
 have bb:=Lib.half_mul_le (a:=x/4294967296) (b:=y%4294967296) (by omega) (by omega)
 have bc:=Lib.half_mul_le (a:=x%4294967296) (b:=y/4294967296) (by omega) (by omega)
 have ba':x/4294967296*(y/4294967296)<18446744073709551616:=by omega
 have bb':x/4294967296*(y%4294967296)<18446744073709551616:=by omega
 have bc':x%4294967296*(y/4294967296)<18446744073709551616:=by omega
 have bh1:x/4294967296*(y/4294967296)+(x/4294967296*(y%4294967296)+x%4294967296*(y%4294967296)/4294967296)/4294967296<18446744073709551616:=by omega
 have bh:x/4294967296*(y/4294967296)+(x/4294967296*(y%4294967296)+x%4294967296*(y%4294967296)/4294967296)/4294967296+((x/4294967296*(y%4294967296)+x%4294967296*(y%4294967296)/4294967296)%4294967296+x%4294967296*(y/4294967296))/4294967296<18446744073709551616:=by omega
 go_enter Try.func90,Try.ntmps90
 go_wp2
 simp only [M64.maskN x hx,M64.maskN y hy,M64.divN,M64.mulN,M64.addN,M64.wrapN _ bd,M64.wrapN _ bb',M64.wrapN _ bt,M64.maskN _ bt,M64.wrapN _ bc',M64.wrapN _ bw,M64.wrapN _ ba',M64.wrapN _ bh1,M64.wrapN _ bh,M64.wrapM (x*y)]
 rw [hhi]
 go_ret2
 exact ⟨rfl,rfl⟩
set_option maxHeartbeats 1000000 in
theorem add_words (a0 a1 a2 a3 b0 b1 b2 b3:Nat) (w:World) (s0 s1 s2 s3 c0 c1 c2 c3:Nat)
  (h0:∀ w,(callFunc 73 #[.int .u64 a0,.int .u64 b0,.int .u64 0]).run Try.prog w=.ok (.value (.tuple #[.int .u64 s0,.int .u64 c0])) w)
  (h1:∀ w,(callFunc 73 #[.int .u64 a1,.int .u64 b1,.int .u64 c0]).run Try.prog w=.ok (.value (.tuple #[.int .u64 s1,.int .u64 c1])) w)
  (h2:∀ w,(callFunc 73 #[.int .u64 a2,.int .u64 b2,.int .u64 c1]).run Try.prog w=.ok (.value (.tuple #[.int .u64 s2,.int .u64 c2])) w)
  (h3:∀ w,(callFunc 73 #[.int .u64 a3,.int .u64 b3,.int .u64 c2]).run Try.prog w=.ok (.value (.tuple #[.int .u64 s3,.int .u64 c3])) w) :
  Calls Try.prog 63 #[.agg #[.int .u64 a0,.int .u64 a1,.int .u64 a2,.int .u64 a3],.agg #[.int .u64 b0,.int .u64 b1,.int .u64 b2,.int .u64 b3]] w fun e w'=>
   e=.returned (.tuple #[.agg #[.int .u64 s0,.int .u64 s1,.int .u64 s2,.int .u64 s3],.int .u64 c3])∧Below w.heap.size w w':=by
 go_enter Try.func63,Try.ntmps63
 go_wp2
 refine wp_loop_rounds 6 ?_
 rw [rounds_succ]
 go_wp2
 go_region_held3 (fun w'=>w'.cell? ⟨w.heap.size,0,none⟩=some (.int .u64 a0)∧w'.cell? ⟨w.heap.size+1,0,none⟩=some (.int .u64 b0)) (go_keep) ((simp only [h0]))
 go_wp2
 rw [rounds_succ]
 go_wp2
 go_region_held3 (fun w'=>w'.cell? ⟨w.heap.size,1,none⟩=some (.int .u64 a1)∧w'.cell? ⟨w.heap.size+1,1,none⟩=some (.int .u64 b1)) (go_keep) ((simp only [h1]))
 go_wp2
 rw [rounds_succ]
 go_wp2
 go_region_held3 (fun w'=>w'.cell? ⟨w.heap.size,2,none⟩=some (.int .u64 a2)∧w'.cell? ⟨w.heap.size+1,2,none⟩=some (.int .u64 b2)) (go_keep) ((simp only [h2]))
 go_wp2
 rw [rounds_succ]
 go_wp2
 go_region_held3 (fun w'=>w'.cell? ⟨w.heap.size,3,none⟩=some (.int .u64 a3)∧w'.cell? ⟨w.heap.size+1,3,none⟩=some (.int .u64 b3)) (go_keep) ((simp only [h3]))
 go_wp2
 rw [rounds_succ]
 go_wp2
 exact bodyPost_ret (v:=.tuple #[.agg #[.int .u64 s0,.int .u64 s1,.int .u64 s2,.int .u64 s3],.int .u64 c3]) (by simp [results,Try.results63,go_sem]) rfl
  ⟨rfl,by repeat (first | exact Below.refl _ _ | refine Jb ?_ _ | refine Below.drew ?_ | refine Uq ?_ _ | refine Jw ?_ (by assumption))⟩

set_option maxHeartbeats 1000000 in
theorem sub_words (a0 a1 a2 a3 b0 b1 b2 b3:Nat) (w:World) (s0 s1 s2 s3 c0 c1 c2 c3:Nat)
  (h0:∀ w,(callFunc 74 #[.int .u64 a0,.int .u64 b0,.int .u64 0]).run Try.prog w=.ok (.value (.tuple #[.int .u64 s0,.int .u64 c0])) w)
  (h1:∀ w,(callFunc 74 #[.int .u64 a1,.int .u64 b1,.int .u64 c0]).run Try.prog w=.ok (.value (.tuple #[.int .u64 s1,.int .u64 c1])) w)
  (h2:∀ w,(callFunc 74 #[.int .u64 a2,.int .u64 b2,.int .u64 c1]).run Try.prog w=.ok (.value (.tuple #[.int .u64 s2,.int .u64 c2])) w)
  (h3:∀ w,(callFunc 74 #[.int .u64 a3,.int .u64 b3,.int .u64 c2]).run Try.prog w=.ok (.value (.tuple #[.int .u64 s3,.int .u64 c3])) w) :
  Calls Try.prog 65 #[.agg #[.int .u64 a0,.int .u64 a1,.int .u64 a2,.int .u64 a3],.agg #[.int .u64 b0,.int .u64 b1,.int .u64 b2,.int .u64 b3]] w fun e w'=>
   e=.returned (.tuple #[.agg #[.int .u64 s0,.int .u64 s1,.int .u64 s2,.int .u64 s3],.int .u64 c3])∧Below w.heap.size w w':=by
 go_enter Try.func65,Try.ntmps65
 go_wp2
 refine wp_loop_rounds 6 ?_
 rw [rounds_succ]
 go_wp2
 go_region_held3 (fun w'=>w'.cell? ⟨w.heap.size,0,none⟩=some (.int .u64 a0)∧w'.cell? ⟨w.heap.size+1,0,none⟩=some (.int .u64 b0)) (go_keep) ((simp only [h0]))
 go_wp2
 rw [rounds_succ]
 go_wp2
 go_region_held3 (fun w'=>w'.cell? ⟨w.heap.size,1,none⟩=some (.int .u64 a1)∧w'.cell? ⟨w.heap.size+1,1,none⟩=some (.int .u64 b1)) (go_keep) ((simp only [h1]))
 go_wp2
 rw [rounds_succ]
 go_wp2
 go_region_held3 (fun w'=>w'.cell? ⟨w.heap.size,2,none⟩=some (.int .u64 a2)∧w'.cell? ⟨w.heap.size+1,2,none⟩=some (.int .u64 b2)) (go_keep) ((simp only [h2]))
 go_wp2
 rw [rounds_succ]
 go_wp2
 go_region_held3 (fun w'=>w'.cell? ⟨w.heap.size,3,none⟩=some (.int .u64 a3)∧w'.cell? ⟨w.heap.size+1,3,none⟩=some (.int .u64 b3)) (go_keep) ((simp only [h3]))
 go_wp2
 rw [rounds_succ]
 go_wp2
 exact bodyPost_ret (v:=.tuple #[.agg #[.int .u64 s0,.int .u64 s1,.int .u64 s2,.int .u64 s3],.int .u64 c3]) (by simp [results,Try.results65,go_sem]) rfl
  ⟨rfl,by repeat (first | exact Below.refl _ _ | refine Jb ?_ _ | refine Below.drew ?_ | refine Uq ?_ _ | refine Jw ?_ (by assumption))⟩
theorem Jfs (X Y:Nat) (hX:X<2^256) (hY:Y<2^256):∃ S c:Nat,S<2^256∧c≤1∧X+Y=S+2^256*c ∧
  ∀ w,Calls Try.prog 63 #[num X,num Y] w fun e w'=>e=.returned (.tuple #[num S,.int .u64 (c:Nat)])∧Below w.heap.size w w':=by
 obtain ⟨s0,c0,l0,k0,e0,p0,q0⟩:=Vv (wd X 0) (wd Y 0) 0 (Un _ _) (Un _ _) (by omega)
 obtain ⟨s1,c1,l1,k1,e1,p1,q1⟩:=Vv (wd X 1) (wd Y 1) c0 (Un _ _) (Un _ _) (by omega)
 obtain ⟨s2,c2,l2,k2,e2,p2,q2⟩:=Vv (wd X 2) (wd Y 2) c1 (Un _ _) (Un _ _) (by omega)
 obtain ⟨s3,c3,l3,k3,e3,p3,q3⟩:=Vv (wd X 3) (wd Y 3) c2 (Un _ _) (Un _ _) (by omega)
 have sX:=Xt X hX
 have sY:=Xt Y hY
 obtain ⟨S,hS⟩:∃ S,S=s0+18446744073709551616*s1+340282366920938463463374607431768211456*s2+6277101735386680763835789423207666416102355444464034512896*s3:=⟨_,rfl⟩
 refine ⟨S,c3,?_,k3,?_,fun w=>?_⟩
 rotate_left 2
 ·rw [← Jcn s0 s1 s2 s3 l0 l1 l2 l3 S hS]
  exact add_words _ _ _ _ _ _ _ _ w s0 s1 s2 s3 c0 c1 c2 c3 (fun w=>Jcr _ _ 0 _ _ (by omega) p0 q0 w) (fun w=>Jcr _ _ _ _ _ k0 p1 q1 w) (fun w=>Jcr _ _ _ _ _ k1 p2 q2 w) (fun w=>Jcr _ _ _ _ _ k2 p3 q3 w)
 ·clear p0 p1 p2 p3 q0 q1 q2 q3;omega
 ·clear p0 p1 p2 p3 q0 q1 q2 q3;omega

theorem Jdx (X Y:Nat) (hX:X<2^256) (hY:Y<2^256):∃ S c:Nat,S<2^256∧c≤1∧X+2^256*c=S+Y ∧
  ∀ w,Calls Try.prog 65 #[num X,num Y] w fun e w'=>e=.returned (.tuple #[num S,.int .u64 (c:Nat)])∧Below w.heap.size w w':=by
 obtain ⟨s0,c0,l0,k0,e0,p0,q0⟩:=Wv (wd X 0) (wd Y 0) 0 (Un _ _) (Un _ _) (by omega)
 obtain ⟨s1,c1,l1,k1,e1,p1,q1⟩:=Wv (wd X 1) (wd Y 1) c0 (Un _ _) (Un _ _) (by omega)
 obtain ⟨s2,c2,l2,k2,e2,p2,q2⟩:=Wv (wd X 2) (wd Y 2) c1 (Un _ _) (Un _ _) (by omega)
 obtain ⟨s3,c3,l3,k3,e3,p3,q3⟩:=Wv (wd X 3) (wd Y 3) c2 (Un _ _) (Un _ _) (by omega)
 have sX:=Xt X hX
 have sY:=Xt Y hY
 obtain ⟨S,hS⟩:∃ S,S=s0+18446744073709551616*s1+340282366920938463463374607431768211456*s2+6277101735386680763835789423207666416102355444464034512896*s3:=⟨_,rfl⟩
 refine ⟨S,c3,?_,k3,?_,fun w=>?_⟩
 rotate_left 2
 ·rw [← Jcn s0 s1 s2 s3 l0 l1 l2 l3 S hS]
  exact sub_words _ _ _ _ _ _ _ _ w s0 s1 s2 s3 c0 c1 c2 c3 (fun w=>Jdy _ _ 0 _ _ (by omega) p0 q0 w) (fun w=>Jdy _ _ _ _ _ k0 p1 q1 w) (fun w=>Jdy _ _ _ _ _ k1 p2 q2 w) (fun w=>Jdy _ _ _ _ _ k2 p3 q3 w)
 ·clear p0 p1 p2 p3 q0 q1 q2 q3;omega
 ·clear p0 p1 p2 p3 q0 q1 q2 q3;omega
theorem Jd {w w':World} (h:w=w') {g:Nat} {t:TypeId} {cs:Array Value} (p:At w g t cs):At w' g t cs:=h ▸ p
theorem Ke {n:Nat} {u w w':World} (h:w=w') (p:Below n u w):Below n u w':=h ▸ p
theorem At.c0 {w:World} {g:Nat} {t:TypeId} {a b c d:Value} (h:At w g t #[a,b,c,d]):w.cell? ⟨g,0,none⟩=some a:=h.cell 0
theorem At.c1 {w:World} {g:Nat} {t:TypeId} {a b c d:Value} (h:At w g t #[a,b,c,d]):w.cell? ⟨g,1,none⟩=some b:=h.cell 1
theorem At.c2 {w:World} {g:Nat} {t:TypeId} {a b c d:Value} (h:At w g t #[a,b,c,d]):w.cell? ⟨g,2,none⟩=some c:=h.cell 2
theorem At.c3 {w:World} {g:Nat} {t:TypeId} {a b c d:Value} (h:At w g t #[a,b,c,d]):w.cell? ⟨g,3,none⟩=some d:=h.cell 3
end Go.Proofs.Ytcbnmdkmfdjpiaa
