/-
 Long numbers as natural numbers below 2^256: their words,and what the words tell. Nothing here speaks of the program.
-/
import Derived.WalkKit
import Derived.Below
import Derived.Deep.QuietTactic
import Derived.BigQuiet
import Derived.OwnWalk
import Derived.Laws.OwnMore
import Derived.Laws.MakeOwn
import Derived.Laws.Rows
import Derived.Laws.CopyOwn
import Derived.Test.YtlphnfajhpkleaaDoorRows
import Derived.Laws.Externs
import Derived.Lib.Mul64
import Derived.Laws.Bits64b
import Derived.Deep.Draws
import Derived.WalkSpells
import Derived.Maps.AppendAt
import Derived.Lib.Hide
import Derived.Deep.DrawnRows
import Derived.Deep.RegionWith
import Derived.RegionTactic
import Derived.BigRegion
import Derived.StillTailTactics
import Derived.Deep.RegionHeld3
import Derived.Deep.RegionLaw
import Derived.Deep.LoopGhost
import Derived.Test.YtlphnfajhpkleaaDoorMByHOf
import Derived.Test.YtlphnfajhpkleaaDoorMByKinds
import Derived.Test.YtlphnfajhpkleaaDoorMRsn
namespace Go.Proofs.YtlphnfajhpkleaaDoor
open Go.RowKit
set_option linter.unusedSimpArgs false
set_option linter.unusedVariables false

/-- word i of X -/
def wd (X i:Nat):Nat:=X/18446744073709551616^i%18446744073709551616
/-- a long number,as a value -/
abbrev num (X:Nat):Value:=.agg #[.int .u64 (wd X 0:Nat),.int .u64 (wd X 1:Nat),.int .u64 (wd X 2:Nat),.int .u64 (wd X 3:Nat)]
abbrev ncs (X:Nat):Array Value:=#[.int .u64 (wd X 0:Nat),.int .u64 (wd X 1:Nat),.int .u64 (wd X 2:Nat),.int .u64 (wd X 3:Nat)]

theorem wd_lt (X i:Nat):wd X i<18446744073709551616:=Nat.mod_lt _ (by decide)
theorem wd_sum (X:Nat) (h:X<2^256):X=wd X 0+18446744073709551616*wd X 1+340282366920938463463374607431768211456*wd X 2+6277101735386680763835789423207666416102355444464034512896*wd X 3:=by
 unfold wd;omega
theorem wd_of (r0 r1 r2 r3:Nat) (h0:r0<18446744073709551616) (h1:r1<18446744073709551616) (h2:r2<18446744073709551616) (h3:r3<18446744073709551616) (Z:Nat)
  (hZ:Z=r0+18446744073709551616*r1+340282366920938463463374607431768211456*r2+6277101735386680763835789423207666416102355444464034512896*r3) :
  wd Z 0=r0∧wd Z 1=r1∧wd Z 2=r2∧wd Z 3=r3:=by
 unfold wd;omega
theorem num_of (r0 r1 r2 r3:Nat) (h0:r0<18446744073709551616) (h1:r1<18446744073709551616) (h2:r2<18446744073709551616) (h3:r3<18446744073709551616) (Z:Nat)
  (hZ:Z=r0+18446744073709551616*r1+340282366920938463463374607431768211456*r2+6277101735386680763835789423207666416102355444464034512896*r3) :
  (.agg #[.int .u64 (r0:Nat),.int .u64 (r1:Nat),.int .u64 (r2:Nat),.int .u64 (r3:Nat)]:Value)=num Z:=by
 obtain ⟨e0,e1,e2,e3⟩:=wd_of r0 r1 r2 r3 h0 h1 h2 h3 Z hZ
 unfold num;rw [e0,e1,e2,e3]
theorem wd_eq (X Y:Nat) (hX:X<2^256) (hY:Y<2^256):(wd X 0=wd Y 0∧wd X 1=wd Y 1∧wd X 2=wd Y 2∧wd X 3=wd Y 3) ↔ X=Y:=by
 constructor
 ·intro h
  have:=wd_sum X hX
  have:=wd_sum Y hY
  omega
 ·rintro rfl;exact ⟨rfl,rfl,rfl,rfl⟩

/-- one step of a sum of words -/
theorem add_step (x y c:Nat) (hx:x<18446744073709551616) (hy:y<18446744073709551616) (hc:c≤1):∃ s d:Nat,s<18446744073709551616∧d≤1∧x+y+c=s+18446744073709551616*d∧s=(x+y+c)%18446744073709551616∧d=(x+y+c)/18446744073709551616:=
 ⟨_,_,by omega,by omega,by omega,rfl,rfl⟩
/-- one step of a difference of words -/
theorem sub_step (x y c:Nat) (hx:x<18446744073709551616) (hy:y<18446744073709551616) (hc:c≤1):∃ s d:Nat,s<18446744073709551616∧d≤1∧x+18446744073709551616*d=s+y+c∧s=(x+18446744073709551616-y-c)%18446744073709551616∧d=(if x<y+c then 1 else 0):=by
 by_cases h:x<y+c
 ·exact ⟨_,_,by omega,by rw [if_pos h];omega,by rw [if_pos h];omega,rfl,rfl⟩
 ·exact ⟨_,_,by omega,by rw [if_neg h];omega,by rw [if_neg h];omega,rfl,rfl⟩

theorem bel_tr {a b c:World} (h:Below a.heap.size a b) (k:Below b.heap.size b c):Below a.heap.size a c:=h.trans (k.mono h.size)
theorem cell_on {W w:World} {a:Addr} {v:Value} (hb:Below W.heap.size W w) (h:W.cell? a=some v):w.cell? a=some v:=(hb.cell (World.block_lt_of_cell? W a h)).trans h
theorem gr_alloc {a b:World} (h:Below a.heap.size a b) (o:Obj):Below a.heap.size a (b.alloc o):=h.alloc h.size o
theorem gr_drewN {a b:World} (h:Below a.heap.size a b) (n:Nat):Below a.heap.size a (b.drewN n):=⟨h.os,h.tape,h.output,h.size,h.block⟩
end Go.Proofs.YtlphnfajhpkleaaDoor

/-
 What digits tell,to any base: a list,the lowest first. Blocks of memory that are just some cells. Nothing here speaks of the program.
-/
namespace Go.Proofs.YtlphnfajhpkleaaDoor
open Go.RowKit
set_option linter.unusedSimpArgs false
set_option linter.unusedVariables false

/-- what digits tell -/
def lv (b:Nat):List Nat→Nat
 | []=>0
 | x::l=>x+b*lv b l
theorem lv_set (b:Nat):∀ (l:List Nat) (k v:Nat),k<l.length→lv b (l.set k v)+b^k*l.getD k 0=lv b l+b^k*v
 | [],_,_,h=>absurd h (Nat.not_lt_zero _)
 | x::l,0,v,_=>by simp [lv];omega
 | x::l,k+1,v,h=>by
  have ih:=lv_set b l k v (by simpa using h)
  have e:b*(lv b (l.set k v)+b^k*l.getD k 0)=b*(lv b l+b^k*v):=by rw [ih]
  rw [Nat.mul_add,Nat.mul_add,← Nat.mul_assoc,← Nat.mul_assoc,Nat.mul_comm b (b^k),show b^k*b=b^(k+1) from (Nat.pow_succ _ _).symm] at e
  simp only [List.set_cons_succ,lv,List.getD_cons_succ]
  omega
/-- one digit more of a row of a product -/
theorem row_step (b V x Y c c' l' i j:Nat) (L:List Nat) (hk:i+j<L.length) (inv:lv b L+b^(i+j)*c=V+b^i*(x*(Y%b^j)))
  (st:x*(Y/b^j%b)+L.getD (i+j) 0+c=l'+b*c'):lv b (L.set (i+j) l')+b^(i+(j+1))*c'=V+b^i*(x*(Y%b^(j+1))):=by
 have s:=lv_set b L (i+j) l' hk
 have m:=congrArg (b^(i+j)*·) st
 simp only [Nat.mul_add] at m
 rw [Nat.mod_pow_succ,Nat.mul_add,Nat.mul_add,← Nat.add_assoc i j 1,show b^(i+j+1)=b^(i+j)*b from Nat.pow_succ _ _]
 have e1:b^(i+j)*(x*(Y/b^j%b))=b^i*(x*(b^j*(Y/b^j%b))):=by rw [Nat.pow_add];ac_rfl
 have e2:b^(i+j)*(b*c')=b^(i+j)*b*c':=by ac_rfl
 omega
/-- a row of a product is done -/
theorem row_done (b X Y n i c:Nat) (L:List Nat) (hY:Y<b^n) (hk:i+n<L.length) (h0:L.getD (i+n) 0=0)
  (inv:lv b L+b^(i+n)*c=X%b^i*Y+b^i*(X/b^i%b*(Y%b^n))):lv b (L.set (i+n) c)=X%b^(i+1)*Y:=by
 have s:=lv_set b L (i+n) c hk
 rw [h0] at s
 rw [Nat.mod_pow_succ,Nat.add_mul,Nat.mul_assoc]
 rw [Nat.mod_eq_of_lt hY] at inv
 omega

/-- block g is just the cells cs,of type t,none frozen -/
def At (w:World) (g:Nat) (t:TypeId) (cs:Array Value):Prop:=w.heap[g]? = some (.cells cs t (0,0))
section
variable {w w':World} {g:Nat} {t:TypeId} {cs:Array Value}
theorem At.lt (h:At w g t cs):g<w.heap.size:=(Array.getElem?_eq_some_iff.1 h).1
theorem At.cell (h:At w g t cs) (i:Nat):w.cell? ⟨g,i,none⟩=cs[i]?:=cell_of_row w g i cs t (0,0) h
theorem At.frozen (h:At w g t cs) (i:Nat):w.frozen? ⟨g,i,none⟩=false:=by
 unfold At at h
 simp [World.frozen?,h]
theorem At.new (w:World) (t:TypeId) (cs:Array Value):At (w.alloc (.cells cs t)) w.heap.size t cs:=heap_alloc_new w _
theorem At.at_ (w:World) (g:Nat) (t:TypeId) (cs:Array Value) (h:g=w.heap.size):At (w.alloc (.cells cs t)) g t cs:=by rw [h];exact At.new w t cs
theorem At.alloc (h:At w g t cs) (o:Obj):At (w.alloc o) g t cs:=(Below.heap_alloc w o g h.lt).trans h
theorem At.drew (h:At w g t cs):At w.drew g t cs:=h
theorem At.drewN (h:At w g t cs) (k:Nat):At (w.drewN k) g t cs:=h
theorem At.set (h:At w g t cs) (i:Nat) (u:Value):At (w.setCell ⟨g,i,none⟩ u) g t (cs.setIfInBounds i u):=by
 unfold At at h ⊢
 simp [World.setCell,Array.getElem?_modify,h]
theorem At.far (h:At w g t cs) {p:Addr} (hp:p.block≠g) (u:Value):At (w.setCell p u) g t cs:=by
 unfold At at h ⊢
 simp [World.setCell,Array.getElem?_modify,hp,h]
theorem At.row (h:At w g t cs) (ds:Array Value):At (w.setRow g ds) g t ds:=setRow_heap w g _ _ t _ h
theorem At.rowFar (h:At w g t cs) {g':Nat} (hne:g≠g') (ds:Array Value):At (w.setRow g' ds) g t cs:=(setRow_other w g' g ds hne).trans h
theorem At.again (h:At w g t cs) (i:Nat) (v:Value) (hv:cs[i]? = some v):w.setCell ⟨g,i,none⟩ v=w:=by
 have hs:w.setCell ⟨g,i,none⟩ v=w.setRow g (cs.setIfInBounds i v):=by
  unfold At at h
  simp only [World.setCell,World.setRow]
  congr 1
  apply Array.ext
  ·simp
  ·intro k h1 h2
   simp only [Array.getElem_modify]
   split
   ·rename_i hk
    subst hk
    have:=(Array.getElem?_eq_some_iff.1 h).2
    simp [this]
   ·rfl
 rw [hs]
 have e:cs.setIfInBounds i v=cs:=by
  obtain ⟨hi,hv⟩:=Array.getElem?_eq_some_iff.1 hv
  subst hv
  apply Array.ext
  ·simp
  ·intro k h1 h2
   rw [Array.getElem_setIfInBounds h2]
   split
   ·rename_i hk;subst hk;rfl
   ·rfl
 rw [e]
 exact setRow_self w g cs t (0,0) h
theorem At.on (h:At w g t cs) (hb:Below w.heap.size w w'):At w' g t cs:=(hb.block g h.lt).trans h
end

theorem At.put4 {w:World} {g:Nat} {t:TypeId} {a b c d:Value} (h:At w g t #[a,b,c,d]) (a' b' c' d':Value) :
  At ((((w.setCell ⟨g,0,none⟩ a').setCell ⟨g,1,none⟩ b').setCell ⟨g,2,none⟩ c').setCell ⟨g,3,none⟩ d') g t #[a',b',c',d']:=by
 simpa using (((h.set 0 a').set 1 b').set 2 c').set 3 d'
theorem At.far4 {w:World} {g g':Nat} {t:TypeId} {cs:Array Value} (h:At w g t cs) (hne:g≠g') (a' b' c' d':Value) :
  At ((((w.setCell ⟨g',0,none⟩ a').setCell ⟨g',1,none⟩ b').setCell ⟨g',2,none⟩ c').setCell ⟨g',3,none⟩ d') g t cs:=
 (((h.far (by exact fun e=>hne e.symm) a').far (by exact fun e=>hne e.symm) b').far (by exact fun e=>hne e.symm) c').far (by exact fun e=>hne e.symm) d'

theorem cel4 {w:World} {g X:Nat} {t:TypeId} (h:At w g t (ncs X)):w.cell? ⟨g,0,none⟩=some (.int .u64 (wd X 0:Nat))∧w.cell? ⟨g,1,none⟩=some (.int .u64 (wd X 1:Nat))∧w.cell? ⟨g,2,none⟩=some (.int .u64 (wd X 2:Nat))∧w.cell? ⟨g,3,none⟩=some (.int .u64 (wd X 3:Nat)):=⟨h.cell 0,h.cell 1,h.cell 2,h.cell 3⟩
theorem frz4 {w:World} {g:Nat} {t:TypeId} {cs:Array Value} (h:At w g t cs):w.frozen? ⟨g,0,none⟩=false∧w.frozen? ⟨g,1,none⟩=false∧w.frozen? ⟨g,2,none⟩=false∧w.frozen? ⟨g,3,none⟩=false:=⟨h.frozen 0,h.frozen 1,h.frozen 2,h.frozen 3⟩
theorem cel9 {w:World} {g N Y:Nat} {t:TypeId} {s:Value} (h:At w g t #[.int .u64 (wd N 0:Nat),.int .u64 (wd N 1:Nat),.int .u64 (wd N 2:Nat),.int .u64 (wd N 3:Nat),.int .u64 (wd Y 0:Nat),.int .u64 (wd Y 1:Nat),.int .u64 (wd Y 2:Nat),.int .u64 (wd Y 3:Nat),s]):w.cell? ⟨g,0,none⟩=some (.int .u64 (wd N 0:Nat))∧w.cell? ⟨g,1,none⟩=some (.int .u64 (wd N 1:Nat))∧w.cell? ⟨g,2,none⟩=some (.int .u64 (wd N 2:Nat))∧w.cell? ⟨g,3,none⟩=some (.int .u64 (wd N 3:Nat))∧w.cell? ⟨g,4,none⟩=some (.int .u64 (wd Y 0:Nat))∧w.cell? ⟨g,5,none⟩=some (.int .u64 (wd Y 1:Nat))∧w.cell? ⟨g,6,none⟩=some (.int .u64 (wd Y 2:Nat))∧w.cell? ⟨g,7,none⟩=some (.int .u64 (wd Y 3:Nat))∧w.cell? ⟨g,8,none⟩=some s:=⟨h.cell 0,h.cell 1,h.cell 2,h.cell 3,h.cell 4,h.cell 5,h.cell 6,h.cell 7,h.cell 8⟩
/-- words as values -/
def ws (l:List Nat):Array Value:=(l.map fun x:Nat=>(.int .u64 (x:Nat):Value)).toArray
theorem ws_at (l:List Nat) (k:Nat) (h:k<l.length):(ws l)[k]? = some (.int .u64 (l.getD k 0:Nat)):=by simp [ws,h]
theorem ws_set (l:List Nat) (k v:Nat):(ws l).setIfInBounds k (.int .u64 (v:Nat))=ws (l.set k v):=by simp [ws,List.map_set]
/-- a long number's words -/
def wl (X:Nat):List Nat:=[wd X 0,wd X 1,wd X 2,wd X 3]
theorem wl_at (X k:Nat) (h:k<4):(wl X).getD k 0=wd X k:=by
 match k,h with
 | 0,_ | 1,_ | 2,_ | 3,_=>rfl
end Go.Proofs.YtlphnfajhpkleaaDoor

/-
 math/bits.Add64,Sub64,Mul64 and Len64,at this translation.
-/
namespace Go.Proofs.YtlphnfajhpkleaaDoor
open Go.RowKit Go.Lib
set_option linter.unusedSimpArgs false
set_option linter.unusedVariables false

/-- the model's entry for Sub64 -/
def sub64E:Array Value→Sem Value:=fun args=>do
 let (x,y,b) ← Extern.MathBitsCarry.three "Sub64" args
 pure (Extern.MathBitsCarry.pair ((x+Extern.MathBitsCarry.m64-y-b)%Extern.MathBitsCarry.m64) (if x<y+b then 1 else 0))

theorem add64 (x y c s d:Nat) (hc:c≤1) (hs:s=(x+y+c)%18446744073709551616) (hd:d=(x+y+c)/18446744073709551616) (w:World) :
  (callFunc 73 #[.int .u64 x,.int .u64 y,.int .u64 c]).run Tryd.prog w=.ok (.value (.tuple #[.int .u64 s,.int .u64 d])) w:=by
 rw [run_callFunc_extern Tryd.func73 (by kernel_rfl) (by kernel_rfl) (by kernel_rfl) (e:=add64Entry) (by kernel_rfl),run_add64 x y c (by omega) (by omega) (by omega) (by omega)]
 simp only [Result.andThen]
 subst hs hd
 congr 5 <;> omega

theorem sub64 (x y c s d:Nat) (hc:c≤1) (hs:s=(x+18446744073709551616-y-c)%18446744073709551616) (hd:d=if x<y+c then 1 else 0) (w:World) :
  (callFunc 42 #[.int .u64 x,.int .u64 y,.int .u64 c]).run Tryd.prog w=.ok (.value (.tuple #[.int .u64 s,.int .u64 d])) w:=by
 rw [run_callFunc_extern Tryd.func42 (by kernel_rfl) (by kernel_rfl) (by kernel_rfl) (e:=sub64E) (by kernel_rfl)]
 subst hs hd
 have:c=0∨c=1:=by omega
 rcases this with rfl | rfl <;> rfl

namespace M64
theorem maskN (a:Nat) (ha:a<18446744073709551616):bits .and .u64 (a:Int) 4294967295=((a%4294967296:Nat):Int):=by
 have h:=bits_and_u64_nat a 4294967295 ha (by omega)
 have e:a &&& 4294967295=a%4294967296:=Nat.and_two_pow_sub_one_eq_mod a 32
 rw [e] at h
 exact h
theorem divN (a:Nat):(a:Int)/4294967296=((a/4294967296:Nat):Int):=by omega
theorem mulN (a b:Nat):(a:Int)*(b:Int)=((a*b:Nat):Int):=(Int.natCast_mul a b).symm
theorem addN (a b:Nat):(a:Int)+(b:Int)=((a+b:Nat):Int):=(Int.natCast_add a b).symm
theorem wrapN (a:Nat) (ha:a<18446744073709551616):IntKind.u64.wrap (a:Int)=(a:Int):=by rw [IntKind.wrap_u64];omega
theorem wrapM (a:Nat):IntKind.u64.wrap (a:Int)=((a%18446744073709551616:Nat):Int):=by rw [IntKind.wrap_u64];omega
end M64

set_option maxHeartbeats 1000000 in
theorem mul64 (x y:Nat) (hx:x<18446744073709551616) (hy:y<18446744073709551616) (w:World) :
  Calls Tryd.prog 91 #[.int .u64 x,.int .u64 y] w fun e w'=>e=.returned (.tuple #[.int .u64 ((x*y/18446744073709551616:Nat):Int),.int .u64 ((x*y%18446744073709551616:Nat):Int)])∧w=w':=by
 obtain ⟨bd,bt,bw,hhi⟩:=Lib.mul64_hi x y hx hy
 have ba:=Lib.half_mul_le (a:=x/4294967296) (b:=y/4294967296) (by omega) (by omega)
 have bb:=Lib.half_mul_le (a:=x/4294967296) (b:=y%4294967296) (by omega) (by omega)
 have bc:=Lib.half_mul_le (a:=x%4294967296) (b:=y/4294967296) (by omega) (by omega)
 have ba':x/4294967296*(y/4294967296)<18446744073709551616:=by omega
 have bb':x/4294967296*(y%4294967296)<18446744073709551616:=by omega
 have bc':x%4294967296*(y/4294967296)<18446744073709551616:=by omega
 have bh1:x/4294967296*(y/4294967296)+(x/4294967296*(y%4294967296)+x%4294967296*(y%4294967296)/4294967296)/4294967296<18446744073709551616:=by omega
 have bh:x/4294967296*(y/4294967296)+(x/4294967296*(y%4294967296)+x%4294967296*(y%4294967296)/4294967296)/4294967296+((x/4294967296*(y%4294967296)+x%4294967296*(y%4294967296)/4294967296)%4294967296+x%4294967296*(y/4294967296))/4294967296<18446744073709551616:=by omega
 go_enter Tryd.func91,Tryd.ntmps91
 go_wp2
 simp only [M64.maskN x hx,M64.maskN y hy,M64.divN,M64.mulN,M64.addN,M64.wrapN _ bd,M64.wrapN _ bb',M64.wrapN _ bt,M64.maskN _ bt,M64.wrapN _ bc',M64.wrapN _ bw,M64.wrapN _ ba',M64.wrapN _ bh1,M64.wrapN _ bh,M64.wrapM (x*y)]
 rw [hhi]
 go_ret2
 exact ⟨rfl,rfl⟩
end Go.Proofs.YtlphnfajhpkleaaDoor

/-
 limbs.Add and limbs.Sub: sums and differences of long numbers.
-/
namespace Go.Proofs.YtlphnfajhpkleaaDoor
open Go.RowKit
set_option linter.unusedSimpArgs false
set_option linter.unusedVariables false
attribute [local go_sem ↓] Go.wp_at_zero Go.wp_at_succ

set_option maxHeartbeats 1000000 in
theorem add_words (a0 a1 a2 a3 b0 b1 b2 b3:Nat) (w:World) (s0 s1 s2 s3 c0 c1 c2 c3:Nat)
  (h0:∀ w,(callFunc 73 #[.int .u64 a0,.int .u64 b0,.int .u64 0]).run Tryd.prog w=.ok (.value (.tuple #[.int .u64 s0,.int .u64 c0])) w)
  (h1:∀ w,(callFunc 73 #[.int .u64 a1,.int .u64 b1,.int .u64 c0]).run Tryd.prog w=.ok (.value (.tuple #[.int .u64 s1,.int .u64 c1])) w)
  (h2:∀ w,(callFunc 73 #[.int .u64 a2,.int .u64 b2,.int .u64 c1]).run Tryd.prog w=.ok (.value (.tuple #[.int .u64 s2,.int .u64 c2])) w)
  (h3:∀ w,(callFunc 73 #[.int .u64 a3,.int .u64 b3,.int .u64 c2]).run Tryd.prog w=.ok (.value (.tuple #[.int .u64 s3,.int .u64 c3])) w) :
  Calls Tryd.prog 59 #[.agg #[.int .u64 a0,.int .u64 a1,.int .u64 a2,.int .u64 a3],.agg #[.int .u64 b0,.int .u64 b1,.int .u64 b2,.int .u64 b3]] w fun e w'=>
   e=.returned (.tuple #[.agg #[.int .u64 s0,.int .u64 s1,.int .u64 s2,.int .u64 s3],.int .u64 c3])∧Below w.heap.size w w':=by
 go_enter Tryd.func59,Tryd.ntmps59
 go_wp2
 refine wp_loop_rounds 6 ?_
 rw [rounds_succ]
 go_wp2
 go_region_held3 (fun w'=>w'.cell? ⟨w.heap.size,0,none⟩=some (.int .u64 a0)∧w'.cell? ⟨w.heap.size+1,0,none⟩=some (.int .u64 b0)) (go_keep) ((simp only [h0]))
 go_wp2
 rw [rounds_succ]
 go_wp2
 go_region_held3 (fun w'=>w'.cell? ⟨w.heap.size,1,none⟩=some (.int .u64 a1)∧w'.cell? ⟨w.heap.size+1,1,none⟩=some (.int .u64 b1)) (go_keep) ((simp only [h1]))
 go_wp2
 rw [rounds_succ]
 go_wp2
 go_region_held3 (fun w'=>w'.cell? ⟨w.heap.size,2,none⟩=some (.int .u64 a2)∧w'.cell? ⟨w.heap.size+1,2,none⟩=some (.int .u64 b2)) (go_keep) ((simp only [h2]))
 go_wp2
 rw [rounds_succ]
 go_wp2
 go_region_held3 (fun w'=>w'.cell? ⟨w.heap.size,3,none⟩=some (.int .u64 a3)∧w'.cell? ⟨w.heap.size+1,3,none⟩=some (.int .u64 b3)) (go_keep) ((simp only [h3]))
 go_wp2
 rw [rounds_succ]
 go_wp2
 exact bodyPost_ret (v:=.tuple #[.agg #[.int .u64 s0,.int .u64 s1,.int .u64 s2,.int .u64 s3],.int .u64 c3]) (by simp [results,Tryd.results59,go_sem]) rfl
  ⟨rfl,by repeat (first | exact Below.refl _ _ | refine gr_alloc ?_ _ | refine Below.drew ?_ | refine gr_drewN ?_ _ | refine bel_tr ?_ (by assumption))⟩

set_option maxHeartbeats 1000000 in
theorem sub_words (a0 a1 a2 a3 b0 b1 b2 b3:Nat) (w:World) (s0 s1 s2 s3 c0 c1 c2 c3:Nat)
  (h0:∀ w,(callFunc 42 #[.int .u64 a0,.int .u64 b0,.int .u64 0]).run Tryd.prog w=.ok (.value (.tuple #[.int .u64 s0,.int .u64 c0])) w)
  (h1:∀ w,(callFunc 42 #[.int .u64 a1,.int .u64 b1,.int .u64 c0]).run Tryd.prog w=.ok (.value (.tuple #[.int .u64 s1,.int .u64 c1])) w)
  (h2:∀ w,(callFunc 42 #[.int .u64 a2,.int .u64 b2,.int .u64 c1]).run Tryd.prog w=.ok (.value (.tuple #[.int .u64 s2,.int .u64 c2])) w)
  (h3:∀ w,(callFunc 42 #[.int .u64 a3,.int .u64 b3,.int .u64 c2]).run Tryd.prog w=.ok (.value (.tuple #[.int .u64 s3,.int .u64 c3])) w) :
  Calls Tryd.prog 26 #[.agg #[.int .u64 a0,.int .u64 a1,.int .u64 a2,.int .u64 a3],.agg #[.int .u64 b0,.int .u64 b1,.int .u64 b2,.int .u64 b3]] w fun e w'=>
   e=.returned (.tuple #[.agg #[.int .u64 s0,.int .u64 s1,.int .u64 s2,.int .u64 s3],.int .u64 c3])∧Below w.heap.size w w':=by
 go_enter Tryd.func26,Tryd.ntmps26
 go_wp2
 refine wp_loop_rounds 6 ?_
 rw [rounds_succ]
 go_wp2
 go_region_held3 (fun w'=>w'.cell? ⟨w.heap.size,0,none⟩=some (.int .u64 a0)∧w'.cell? ⟨w.heap.size+1,0,none⟩=some (.int .u64 b0)) (go_keep) ((simp only [h0]))
 go_wp2
 rw [rounds_succ]
 go_wp2
 go_region_held3 (fun w'=>w'.cell? ⟨w.heap.size,1,none⟩=some (.int .u64 a1)∧w'.cell? ⟨w.heap.size+1,1,none⟩=some (.int .u64 b1)) (go_keep) ((simp only [h1]))
 go_wp2
 rw [rounds_succ]
 go_wp2
 go_region_held3 (fun w'=>w'.cell? ⟨w.heap.size,2,none⟩=some (.int .u64 a2)∧w'.cell? ⟨w.heap.size+1,2,none⟩=some (.int .u64 b2)) (go_keep) ((simp only [h2]))
 go_wp2
 rw [rounds_succ]
 go_wp2
 go_region_held3 (fun w'=>w'.cell? ⟨w.heap.size,3,none⟩=some (.int .u64 a3)∧w'.cell? ⟨w.heap.size+1,3,none⟩=some (.int .u64 b3)) (go_keep) ((simp only [h3]))
 go_wp2
 rw [rounds_succ]
 go_wp2
 exact bodyPost_ret (v:=.tuple #[.agg #[.int .u64 s0,.int .u64 s1,.int .u64 s2,.int .u64 s3],.int .u64 c3]) (by simp [results,Tryd.results26,go_sem]) rfl
  ⟨rfl,by repeat (first | exact Below.refl _ _ | refine gr_alloc ?_ _ | refine Below.drew ?_ | refine gr_drewN ?_ _ | refine bel_tr ?_ (by assumption))⟩
end Go.Proofs.YtlphnfajhpkleaaDoor

/-
 limbs.Add and limbs.Sub: sums and differences of long numbers.
-/
namespace Go.Proofs.YtlphnfajhpkleaaDoor
open Go.RowKit
set_option linter.unusedSimpArgs false
set_option linter.unusedVariables false

/-- limbs.Add -/
theorem add_ex (X Y:Nat) (hX:X<2^256) (hY:Y<2^256):∃ S c:Nat,S<2^256∧c≤1∧X+Y=S+2^256*c ∧
  ∀ w,Calls Tryd.prog 59 #[num X,num Y] w fun e w'=>e=.returned (.tuple #[num S,.int .u64 (c:Nat)])∧Below w.heap.size w w':=by
 obtain ⟨s0,c0,l0,k0,e0,p0,q0⟩:=add_step (wd X 0) (wd Y 0) 0 (wd_lt _ _) (wd_lt _ _) (by omega)
 obtain ⟨s1,c1,l1,k1,e1,p1,q1⟩:=add_step (wd X 1) (wd Y 1) c0 (wd_lt _ _) (wd_lt _ _) (by omega)
 obtain ⟨s2,c2,l2,k2,e2,p2,q2⟩:=add_step (wd X 2) (wd Y 2) c1 (wd_lt _ _) (wd_lt _ _) (by omega)
 obtain ⟨s3,c3,l3,k3,e3,p3,q3⟩:=add_step (wd X 3) (wd Y 3) c2 (wd_lt _ _) (wd_lt _ _) (by omega)
 have sX:=wd_sum X hX
 have sY:=wd_sum Y hY
 obtain ⟨S,hS⟩:∃ S,S=s0+18446744073709551616*s1+340282366920938463463374607431768211456*s2+6277101735386680763835789423207666416102355444464034512896*s3:=⟨_,rfl⟩
 refine ⟨S,c3,?_,k3,?_,fun w=>?_⟩
 rotate_left 2
 ·rw [← num_of s0 s1 s2 s3 l0 l1 l2 l3 S hS]
  exact add_words _ _ _ _ _ _ _ _ w s0 s1 s2 s3 c0 c1 c2 c3 (fun w=>add64 _ _ 0 _ _ (by omega) p0 q0 w) (fun w=>add64 _ _ _ _ _ k0 p1 q1 w) (fun w=>add64 _ _ _ _ _ k1 p2 q2 w) (fun w=>add64 _ _ _ _ _ k2 p3 q3 w)
 ·clear p0 p1 p2 p3 q0 q1 q2 q3;omega
 ·clear p0 p1 p2 p3 q0 q1 q2 q3;omega

/-- limbs.Sub -/
theorem sub_ex (X Y:Nat) (hX:X<2^256) (hY:Y<2^256):∃ S c:Nat,S<2^256∧c≤1∧X+2^256*c=S+Y ∧
  ∀ w,Calls Tryd.prog 26 #[num X,num Y] w fun e w'=>e=.returned (.tuple #[num S,.int .u64 (c:Nat)])∧Below w.heap.size w w':=by
 obtain ⟨s0,c0,l0,k0,e0,p0,q0⟩:=sub_step (wd X 0) (wd Y 0) 0 (wd_lt _ _) (wd_lt _ _) (by omega)
 obtain ⟨s1,c1,l1,k1,e1,p1,q1⟩:=sub_step (wd X 1) (wd Y 1) c0 (wd_lt _ _) (wd_lt _ _) (by omega)
 obtain ⟨s2,c2,l2,k2,e2,p2,q2⟩:=sub_step (wd X 2) (wd Y 2) c1 (wd_lt _ _) (wd_lt _ _) (by omega)
 obtain ⟨s3,c3,l3,k3,e3,p3,q3⟩:=sub_step (wd X 3) (wd Y 3) c2 (wd_lt _ _) (wd_lt _ _) (by omega)
 have sX:=wd_sum X hX
 have sY:=wd_sum Y hY
 obtain ⟨S,hS⟩:∃ S,S=s0+18446744073709551616*s1+340282366920938463463374607431768211456*s2+6277101735386680763835789423207666416102355444464034512896*s3:=⟨_,rfl⟩
 refine ⟨S,c3,?_,k3,?_,fun w=>?_⟩
 rotate_left 2
 ·rw [← num_of s0 s1 s2 s3 l0 l1 l2 l3 S hS]
  exact sub_words _ _ _ _ _ _ _ _ w s0 s1 s2 s3 c0 c1 c2 c3 (fun w=>sub64 _ _ 0 _ _ (by omega) p0 q0 w) (fun w=>sub64 _ _ _ _ _ k0 p1 q1 w) (fun w=>sub64 _ _ _ _ _ k1 p2 q2 w) (fun w=>sub64 _ _ _ _ _ k2 p3 q3 w)
 ·clear p0 p1 p2 p3 q0 q1 q2 q3;omega
 ·clear p0 p1 p2 p3 q0 q1 q2 q3;omega
end Go.Proofs.YtlphnfajhpkleaaDoor

/-
 Short forms: a block,and what lies below,in a world that has a letter;the cells of a block of four.
-/
namespace Go.Proofs.YtlphnfajhpkleaaDoor
set_option maxRecDepth 100000
open Go.RowKit
set_option linter.unusedSimpArgs false
set_option linter.unusedVariables false

theorem at_of {w w':World} (h:w=w') {g:Nat} {t:TypeId} {cs:Array Value} (p:At w g t cs):At w' g t cs:=h ▸ p
theorem gr_of {n:Nat} {u w w':World} (h:w=w') (p:Below n u w):Below n u w':=h ▸ p
theorem At.c0 {w:World} {g:Nat} {t:TypeId} {a b c d:Value} (h:At w g t #[a,b,c,d]):w.cell? ⟨g,0,none⟩=some a:=h.cell 0
theorem At.c1 {w:World} {g:Nat} {t:TypeId} {a b c d:Value} (h:At w g t #[a,b,c,d]):w.cell? ⟨g,1,none⟩=some b:=h.cell 1
theorem At.c2 {w:World} {g:Nat} {t:TypeId} {a b c d:Value} (h:At w g t #[a,b,c,d]):w.cell? ⟨g,2,none⟩=some c:=h.cell 2
theorem At.c3 {w:World} {g:Nat} {t:TypeId} {a b c d:Value} (h:At w g t #[a,b,c,d]):w.cell? ⟨g,3,none⟩=some d:=h.cell 3
end Go.Proofs.YtlphnfajhpkleaaDoor

/-
 primes.leastDivisor: the least divisor above 1 of a number below 2^32;it is the number just if that is prime.
-/
namespace Go.Proofs.YtlphnfajhpkleaaDoor
set_option maxRecDepth 100000
open Go.RowKit
set_option linter.unusedSimpArgs false
set_option linter.unusedVariables false

/-- what divides six in a row from 6*k+5 on,when two does not,nor three -/
theorem least_six (n low:Nat) (e2:n%2≠0) (e3:n%3≠0) (h6:low%6=5) (h:∀ d,2≤d→d<low→n%d≠0) (h0:n%low≠0) (h2:n%(low+2)≠0) :
  ∀ d,2≤d→d<low+6→n%d≠0:=by
 intro d hd hl hz
 have k2:∀ m,d=2*m→False:=fun m hm=>e2 (Nat.mod_eq_zero_of_dvd (Nat.dvd_trans ⟨m,hm⟩ (Nat.dvd_of_mod_eq_zero hz)))
 have k3:∀ m,d=3*m→False:=fun m hm=>e3 (Nat.mod_eq_zero_of_dvd (Nat.dvd_trans ⟨m,hm⟩ (Nat.dvd_of_mod_eq_zero hz)))
 rcases Nat.lt_or_ge d low with h1 | h1
 ·exact h d hd h1 hz
 ·have:d=low∨d=low+1∨d=low+2∨d=low+3∨d=low+4∨d=low+5:=by omega
  rcases this with e | e | e | e | e | e
  ·exact h0 (e ▸ hz)
  ·exact k2 (d/2) (by omega)
  ·exact h2 (e ▸ hz)
  ·exact k2 (d/2) (by omega)
  ·exact k3 (d/3) (by omega)
  ·exact k2 (d/2) (by omega)

theorem idx2_0 (w:World) (a b:Int):Sem.run Tryd.prog (Instr.index 93 (.agg #[.int .u64 a,.int .u64 b]) (.int .i64 0)) w=.ok (.int .u64 a) w:=by
 simp [Instr.index,run_underlying Tryd.underlying93,asIntOf,go_sem]
theorem idx2_1 (w:World) (a b:Int):Sem.run Tryd.prog (Instr.index 93 (.agg #[.int .u64 a,.int .u64 b]) (.int .i64 1)) w=.ok (.int .u64 b) w:=by
 simp [Instr.index,run_underlying Tryd.underlying93,asIntOf,go_sem]
theorem int_mod {n d:Nat}:((n:Int)%(d:Int)=0) ↔ n%d=0:=by omega

theorem not_least_0 (n d P:Nat) (h5:5≤d) (h:2*d≤P) (hP:P≤n) (hz:(n:Int)%(d:Int)=0):d≠n∧¬ Pr.Pri n:=by
 have hz':=int_mod.mp hz
 have:d<n:=by omega
 exact ⟨by omega,Pr.not_pri_of (by omega) this hz'⟩

theorem least_any (n:Nat) (h2:1<n) (hn:n<4294967296) (w:World):Calls Tryd.prog 48 #[.int .u64 (n:Nat)] w fun e w'=>∃ d:Nat,e=.returned (.int .u64 (d:Nat))∧(d=n ↔ Pr.Pri n)∧Below w.heap.size w w':=by
 go_enter Tryd.func48,Tryd.ntmps48
 by_cases e2:(n:Int)%2=0
 ·go_wp2
  go_step3
  go_wp2
  rw [Exit.noGoto_ret]
  go_ret
  refine ⟨2,rfl,?_,Below.refl _ _⟩
  rcases Nat.lt_or_ge 2 n with h | h
  ·exact ⟨fun e=>by omega,fun hp=>absurd hp (Pr.not_pri_of (Nat.le_refl 2) h (by omega))⟩
  ·have:n=2:=by omega
   subst this
   exact ⟨fun _=>Pr.pri_of_small (by omega) fun d h1 h2=>by
    have:2*2≤d*d:=Nat.mul_le_mul h1 h1
    omega,fun _=>rfl⟩
 by_cases e3:(n:Int)%3=0
 ·go_wp2
  go_step3
  go_wp2
  rw [Exit.noGoto_ret]
  go_ret
  refine ⟨3,rfl,?_,Below.refl _ _⟩
  rcases Nat.lt_or_ge 3 n with h | h
  ·exact ⟨fun e=>by omega,fun hp=>absurd hp (Pr.not_pri_of (by omega) h (by omega))⟩
  ·have:n=3:=by omega
   subst this
   exact ⟨fun _=>Pr.pri_of_small (by omega) fun d h1 h2=>by
    have:2*2≤d*d:=Nat.mul_le_mul h1 h1
    omega,fun _=>rfl⟩
 go_wp2
 go_step3
 go_wp2
 go_step3
 go_wp2
 have f2:n%2≠0:=by omega
 have f3:n%3≠0:=by omega
 go_loopg [3,4] 65600 (fun g s3 s4 wr=>∃ low:Nat,s3=.int .u64 (n:Nat)∧s4=.int .u64 (low:Nat)∧5≤low∧low+g=65605∧Hid (low%6=5∧∀ d,2≤d→d<low→n%d≠0)∧Hid (Below w.heap.size w wr))
 case atStart=>exact ⟨5,rfl,rfl,by omega,by omega,⟨rfl,fun d h1 h2 h3=>by
  have:d=2∨d=3∨d=4:=by omega
  rcases this with e | e | e <;> (subst e;omega)⟩,Below.refl _ _⟩
 case round=>
  obtain ⟨low,rfl,rfl,h5,hlg,HI,BW⟩:=hrel
  obtain ⟨G,rfl⟩:∃ G:Nat,G=gk:=⟨_,rfl⟩
  have hll:low*low≤65605*65605:=Nat.mul_le_mul (by omega) (by omega)
  obtain ⟨P,hP⟩:∃ P,P=low*low:=⟨_,rfl⟩
  have hw:IntKind.wrap .u64 ((low:Int)*(low:Int))=(P:Int):=by
   rw [← Int.natCast_mul,← hP]
   rw [IntKind.wrap_u64]
   omega
  have hlp:low≤P∧5*low≤P:=by rw [hP];exact ⟨Nat.le_mul_of_pos_left _ (by omega),Nat.mul_le_mul_right _ h5⟩
  by_cases hle:(P:Int)≤(n:Int)
  ·have HP:=Lib.hid hP
   have HG:Hid (6≤G):=by
    show 6≤G
    rcases Nat.lt_or_ge G 6 with h | h
    ·have:65600*65600≤low*low:=Nat.mul_le_mul (by omega) (by omega)
     omega
    ·exact h
   clear hP hll
   go_wp2
   obtain ⟨wo,rfl⟩:∃ wo:World,wo=wr:=⟨_,rfl⟩
   go_loopg [3,27] 2 (fun g s3 s27 wi=>∃ i:Nat,s3=.int .u64 (n:Nat)∧s27=.int .i64 (i:Nat)∧i+g=2∧Hid (∀ j,j<i→n%(low+2*j)≠0)∧Hid (Below w.heap.size w wi))
   case atStart=>exact ⟨0,rfl,rfl,rfl,fun j h=>absurd h (Nat.not_lt_zero _),BW.out⟩
   case round=>
    obtain ⟨i,rfl,rfl,hig,HJ,BI⟩:=hrel
    have hc:i=0∨i=1∨i=2:=by omega
    have HIG:=Lib.hid hig
    clear hig
    rcases hc with rfl | rfl | rfl
    ·by_cases hz:(n:Int)%(low:Int)=0
     ·have ix:=idx2_0 wr (low:Int) ((low:Int)+2)
      have HZ:=Lib.hid (not_least_0 n low P h5 (by omega) (by omega) hz)
      go_wp2
      rw [Exit.noGoto_ret]
      go_ret
      exact ⟨low,rfl,⟨fun h=>absurd h HZ.out.1,fun h=>absurd h HZ.out.2⟩,BI.out⟩
     ·have ix:=idx2_0 wr (low:Int) ((low:Int)+2)
      go_wp2
      go_roundg 1
      case measure=>have:=HIG.out;omega
      case rel=>exact ⟨1,rfl,rfl,rfl,fun j hj=>by
       have:j=0:=by omega
       subst this
       exact fun h=>hz (int_mod.mpr h),BI.out⟩
    ·by_cases hz:(n:Int)%((low:Int)+2)=0
     ·have ix:=idx2_1 wr (low:Int) ((low:Int)+2)
      have HZ:=Lib.hid (not_least_0 n (low+2) P (by omega) (by omega) (by omega) hz)
      go_wp2
      rw [Exit.noGoto_ret]
      go_ret
      exact ⟨low+2,by simp,⟨fun h=>absurd h HZ.out.1,fun h=>absurd h HZ.out.2⟩,BI.out⟩
     ·have ix:=idx2_1 wr (low:Int) ((low:Int)+2)
      go_wp2
      go_roundg 0
      case measure=>have:=HIG.out;omega
      case rel=>exact ⟨2,rfl,rfl,rfl,fun j hj=>by
       have:j=0∨j=1:=by omega
       rcases this with e | e
       ·subst e;exact HJ.out 0 (by omega)
       ·subst e
        exact fun h=>hz (int_mod.mpr h),BI.out⟩
    ·go_wp2
     go_roundg (G-6)
     case measure=>have:=HG.out;omega
     case rel=>
      have hG:=HG.out
      refine ⟨low+6,rfl,by simp,by omega,by omega,⟨by have:=HI.out.1;omega,?_⟩,BI.out⟩
      exact least_six n low f2 f3 HI.out.1 HI.out.2 (by simpa using HJ.out 0 (by omega)) (by simpa using HJ.out 1 (by omega))
  ·have hpn:Pr.Pri n:=Pr.pri_of_small (by omega) fun d hd hdd=>HI.out.2 d hd (by
    apply Decidable.byContradiction;intro hc
    have:low*low≤d*d:=Nat.mul_le_mul (by omega) (by omega)
    omega)
   clear hP hll
   have HPN:=Lib.hid hpn
   clear hpn
   go_wp2
   go_ret
   exact ⟨n,rfl,⟨fun _=>HPN.out,fun _=>rfl⟩,BW.out⟩
end Go.Proofs.YtlphnfajhpkleaaDoor

/-
 primes.Small,and the document's: whether a number is below 2^32,and prime.
-/
namespace Go.Proofs.YtlphnfajhpkleaaDoor
set_option maxRecDepth 100000
open Go.RowKit
set_option linter.unusedSimpArgs false
set_option linter.unusedVariables false

/-- below 2^32,and prime -/
noncomputable def smallB (n:Nat):Bool:=decide (n<4294967296) && Pr.priB n
theorem smallB_of {n:Nat} (h:n<4294967296):smallB n=Pr.priB n:=by simp [smallB,h]
theorem smallB_ge {n:Nat} (h:¬ n<4294967296):smallB n=false:=by simp [smallB,h]
theorem smallB_pri {n:Nat}:smallB n=true ↔ n<4294967296∧Pr.Pri n:=by simp [smallB,Pr.priB_iff]
theorem not_pri_lt {n:Nat} (h:n<2):Pr.priB n=false:=Pr.priB_not.mpr fun hp=>by have:=hp.1;omega

theorem small_any (n:Nat) (hn:n<18446744073709551616) (w:World):Calls Tryd.prog 33 #[.int .u64 (n:Nat)] w fun e w'=>e=.returned (.bool (smallB n))∧Below w.heap.size w w':=by
 go_enter Tryd.func33,Tryd.ntmps33
 by_cases h1:(1:Int)<(n:Int)
 ·by_cases h2:(n:Int)<4294967296
  ·have C:=least_any n (by omega) (by omega)
   have e:=smallB_of (n:=n) (by omega)
   go_wp2_with fail
   refine (C _).mono ?_
   rintro e w1 ⟨d,rfl,hd,z1⟩
   by_cases hp:d=n
   ·have hb:=Pr.priB_iff.mpr (hd.mp hp)
    subst hp
    clear hd
    go_wp2
    go_ret
    exact ⟨by rw [e,hb];rfl,z1⟩
   ·have hne:((d:Int)==(n:Int))=false:=by rw [beq_eq_false_iff_ne];omega
    have hb:=Pr.priB_not.mpr fun h=>hp (hd.mpr h)
    clear hd hp
    go_wp2
    go_ret
    exact ⟨by rw [e,hb];rfl,z1⟩
  ·have e:=smallB_ge (n:=n) (by omega)
   go_wp2
   go_ret
   exact ⟨by first | rfl | (rw [e];rfl),Below.refl _ _⟩
 ·have e:smallB n=false:=by
   rw [smallB_of (by omega)];exact not_pri_lt (by omega)
  go_wp2
  go_ret
  exact ⟨by first | rfl | (rw [e];rfl),Below.refl _ _⟩

end Go.Proofs.YtlphnfajhpkleaaDoor

/-
 hashes.Number's closure: one half of a number.
-/
namespace Go.Proofs.YtlphnfajhpkleaaDoor.By
set_option maxRecDepth 100000
open Go.RowKit
set_option linter.unusedSimpArgs false
set_option linter.unusedVariables false
set_option maxRecDepth 100000

theorem val_app (a b:List Nat):val (a++b)=val a*256^b.length+val b:=by
 have h:∀ (b:List Nat) (x:Nat),b.foldl (fun a b=>a*256+b) x=x*256^b.length+b.foldl (fun a b=>a*256+b) 0:=by
  intro b
  induction b with
  | nil=>intro x;simp
  | cons y b ih=>
   intro x
   rw [List.foldl_cons,List.foldl_cons,ih,ih (0*256+y),List.length_cons,Nat.pow_succ]
   simp only [Nat.zero_mul,Nat.zero_add,Nat.add_mul,Nat.add_assoc,Nat.mul_assoc,Nat.mul_comm 256]
 unfold val
 rw [List.foldl_append,h]
/-- the number that 32 bytes tell -/
theorem num_val (l:List Nat) (h:l.length=32) (hb:∀ y∈l,y<256) :
  (.agg #[.int .u64 (val ((l.drop 24).take 8):Nat),.int .u64 (val ((l.drop 16).take 8):Nat),.int .u64 (val ((l.drop 8).take 8):Nat),.int .u64 (val (l.take 8):Nat)]:Value)=_root_.Go.Proofs.YtlphnfajhpkleaaDoor.num (val l):=by
 have hv:∀ k,val ((l.drop k).take 8)<18446744073709551616:=fun k=>by
  have h1:=val_lt ((l.drop k).take 8) (fun y hy=>hb y (List.mem_of_mem_drop (List.mem_of_mem_take hy)))
  have h2:((l.drop k).take 8).length≤8:=List.length_take_le _ _
  exact Nat.lt_of_lt_of_le h1 (Nat.le_trans (Nat.pow_le_pow_right (by decide) h2) (by decide))
 have h0:=hv 0
 rw [List.drop_zero] at h0
 refine _root_.Go.Proofs.YtlphnfajhpkleaaDoor.num_of _ _ _ _ (hv 24) (hv 16) (hv 8) h0 _ ?_
 have e:l=l.take 8++((l.drop 8).take 8++((l.drop 16).take 8++(l.drop 24).take 8)):=by
  have e1:(l.drop 24).take 8=l.drop 24:=List.take_of_length_le (by simp;omega)
  have e2:(l.drop 16).take 8++l.drop 24=l.drop 16:=by
   have:=List.take_append_drop 8 (l.drop 16)
   rwa [List.drop_drop] at this
  have e3:(l.drop 8).take 8++l.drop 16=l.drop 8:=by
   have:=List.take_append_drop 8 (l.drop 8)
   rwa [List.drop_drop] at this
  rw [e1,e2,e3,List.take_append_drop]
 have k1:((l.drop 8).take 8).length=8:=by simp;omega
 have k2:((l.drop 16).take 8).length=8:=by simp;omega
 have k3:((l.drop 24).take 8).length=8:=by simp;omega
 have hh:val l=val (l.take 8++((l.drop 8).take 8++((l.drop 16).take 8++(l.drop 24).take 8))):=by rw [← e]
 rw [hh,val_app,val_app,val_app,List.length_append,List.length_append,k1,k2,k3]
 generalize val (l.take 8)=a0
 generalize val ((l.drop 8).take 8)=a1
 generalize val ((l.drop 16).take 8)=a2
 generalize val ((l.drop 24).take 8)=a3
 omega
theorem val32_lt (l:List Nat) (h:l.length=32) (hb:∀ y∈l,y<256):val l<2^256:=by
 have:=val_lt l hb
 rw [h] at this
 exact Nat.lt_of_lt_of_le this (by decide)

/-- a half of the number -/
def half (s:ByteArray) (n:Nat) (RB:Nat→List Nat) (x:Nat):Nat:=val (sha (hbs (sb s) (n+1) (onem RB n [x])))
theorem half_lt (s:ByteArray) (n:Nat) (RB:Nat→List Nat) (x:Nat):half s n RB x<2^256:=val32_lt _ (sha_len _) (sha_lt _)
end Go.Proofs.YtlphnfajhpkleaaDoor.By
