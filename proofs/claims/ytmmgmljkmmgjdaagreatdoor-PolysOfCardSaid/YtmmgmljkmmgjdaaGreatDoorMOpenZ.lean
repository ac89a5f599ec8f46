import Derived.Deep.Cut
import Derived.Laws.MakeOwn
import Derived.Test.YtmmgmljkmmgjdaaGreatDoorMBw
import Derived.Test.YtmmgmljkmmgjdaaGreatDoorMP3
import Derived.Test.YtmmgmljkmmgjdaaGreatDoorMSx
import Derived.Test.YtmmgmljkmmgjdaaGreatDoorMTree
namespace Go.Proofs.YtmmgmljkmmgjdaaGreatDoor
set_option maxRecDepth 100000
open Go.RowKit
set_option linter.unusedSimpArgs false
set_option linter.unusedVariables false
attribute [local go_sem ↓] Go.wp_at_zero Go.wp_at_succ

def bkc (n:Nat) (v:Nat→Value):Array Value:=#[.int .i64 (n:Nat),v 1,v 2,v 3,v 4,v 5,v 6,v 7,v 8,v 9,v 10,v 11,v 12,v 13,v 14,v 15,v 16,v 17]
def Jft (v:Nat→Value) (c:Nat) (u:Value):Nat→Value:=fun i=>if i=c then u else v i
theorem bk_set0 (n m:Nat) (v:Nat→Value):Jau (bkc n v) 0 [.int .i64 (m:Nat)]=bkc m v:=by simp [Jau,bkc]
theorem bkc_size (n:Nat) (v:Nat→Value):(bkc n v).size=18:=by simp [bkc]
def Jcj (q:Nat):List Value:=[.int .u64 (wd q 0),.int .u64 (wd q 1),.int .u64 (wd q 2),.int .u64 (wd q 3)]
theorem Jgk (q:Nat):∀ u∈Jcj q,u.oneCell'=true:=fun u hu=>by
 simp only [Jcj,List.mem_cons,List.not_mem_nil,or_false] at hu
 rcases hu with rfl | rfl | rfl | rfl <;> rfl
def intM (q:Nat):List Value:=[.int .i64 (-((q:Nat):Int))]
def Jiy (xs:List Int):List Value:=xs.map fun x=>.int .i64 x
def RI (n0:Nat) (w:World) (a:Option Addr) (n cap:Nat) (xs:List Int):Prop:=xs.length=n∧n≤cap∧cap≤9223372036854775807∧(∀ x∈xs,-9223372036854775808≤x∧x<9223372036854775808)∧(xs=[]∨∃ g o,a=some ⟨g,o,none⟩∧g<n0∧∀ (i:Nat) (x:Int),xs[i]? = some x→w.cell? ⟨g,o+i*1,none⟩=some (.int .i64 x))
theorem RI.get {n0:Nat} {w:World} {a:Option Addr} {n cap:Nat} {xs:List Int} (h:RI n0 w a n cap xs) {i:Nat} (hi:i<n):∃ g o,a=some ⟨g,o,none⟩∧∃ hl:i<xs.length,(-9223372036854775808≤xs[i]∧xs[i]<9223372036854775808)∧∀ u,Below n0 w u→u.cell? ⟨g,o+i*1,none⟩=some (.int .i64 xs[i]):=by
 have hl:i<xs.length:=by rw [h.1];exact hi
 rcases h.2.2.2.2 with h0 | ⟨g,o,ha,hg,hc⟩
 ·rw [h0] at hl;exact absurd hl (Nat.not_lt_zero _)
 ·exact ⟨g,o,ha,hl,h.2.2.2.1 _ (List.getElem_mem hl),fun u hb=>(hb.cell (p:=⟨g,o+i*1,none⟩) hg).trans (hc i _ (List.getElem?_eq_getElem hl))⟩
theorem RI.room {n0:Nat} {w:World} {a:Option Addr} {n cap:Nat} {xs:List Int} (h:RI n0 w a n cap xs) {i:Nat} (hi:i<n):IntKind.i64.wrap ((i:Int)+1)=((i+1:Nat):Int):=by
 have:=h.2
 rw [IntKind.wrap_i64];omega
theorem RI.call {n0:Nat} {w0 w:World} {a:Option Addr} {n cap:Nat} {xs:List Int} (h:RI n0 w0 a n cap xs) (hb:Below n0 w0 w) (hn:n0≤w.heap.size):RI w.heap.size w a n cap xs:=⟨h.1,h.2.1,h.2.2.1,h.2.2.2.1,h.2.2.2.2.imp id fun ⟨g,o,ha,hg,hc⟩=>⟨g,o,ha,Nat.lt_of_lt_of_le hg hn,fun i x hx=>(hb.cell (p:=⟨g,o+i*1,none⟩) hg).trans (hc i x hx)⟩⟩
def TW (T:TypeId) (sz base:Nat) (w:World) (g n cap:Nat) (ys:List Value):Prop:=∃ cur,base≤g∧At w g T cur∧n+1≤cap∧cap≤9223372036854775807∧cur.size=cap*sz∧cur.toList.take ((n+1)*sz)=ys
theorem bk_set4 (n:Nat) (v:Nat→Value) (u:Value):Jau (bkc n v) 4 [u]=bkc n (Jft v 4 u):=by simp [Jau,bkc,Jft]
theorem Tryz.sizeHNum:(Tryz.prog.info? 114).map (·.size)=some 3:=by kernel_rfl
theorem Tryz.infoHNum:(Tryz.prog.info? 114).map (fun i=>(i.zero,i.size,i.bytes))=some (some (.agg #[.slice none 0 0,.slice none 0 0,.int .i64 0]),3,56):=by kernel_rfl
section
variable {x y:Operand} {dst:Option Tmp} {ty:TypeId} {pos:String} {after:Array Edge} {guard:Option (Nat × Bool)} {ρ:Operand→Value} {w:World} {g o:Nat}
theorem Jdf (hx:ρ x=.pointer (some ⟨g,0,none⟩)):(execOp ρ ⟨dst,.fieldAddr 57 x 0,ty,pos,after,guard⟩).run Tryz.prog w=.ok (.value (.pointer (some ⟨g,0,none⟩))) w:=by simp [execOp,hx,go_sem]
theorem Jde (hx:ρ x=.pointer (some ⟨g,0,none⟩)):(execOp ρ ⟨dst,.fieldAddr 57 x 1,ty,pos,after,guard⟩).run Tryz.prog w=.ok (.value (.pointer (some ⟨g,1,none⟩))) w:=by simp [execOp,hx,go_sem]
theorem Jdd (hx:ρ x=.pointer (some ⟨g,0,none⟩)):(execOp ρ ⟨dst,.fieldAddr 57 x 2,ty,pos,after,guard⟩).run Tryz.prog w=.ok (.value (.pointer (some ⟨g,2,none⟩))) w:=by simp [execOp,hx,go_sem]
theorem Jdc (hx:ρ x=.pointer (some ⟨g,0,none⟩)):(execOp ρ ⟨dst,.fieldAddr 57 x 3,ty,pos,after,guard⟩).run Tryz.prog w=.ok (.value (.pointer (some ⟨g,3,none⟩))) w:=by simp [execOp,hx,go_sem]
theorem Uo (hx:ρ x=.pointer (some ⟨g,0,none⟩)):(execOp ρ ⟨dst,.fieldAddr 57 x 4,ty,pos,after,guard⟩).run Tryz.prog w=.ok (.value (.pointer (some ⟨g,4,none⟩))) w:=by simp [execOp,hx,go_sem]
theorem Jdb (hx:ρ x=.pointer (some ⟨g,0,none⟩)):(execOp ρ ⟨dst,.fieldAddr 57 x 5,ty,pos,after,guard⟩).run Tryz.prog w=.ok (.value (.pointer (some ⟨g,5,none⟩))) w:=by simp [execOp,hx,go_sem]
theorem Jda (hx:ρ x=.pointer (some ⟨g,0,none⟩)):(execOp ρ ⟨dst,.fieldAddr 57 x 6,ty,pos,after,guard⟩).run Tryz.prog w=.ok (.value (.pointer (some ⟨g,6,none⟩))) w:=by simp [execOp,hx,go_sem]
theorem Jcz (hx:ρ x=.pointer (some ⟨g,0,none⟩)):(execOp ρ ⟨dst,.fieldAddr 57 x 7,ty,pos,after,guard⟩).run Tryz.prog w=.ok (.value (.pointer (some ⟨g,7,none⟩))) w:=by simp [execOp,hx,go_sem]
theorem Jcy (hx:ρ x=.pointer (some ⟨g,0,none⟩)):(execOp ρ ⟨dst,.fieldAddr 57 x 8,ty,pos,after,guard⟩).run Tryz.prog w=.ok (.value (.pointer (some ⟨g,8,none⟩))) w:=by simp [execOp,hx,go_sem]
theorem Jcx (hx:ρ x=.pointer (some ⟨g,0,none⟩)):(execOp ρ ⟨dst,.fieldAddr 57 x 9,ty,pos,after,guard⟩).run Tryz.prog w=.ok (.value (.pointer (some ⟨g,9,none⟩))) w:=by simp [execOp,hx,go_sem]
theorem Jbm (hx:ρ x=.pointer (some ⟨g,0,none⟩)):(execOp ρ ⟨dst,.fieldAddr 57 x 10,ty,pos,after,guard⟩).run Tryz.prog w=.ok (.value (.pointer (some ⟨g,10,none⟩))) w:=by simp [execOp,hx,go_sem]
theorem Jbl (hx:ρ x=.pointer (some ⟨g,0,none⟩)):(execOp ρ ⟨dst,.fieldAddr 57 x 11,ty,pos,after,guard⟩).run Tryz.prog w=.ok (.value (.pointer (some ⟨g,11,none⟩))) w:=by simp [execOp,hx,go_sem]
theorem Jbk (hx:ρ x=.pointer (some ⟨g,0,none⟩)):(execOp ρ ⟨dst,.fieldAddr 57 x 12,ty,pos,after,guard⟩).run Tryz.prog w=.ok (.value (.pointer (some ⟨g,12,none⟩))) w:=by simp [execOp,hx,go_sem]
theorem Jbj (hx:ρ x=.pointer (some ⟨g,0,none⟩)):(execOp ρ ⟨dst,.fieldAddr 57 x 13,ty,pos,after,guard⟩).run Tryz.prog w=.ok (.value (.pointer (some ⟨g,13,none⟩))) w:=by simp [execOp,hx,go_sem]
theorem Jbi (hx:ρ x=.pointer (some ⟨g,0,none⟩)):(execOp ρ ⟨dst,.fieldAddr 57 x 14,ty,pos,after,guard⟩).run Tryz.prog w=.ok (.value (.pointer (some ⟨g,14,none⟩))) w:=by simp [execOp,hx,go_sem]
theorem Jbh (hx:ρ x=.pointer (some ⟨g,0,none⟩)):(execOp ρ ⟨dst,.fieldAddr 57 x 15,ty,pos,after,guard⟩).run Tryz.prog w=.ok (.value (.pointer (some ⟨g,15,none⟩))) w:=by simp [execOp,hx,go_sem]
theorem Jbg (hx:ρ x=.pointer (some ⟨g,0,none⟩)):(execOp ρ ⟨dst,.fieldAddr 57 x 16,ty,pos,after,guard⟩).run Tryz.prog w=.ok (.value (.pointer (some ⟨g,16,none⟩))) w:=by simp [execOp,hx,go_sem]
theorem Jbf (hx:ρ x=.pointer (some ⟨g,0,none⟩)):(execOp ρ ⟨dst,.fieldAddr 57 x 17,ty,pos,after,guard⟩).run Tryz.prog w=.ok (.value (.pointer (some ⟨g,17,none⟩))) w:=by simp [execOp,hx,go_sem]
theorem Jbe {n:Int} (hx:ρ x=.pointer (some ⟨g,o,none⟩)) (h:w.cell? ⟨g,o,none⟩=some (.int .i64 n)):(execOp ρ ⟨dst,.load 3 x,ty,pos,after,guard⟩).run Tryz.prog w=.ok (.value (.int .i64 n)) w:=by simp [execOp,hx,go_sem,h]
theorem o_stInt {cs:Array Value} {t:TypeId} {n:Int} (hx:ρ x=.pointer (some ⟨g,o,none⟩)) (hy:ρ y=.int .i64 n) (h:At w g t cs) (hs:o<cs.size):(execOp ρ ⟨dst,.store 3 x y,ty,pos,after,guard⟩).run Tryz.prog w=.ok .skip (puts w g o [.int .i64 n]):=by
 have c0:w.cell? ⟨g,o,none⟩=some cs[o]:=(h.cell o).trans (Array.getElem?_eq_getElem hs)
 have f0:=h.frozen o
 simp [execOp,hx,hy,go_sem,puts,c0,f0]
theorem Jfd {a:Option Addr} {n c:Nat} (hx:ρ x=.pointer (some ⟨g,o,none⟩)) (h:w.cell? ⟨g,o,none⟩=some (.slice a n c)):(execOp ρ ⟨dst,.load 39 x,ty,pos,after,guard⟩).run Tryz.prog w=.ok (.value (.slice a n c)) w:=by simp [execOp,hx,go_sem,h]
theorem Jcs {a:Option Addr} {n c:Nat} (hx:ρ x=.slice a n c):(execOp ρ ⟨dst,.call ⟨.builtin .len,#[x],#[39]⟩,ty,pos,after,guard⟩).run Tryz.prog w=.ok (.value (.int .i64 (n:Nat))) w:=by simp [execOp,hx,go_sem]
theorem Jgi {a:Option Addr} {n c:Nat} (hx:ρ x=.pointer (some ⟨g,o,none⟩)) (h:w.cell? ⟨g,o,none⟩=some (.slice a n c)):(execOp ρ ⟨dst,.load 40 x,ty,pos,after,guard⟩).run Tryz.prog w=.ok (.value (.slice a n c)) w:=by simp [execOp,hx,go_sem,h]
theorem Jez {a:Option Addr} {n c:Nat} (hx:ρ x=.slice a n c):(execOp ρ ⟨dst,.call ⟨.builtin .len,#[x],#[40]⟩,ty,pos,after,guard⟩).run Tryz.prog w=.ok (.value (.int .i64 (n:Nat))) w:=by simp [execOp,hx,go_sem]
theorem Jfb {a:Option Addr} {n c:Nat} (hx:ρ x=.pointer (some ⟨g,o,none⟩)) (h:w.cell? ⟨g,o,none⟩=some (.slice a n c)):(execOp ρ ⟨dst,.load 41 x,ty,pos,after,guard⟩).run Tryz.prog w=.ok (.value (.slice a n c)) w:=by simp [execOp,hx,go_sem,h]
theorem Jcq {a:Option Addr} {n c:Nat} (hx:ρ x=.slice a n c):(execOp ρ ⟨dst,.call ⟨.builtin .len,#[x],#[41]⟩,ty,pos,after,guard⟩).run Tryz.prog w=.ok (.value (.int .i64 (n:Nat))) w:=by simp [execOp,hx,go_sem]
theorem Vr {a:Option Addr} {n c:Nat} (hx:ρ x=.pointer (some ⟨g,o,none⟩)) (h:w.cell? ⟨g,o,none⟩=some (.slice a n c)):(execOp ρ ⟨dst,.load 42 x,ty,pos,after,guard⟩).run Tryz.prog w=.ok (.value (.slice a n c)) w:=by simp [execOp,hx,go_sem,h]
theorem Xb {a:Option Addr} {n c:Nat} (hx:ρ x=.slice a n c):(execOp ρ ⟨dst,.call ⟨.builtin .len,#[x],#[42]⟩,ty,pos,after,guard⟩).run Tryz.prog w=.ok (.value (.int .i64 (n:Nat))) w:=by simp [execOp,hx,go_sem]
theorem Jfc {a:Option Addr} {n c:Nat} (hx:ρ x=.pointer (some ⟨g,o,none⟩)) (h:w.cell? ⟨g,o,none⟩=some (.slice a n c)):(execOp ρ ⟨dst,.load 43 x,ty,pos,after,guard⟩).run Tryz.prog w=.ok (.value (.slice a n c)) w:=by simp [execOp,hx,go_sem,h]
theorem Jcr {a:Option Addr} {n c:Nat} (hx:ρ x=.slice a n c):(execOp ρ ⟨dst,.call ⟨.builtin .len,#[x],#[43]⟩,ty,pos,after,guard⟩).run Tryz.prog w=.ok (.value (.int .i64 (n:Nat))) w:=by simp [execOp,hx,go_sem]
theorem Jbc {a:Option Addr} {n c:Nat} (hx:ρ x=.pointer (some ⟨g,o,none⟩)) (h:w.cell? ⟨g,o,none⟩=some (.slice a n c)):(execOp ρ ⟨dst,.load 44 x,ty,pos,after,guard⟩).run Tryz.prog w=.ok (.value (.slice a n c)) w:=by simp [execOp,hx,go_sem,h]
theorem Jad {a:Option Addr} {n c:Nat} (hx:ρ x=.slice a n c):(execOp ρ ⟨dst,.call ⟨.builtin .len,#[x],#[44]⟩,ty,pos,after,guard⟩).run Tryz.prog w=.ok (.value (.int .i64 (n:Nat))) w:=by simp [execOp,hx,go_sem]
theorem Jgh {a:Option Addr} {n c:Nat} (hx:ρ x=.pointer (some ⟨g,o,none⟩)) (h:w.cell? ⟨g,o,none⟩=some (.slice a n c)):(execOp ρ ⟨dst,.load 45 x,ty,pos,after,guard⟩).run Tryz.prog w=.ok (.value (.slice a n c)) w:=by simp [execOp,hx,go_sem,h]
theorem Jey {a:Option Addr} {n c:Nat} (hx:ρ x=.slice a n c):(execOp ρ ⟨dst,.call ⟨.builtin .len,#[x],#[45]⟩,ty,pos,after,guard⟩).run Tryz.prog w=.ok (.value (.int .i64 (n:Nat))) w:=by simp [execOp,hx,go_sem]
theorem Jcu {a:Option Addr} {n c:Nat} (hx:ρ x=.pointer (some ⟨g,o,none⟩)) (h:w.cell? ⟨g,o,none⟩=some (.slice a n c)):(execOp ρ ⟨dst,.load 46 x,ty,pos,after,guard⟩).run Tryz.prog w=.ok (.value (.slice a n c)) w:=by simp [execOp,hx,go_sem,h]
theorem Jay {a:Option Addr} {n c:Nat} (hx:ρ x=.slice a n c):(execOp ρ ⟨dst,.call ⟨.builtin .len,#[x],#[46]⟩,ty,pos,after,guard⟩).run Tryz.prog w=.ok (.value (.int .i64 (n:Nat))) w:=by simp [execOp,hx,go_sem]
theorem Jaf {a:Option Addr} {n c:Nat} (hx:ρ x=.pointer (some ⟨g,o,none⟩)) (h:w.cell? ⟨g,o,none⟩=some (.slice a n c)):(execOp ρ ⟨dst,.load 47 x,ty,pos,after,guard⟩).run Tryz.prog w=.ok (.value (.slice a n c)) w:=by simp [execOp,hx,go_sem,h]
theorem Xm {a:Option Addr} {n c:Nat} (hx:ρ x=.slice a n c):(execOp ρ ⟨dst,.call ⟨.builtin .len,#[x],#[47]⟩,ty,pos,after,guard⟩).run Tryz.prog w=.ok (.value (.int .i64 (n:Nat))) w:=by simp [execOp,hx,go_sem]
theorem Jbd {a:Option Addr} {n c:Nat} (hx:ρ x=.pointer (some ⟨g,o,none⟩)) (h:w.cell? ⟨g,o,none⟩=some (.slice a n c)):(execOp ρ ⟨dst,.load 48 x,ty,pos,after,guard⟩).run Tryz.prog w=.ok (.value (.slice a n c)) w:=by simp [execOp,hx,go_sem,h]
theorem Jae {a:Option Addr} {n c:Nat} (hx:ρ x=.slice a n c):(execOp ρ ⟨dst,.call ⟨.builtin .len,#[x],#[48]⟩,ty,pos,after,guard⟩).run Tryz.prog w=.ok (.value (.int .i64 (n:Nat))) w:=by simp [execOp,hx,go_sem]
theorem Jct {a:Option Addr} {n c:Nat} (hx:ρ x=.pointer (some ⟨g,o,none⟩)) (h:w.cell? ⟨g,o,none⟩=some (.slice a n c)):(execOp ρ ⟨dst,.load 49 x,ty,pos,after,guard⟩).run Tryz.prog w=.ok (.value (.slice a n c)) w:=by simp [execOp,hx,go_sem,h]
theorem Jax {a:Option Addr} {n c:Nat} (hx:ρ x=.slice a n c):(execOp ρ ⟨dst,.call ⟨.builtin .len,#[x],#[49]⟩,ty,pos,after,guard⟩).run Tryz.prog w=.ok (.value (.int .i64 (n:Nat))) w:=by simp [execOp,hx,go_sem]
theorem Jfa {a:Option Addr} {n c:Nat} (hx:ρ x=.pointer (some ⟨g,o,none⟩)) (h:w.cell? ⟨g,o,none⟩=some (.slice a n c)):(execOp ρ ⟨dst,.load 50 x,ty,pos,after,guard⟩).run Tryz.prog w=.ok (.value (.slice a n c)) w:=by simp [execOp,hx,go_sem,h]
theorem Jcp {a:Option Addr} {n c:Nat} (hx:ρ x=.slice a n c):(execOp ρ ⟨dst,.call ⟨.builtin .len,#[x],#[50]⟩,ty,pos,after,guard⟩).run Tryz.prog w=.ok (.value (.int .i64 (n:Nat))) w:=by simp [execOp,hx,go_sem]
theorem Jcw {a:Option Addr} {n c:Nat} (hx:ρ x=.pointer (some ⟨g,o,none⟩)) (h:w.cell? ⟨g,o,none⟩=some (.slice a n c)):(execOp ρ ⟨dst,.load 51 x,ty,pos,after,guard⟩).run Tryz.prog w=.ok (.value (.slice a n c)) w:=by simp [execOp,hx,go_sem,h]
theorem Jba {a:Option Addr} {n c:Nat} (hx:ρ x=.slice a n c):(execOp ρ ⟨dst,.call ⟨.builtin .len,#[x],#[51]⟩,ty,pos,after,guard⟩).run Tryz.prog w=.ok (.value (.int .i64 (n:Nat))) w:=by simp [execOp,hx,go_sem]
theorem Xn {a:Option Addr} {n c:Nat} (hx:ρ x=.pointer (some ⟨g,o,none⟩)) (h:w.cell? ⟨g,o,none⟩=some (.slice a n c)):(execOp ρ ⟨dst,.load 52 x,ty,pos,after,guard⟩).run Tryz.prog w=.ok (.value (.slice a n c)) w:=by simp [execOp,hx,go_sem,h]
theorem Wy {a:Option Addr} {n c:Nat} (hx:ρ x=.slice a n c):(execOp ρ ⟨dst,.call ⟨.builtin .len,#[x],#[52]⟩,ty,pos,after,guard⟩).run Tryz.prog w=.ok (.value (.int .i64 (n:Nat))) w:=by simp [execOp,hx,go_sem]
theorem Jgg {a:Option Addr} {n c:Nat} (hx:ρ x=.pointer (some ⟨g,o,none⟩)) (h:w.cell? ⟨g,o,none⟩=some (.slice a n c)):(execOp ρ ⟨dst,.load 53 x,ty,pos,after,guard⟩).run Tryz.prog w=.ok (.value (.slice a n c)) w:=by simp [execOp,hx,go_sem,h]
theorem Jex {a:Option Addr} {n c:Nat} (hx:ρ x=.slice a n c):(execOp ρ ⟨dst,.call ⟨.builtin .len,#[x],#[53]⟩,ty,pos,after,guard⟩).run Tryz.prog w=.ok (.value (.int .i64 (n:Nat))) w:=by simp [execOp,hx,go_sem]
theorem Jcv {a:Option Addr} {n c:Nat} (hx:ρ x=.pointer (some ⟨g,o,none⟩)) (h:w.cell? ⟨g,o,none⟩=some (.slice a n c)):(execOp ρ ⟨dst,.load 54 x,ty,pos,after,guard⟩).run Tryz.prog w=.ok (.value (.slice a n c)) w:=by simp [execOp,hx,go_sem,h]
theorem Jaz {a:Option Addr} {n c:Nat} (hx:ρ x=.slice a n c):(execOp ρ ⟨dst,.call ⟨.builtin .len,#[x],#[54]⟩,ty,pos,after,guard⟩).run Tryz.prog w=.ok (.value (.int .i64 (n:Nat))) w:=by simp [execOp,hx,go_sem]
theorem Jbb {a:Option Addr} {n c:Nat} (hx:ρ x=.pointer (some ⟨g,o,none⟩)) (h:w.cell? ⟨g,o,none⟩=some (.slice a n c)):(execOp ρ ⟨dst,.load 55 x,ty,pos,after,guard⟩).run Tryz.prog w=.ok (.value (.slice a n c)) w:=by simp [execOp,hx,go_sem,h]
theorem Jac {a:Option Addr} {n c:Nat} (hx:ρ x=.slice a n c):(execOp ρ ⟨dst,.call ⟨.builtin .len,#[x],#[55]⟩,ty,pos,after,guard⟩).run Tryz.prog w=.ok (.value (.int .i64 (n:Nat))) w:=by simp [execOp,hx,go_sem]
theorem Kx {a:Option Addr} {n c:Nat} (hx:ρ x=.pointer (some ⟨g,o,none⟩)) (h:w.cell? ⟨g,o,none⟩=some (.slice a n c)):(execOp ρ ⟨dst,.load 27 x,ty,pos,after,guard⟩).run Tryz.prog w=.ok (.value (.slice a n c)) w:=by simp [execOp,hx,go_sem,h]
theorem Ut (hx:ρ x=.pointer (some ⟨g,0,none⟩)):(execOp ρ ⟨dst,.fieldAddr 114 x 0,ty,pos,after,guard⟩).run Tryz.prog w=.ok (.value (.pointer (some ⟨g,0,none⟩))) w:=by simp [execOp,hx,go_sem]
theorem We (hx:ρ x=.pointer (some ⟨g,0,none⟩)):(execOp ρ ⟨dst,.fieldAddr 114 x 1,ty,pos,after,guard⟩).run Tryz.prog w=.ok (.value (.pointer (some ⟨g,1,none⟩))) w:=by simp [execOp,hx,go_sem]
theorem Wd (hx:ρ x=.pointer (some ⟨g,0,none⟩)):(execOp ρ ⟨dst,.fieldAddr 114 x 2,ty,pos,after,guard⟩).run Tryz.prog w=.ok (.value (.pointer (some ⟨g,2,none⟩))) w:=by simp [execOp,hx,go_sem]
theorem o_fieldHrNum {i:Nat} (hx:ρ x=.pointer (some ⟨g,i*3,none⟩)):(execOp ρ ⟨dst,.fieldAddr 114 x 1,ty,pos,after,guard⟩).run Tryz.prog w=.ok (.value (.pointer (some ⟨g,i*3+1,none⟩))) w:=by simp [execOp,hx,go_sem]
theorem Jbn:(execOp ρ ⟨dst,.alloc 114,ty,pos,after,guard⟩).run Tryz.prog w=.ok (.value (.pointer (some ⟨w.heap.size,0,none⟩))) (w.alloc (.cells #[.slice none 0 0,.slice none 0 0,.int .i64 (0:Nat)] 114)):=by simp [execOp,go_sem]
theorem Jaw {l gv:Value} {q:Nat} (hx:ρ x=.pointer (some ⟨g,o,none⟩)) (c0:w.cell? ⟨g,o,none⟩=some l) (c1:w.cell? ⟨g,o+1,none⟩=some gv) (c2:w.cell? ⟨g,o+2,none⟩=some (.int .i64 (q:Nat))):(execOp ρ ⟨dst,.load 114 x,ty,pos,after,guard⟩).run Tryz.prog w=.ok (.value (.agg #[l,gv,.int .i64 (q:Nat)])) w:=by
 simp [execOp,hx,go_sem,c0,c1,c2]
theorem Jav {l gv l1 g1 u1:Value} {q:Nat} (hx:ρ x=.pointer (some ⟨g,0,none⟩)) (hy:ρ y=.agg #[l,gv,.int .i64 (q:Nat)]) (h:At w g 114 #[l1,g1,u1]) (h1:l.oneCell'=true) (h2:gv.oneCell'=true):(execOp ρ ⟨dst,.store 114 x y,ty,pos,after,guard⟩).run Tryz.prog w=.ok .skip (puts w g 0 [l,gv,.int .i64 (q:Nat)]):=by
 have ht:w.there g 0 3:=fun j hj=>⟨by
  rw [Nat.zero_add,h.cell,Array.getElem?_eq_getElem (show j<(#[l1,g1,u1]:Array Value).size from hj)];rfl,h.frozen _⟩
 have:=run_storeVar_mid (P:=Tryz.prog) w g 0 114 #[l,gv,.int .i64 (q:Nat)] ht Tryz.sizeHNum (by simp [h1,h2,show (Value.int IntKind.i64 (q:Int)).oneCell'=true from rfl])
 rw [Jgd]
 simp only [execOp,hx,hy,Instr.storeAt,Instr.sureAddr,Sem.run_bind,Sem.run_pure,Result.andThen_ok,this]
theorem o_buildHNum {a:Option Addr} {n c:Nat} {q:Nat} (hx:ρ x=.slice a n c) (hy:ρ y=.int .i64 (q:Nat)):(execOp ρ ⟨dst,.build 114 #[(0,x),(2,y)],ty,pos,after,guard⟩).run Tryz.prog w=.ok (.value (.agg #[.slice a n c,.slice none 0 0,.int .i64 (q:Nat)])) w:=by simp [execOp,hx,hy,go_sem]
theorem o_sliceHNum {a:Option Addr} {n c:Nat} {q:Nat} (hx:ρ x=.agg #[.slice a n c,.slice none 0 0,.int .i64 (q:Nat)]):(execOp ρ ⟨dst,.buildSlice 42 1 #[(0,x)],ty,pos,after,guard⟩).run Tryz.prog w=.ok (.value (.slice (some ⟨w.heap.size,0,none⟩) 1 1)) (w.alloc (.cells #[.slice a n c,.slice none 0 0,.int .i64 (q:Nat)] 114)):=by simp [execOp,hx,go_sem]
theorem Jbz {i l cap:Nat} (hi:i<l) (hx:ρ x=.slice (some ⟨g,0,none⟩) l cap) (hy:ρ y=.int .i64 (i:Nat)):(execOp ρ ⟨dst,.indexAddr 42 x y,ty,pos,after,guard⟩).run Tryz.prog w=.ok (.value (.pointer (some ⟨g,i*3,none⟩))) w:=by
 have h1:(i:Int)<(l:Int):=by omega
 simp [execOp,hx,hy,go_sem,h1]
theorem o_stlNum {cs:Array Value} {t:TypeId} {a:Option Addr} {n c:Nat} (hx:ρ x=.pointer (some ⟨g,o,none⟩)) (hy:ρ y=.slice a n c) (h:At w g t cs) (hs:o<cs.size):(execOp ρ ⟨dst,.store 27 x y,ty,pos,after,guard⟩).run Tryz.prog w=.ok .skip (puts w g o [.slice a n c]):=by
 have c0:w.cell? ⟨g,o,none⟩=some cs[o]:=(h.cell o).trans (Array.getElem?_eq_getElem hs)
 have f0:=h.frozen o
 simp [execOp,hx,hy,go_sem,puts,c0,f0]
theorem o_sthNum {cs:Array Value} {t:TypeId} {a:Option Addr} {n c:Nat} (hx:ρ x=.pointer (some ⟨g,o,none⟩)) (hy:ρ y=.slice a n c) (h:At w g t cs) (hs:o<cs.size):(execOp ρ ⟨dst,.store 42 x y,ty,pos,after,guard⟩).run Tryz.prog w=.ok .skip (puts w g o [.slice a n c]):=by
 have c0:w.cell? ⟨g,o,none⟩=some cs[o]:=(h.cell o).trans (Array.getElem?_eq_getElem hs)
 have f0:=h.frozen o
 simp [execOp,hx,hy,go_sem,puts,c0,f0]
theorem o_cvt {q:Nat} (hq:q<9223372036854775808) (hx:ρ x=.int .i64 (q:Nat)):(execOp ρ ⟨dst,.convert 3 22 x,ty,pos,after,guard⟩).run Tryz.prog w=.ok (.value (.int .u64 (q:Nat))) w:=by
 have h1:IntKind.u64.wrap (q:Int)=(q:Int):=by rw [IntKind.wrap_u64];omega
 simp [execOp,hx,go_sem,h1]
end
section
variable {P:Program} {ops:Array Oper} {Q:Exit→Act→World→Prop} {a:Act} {n0:Nat} {w w0:World} {S:World→Prop} {fuel i:Nat} {listed:Array Bool} {md:Region.Mode}
theorem lx_makeW {rest:List Oper} {N d n bytes sz:Nat} {t T:TypeId} {x y:Operand} {ty:TypeId} {pos:String} {after:Array Edge} {L:List (Nat × Value)} {df:List Deferred} {A R:List (Nat × TypeId × Array Value)} {i0:TypeInfo} {z:Value} (ht:P.underlying t=some (.slice T)) (hi:P.info? T=some i0) (hz:i0.zero=some z) (hsize:i0.size=sz) (hby:i0.bytes=bytes)
  (F:Fr a N L df) (H:Mem n0 w0 w (A++R)) (hd:Nat.blt d N=true) (hx:a.eval x=.int .i64 0) (hy:a.eval y=.int .i64 (n:Nat)) (hn:n≤100000) (hsz2:sz≤100) (hb2:bytes≤1000)
  (h:∀ a' w' g R',Fr a' N ((d,.slice (some ⟨g,0,none⟩) 0 n)::L) df→Mem n0 w0 w' (A++R')→LW T sz R' (.slice (some ⟨g,0,none⟩) 0 n) 0 []→(∀ T1 s1 v1 n1 xs1,LW T1 s1 R v1 n1 xs1→LW T1 s1 R' v1 n1 xs1∧Dj (.slice (some ⟨g,0,none⟩) 0 n) v1)→wpList P ops Q rest a' w'):wpList P ops Q (⟨some d,.makeSlice t x y,ty,pos,after,none⟩::rest) a w:=by
 obtain ⟨w',hr,ho,hg⟩:=run_makeSlice_owned (P:=P) (w:=w) w.heap.size t T i0 z sz ht hi hz hsize .i64 .i64 n (Nat.le_trans (Nat.mul_le_mul hn hsz2) (by decide)) (by rw [hby];exact Nat.le_trans (Nat.mul_le_mul hb2 hn) (by decide)) (by unfold maxLen;omega) (Nat.le_refl _)
 rcases ho.2 with ⟨e,_⟩ | ⟨g1,cap1,cur',e,hb,hat,k1,k2,k3,k4⟩
 ·cases e
 cases e
 refine Ux (v:=.slice (some ⟨w.heap.size,0,none⟩) 0 n) (w':=w') F (Ja rfl _) rfl hd ?_ fun a' F'=>h a' w' _ _ F' (H.regrow hg (Or.inl ⟨rfl,Nat.le_refl _⟩) hat) ⟨by simp,Or.inr ⟨_,n,cur',rfl,List.mem_cons_self,k1,k2,k3,by simp⟩⟩ fun T1 s1 v1 n1 xs1 l1=>?_
 ·simp only [execOp,hx,hy]
  simp [go_sem,hr]
 ·have hne:v1.ownBlock≠some w.heap.size:=fun e=>by
   obtain ⟨c1,hm1⟩:=l1.block e
   have h3:w.heap.size<w.heap.size:=H.lt _ (List.mem_append_right A hm1)
   omega
  exact ⟨l1.far hne,Or.inr (Or.inr fun e=>hne e.symm)⟩
theorem sx_storeM {g j:Nat} {o:Oper} {vs:List Value} {M2:List (Nat × TypeId × Array Value)} (H2:Mem n0 w0 (puts w g j vs) M2) (hr:Region.ready md ops listed=[i]) (ho:ops[i]? = some o) (hg:o.guard=none) (hdst:o.dst=none) (hrun:(execOp a.eval o).run P w=.ok .skip (puts w g j vs)) (hS:∀ w',Mem n0 w0 w' M2→S w')
  (h:∀ w',Mem n0 w0 w' M2→wpAnyH P md ops Q S fuel (listed.setIfInBounds i true) a w'):wpAnyH P md ops Q S (fuel+1) listed a w:=by
 refine Vm hr ho fun K hK=>Ky hg (Vf hrun ?_)
 rw [hdst]
 exact hK.out _ _ (hS _ H2) (h _ H2)
theorem lx_storeM {g j:Nat} {o:Oper} {rest:List Oper} {vs:List Value} {M2:List (Nat × TypeId × Array Value)} (H2:Mem n0 w0 (puts w g j vs) M2) (hw:Region.wanted o (yielded ops a.tmps)=true) (hdst:o.dst=none) (hrun:(execOp a.eval o).run P w=.ok .skip (puts w g j vs))
  (h:∀ w',Mem n0 w0 w' M2→wpList P ops Q rest a w'):wpList P ops Q (o::rest) a w:=by
 unfold wpList
 rw [if_pos hw]
 left
 unfold Oper.wp
 rw [hrun]
 show wpList P ops Q rest (a.put o.dst undef) _
 rw [hdst]
 exact h _ H2
end
open Go.RowKit Go.WideShapes Go.ChangeShapes Go.ChangeAt
theorem Tryz.cellsG:Tryz.prog.cellsOf 26=16:=by kernel_rfl
section
variable {H:Type} {enc:TypeId × Value→H} {w:World} {held:Bool}
theorem open_group {base:Nat} {v:Value} {d:DataW H} {p:List MemPlace} (hv:Value.okWide Tryz.prog w .any base 26 v) (h:DataW.Trod enc Tryz.prog w 0 (fun _=>true) held 26 v d p) :
  ∃ P Q G H':Nat,v=grp P Q G H'∧P<2^256∧Q<2^256∧G<2^256∧H'<2^256:=by
 obtain ⟨cs,rfl,hsz⟩:∃ cs,v=.agg cs∧cs.size=Tryz.prog.cellsOf 26:=by
  simp only [Value.okWide,Tryz.underlying26] at hv
  obtain ⟨cs,h1,h2,_⟩:=hv
  exact ⟨cs,h1,h2⟩
 obtain ⟨fuel,hf⟩:=h
 obtain ⟨xs,m,hm,_,hl,hlen,hf⟩:=DataW.trod_struct Tryz.underlying26 hf
 rw [Tryz.cellsG] at hsz
 obtain ⟨cs⟩:=cs
 match cs,hsz with
 | [c0,c1,c2,c3,c4,c5,c6,c7,c8,c9,c10,c11,c12,c13,c14,c15],_=>
  match xs,hlen with
  | [y0,y1,y2,y3],_=>
   simp only [Value.cells] at hf
   have h0:DataW.trod enc Tryz.prog w 0 (fun _=>true) held m 24 [c0,c1,c2,c3]=some y0:=by simpa [Tryz.cells24] using hf 0 _ rfl
   have h1:DataW.trod enc Tryz.prog w 0 (fun _=>true) held m 24 [c4,c5,c6,c7]=some y1:=by simpa [Tryz.cells24] using hf 1 _ rfl
   have h2:DataW.trod enc Tryz.prog w 0 (fun _=>true) held m 24 [c8,c9,c10,c11]=some y2:=by simpa [Tryz.cells24] using hf 2 _ rfl
   have h3:DataW.trod enc Tryz.prog w 0 (fun _=>true) held m 24 [c12,c13,c14,c15]=some y3:=by simpa [Tryz.cells24] using hf 3 _ rfl
   obtain ⟨P,hP,rfl,rfl,rfl,rfl⟩:=Xa h0
   obtain ⟨Q,hQ,rfl,rfl,rfl,rfl⟩:=Xa h1
   obtain ⟨G,hG,rfl,rfl,rfl,rfl⟩:=Xa h2
   obtain ⟨K,hK,rfl,rfl,rfl,rfl⟩:=Xa h3
   exact ⟨P,Q,G,K,rfl,hP,hQ,hG,hK⟩
end
open Go.RowKit Go.WideShapes Go.ChangeShapes Go.ChangeAt
theorem Tryz.cellsSl:Tryz.prog.cellsOf 27=1:=by kernel_rfl
section
variable {H:Type} {enc:TypeId × Value→H} {w:World} {held:Bool}
theorem choose_n {n:Nat} {R:Nat→Nat→Prop} (h:∀ i,i<n→∃ p,R i p):∃ l:List Nat,l.length=n∧∀ i (hi:i<l.length),R i (l[i]):=by
 induction n with
 | zero=>exact ⟨[],rfl,fun i hi=>absurd hi (Nat.not_lt_zero _)⟩
 | succ n ih=>
  obtain ⟨l,hl,hR⟩:=ih fun i hi=>h i (by omega)
  obtain ⟨p,hp⟩:=h n (by omega)
  refine ⟨l++[p],by simp [hl],fun i hi=>?_⟩
  by_cases e:i<l.length
  ·rw [List.getElem_append_left e];exact hR i e
  ·have:i=n:=by simp at hi;omega
   subst this
   rw [List.getElem_append_right (by omega)]
   simp [hl];exact hp
theorem Jco {fuel:Nat} {v':Value} {x:DataW H × List MemPlace} (hf:DataW.trod enc Tryz.prog w 0 (fun _=>true) held fuel 27 [v']=some x) :
  ∃ (xs:List Nat) (a:Option Addr) (cap:Nat),v'=.slice a xs.length cap∧RN w.heap.size w a xs.length cap xs:=by
 rcases DataW.trod_slice Tryz.underlying27 hf with ⟨hc',_⟩ | ⟨a,len,cap,elems,rest,k,hk,hc',_,_,hlc,hcm,hel,hget,_⟩
 ·obtain rfl:v'=.slice none 0 0:=by simpa using hc'
  exact ⟨[],none,0,rfl,rfl,Nat.le_refl _,by decide,fun _ h=>(by cases h),Or.inl rfl⟩
 ·obtain rfl:v'=.slice (some a) len cap:=by simpa using hc'
  rw [Tryz.cells24] at hget
  have sp0:0<len→a.spot=none:=by
   intro hi
   have hg:=hget 0 hi
   rw [List.getElem?_eq_getElem (by omega)] at hg
   obtain ⟨ci,hci,ht⟩:=Option.bind_eq_some_iff.1 hg
   obtain ⟨_,hcl,hcell⟩:=World.cells?_some hci
   have h0:=hcell 0 (by omega)
   rw [List.getElem?_eq_getElem (by omega)] at h0
   simpa [Addr.add] using World.cell?_spot h0
  have each:∀ i,i<len→∃ p:Nat,p<2^256∧a.spot=none∧a.block<w.heap.size∧∀ k,k<4→w.cell? ⟨a.block,a.off+i*4+k,none⟩=some (.int .u64 (wd p k)):=by
   intro i hi
   have hg:=hget i hi
   rw [List.getElem?_eq_getElem (by omega)] at hg
   obtain ⟨ci,hci,ht⟩:=Option.bind_eq_some_iff.1 hg
   obtain ⟨_,hcl,hcell⟩:=World.cells?_some hci
   match ci,hcl with
   | [c0,c1,c2,c3],_=>
    obtain ⟨p,hp,rfl,rfl,rfl,rfl⟩:=Xa ht
    have sp:a.spot=none:=sp0 (by omega)
    have cell:∀ j (hj:j<4),w.cell? ⟨a.block,a.off+i*4+j,none⟩=some (.int .u64 (wd p j)):=by
     intro j hj
     have:=hcell j hj
     obtain ⟨b,off,spot⟩:=a
     simp only at sp
     subst sp
     rw [Addr.add_lit,Addr.add_lit] at this
     rw [this]
     match j,hj with
     | 0,_=>rfl
     | 1,_=>rfl
     | 2,_=>rfl
     | 3,_=>rfl
    exact ⟨p,hp,sp,World.block_lt_of_cell? w ⟨a.block,a.off+i*4+0,none⟩ (cell 0 (by omega)),cell⟩
  obtain ⟨xs,hl,hR⟩:=choose_n each
  refine ⟨xs,some a,cap,by rw [hl],rfl,by rw [hl];exact hlc,by unfold maxLen at hcm;omega,fun x hx=>?_,?_⟩
  ·obtain ⟨i,hi,rfl⟩:=List.getElem_of_mem hx
   exact (hR i hi).1
  ·rcases Nat.eq_zero_or_pos xs.length with h0 | h0
   ·exact Or.inl (List.length_eq_zero_iff.1 h0)
   ·right
    obtain ⟨_,sp,hb,_⟩:=hR 0 h0
    obtain ⟨b,off,spot⟩:=a
    simp only at sp hb
    subst sp
    exact ⟨b,off,rfl,hb,fun i hi=>(hR i hi).2.2.2⟩
end
open Go.RowKit Go.WideShapes Go.ChangeShapes Go.ChangeAt
theorem weigh {H:Type} {ts:List TypeId} {ds:List (DataW H)} (h:(DataW.weightsEach Tryz.prog ts ds).all (·≤reachBytes)=true) {j:Nat} {t:TypeId} {d:DataW H} (ht:ts[j]? = some t) (hd:ds[j]? = some d) :
  ∀ n∈d.weights Tryz.prog t,n≤140737488351232:=by
 intro n hn
 have:=List.all_eq_true.1 h n (DataW.weights_mem_each ht hd n hn)
 have h2:n≤reachBytes:=of_decide_eq_true this
 exact h2
theorem bytesNum:Tryz.prog.bytesOf 24=32:=by kernel_rfl
theorem Jei:Tryz.prog.cellsOf 3=1:=by kernel_rfl
theorem Jeh:Tryz.prog.cellsOf 28=1:=by kernel_rfl
theorem cellsZ10:Tryz.prog.cellsOf 63=7:=by kernel_rfl
section
variable {H:Type} {enc:TypeId × Value→H} {w:World} {held:Bool}
theorem Jgj {fuel:Nat} {a:Option Addr} {n cap:Nat} {x:DataW H × List MemPlace} (hf:DataW.trod enc Tryz.prog w 0 (fun _=>true) held fuel 27 [.slice a n cap]=some x) (hw:∀ m∈x.1.weights Tryz.prog 27,m≤140737488351232):n≤140737488351232:=by
 rcases DataW.trod_slice Tryz.underlying27 hf with ⟨hc',_⟩ | ⟨a',len,cap',elems,rest,k,hk,hc',hx,_,hlc,hcm,hel,hget,_⟩
 ·cases hc';exact Nat.zero_le _
 ·cases hc'
  have:=hw ((elems.length+rest.length)*Tryz.prog.bytesOf 24) (by
   rw [hx]
   simp only [DataW.weights,Tryz.underlying27,List.length_map]
   exact List.mem_cons_self ..)
  rw [bytesNum] at this
  omega
theorem okWide_str {base:Nat} {v:Value} {t:TypeId} {fs:Array Field} (hu:Tryz.prog.underlying t=some (.struct fs)) (hv:Value.okWide Tryz.prog w .any base t v):∃ cs,v=.agg cs∧cs.size=Tryz.prog.cellsOf t:=by
 simp only [Value.okWide,hu] at hv
 obtain ⟨cs,h1,h2,_⟩:=hv
 exact ⟨cs,h1,h2⟩
theorem open_given10 {base:Nat} {v:Value} {d:DataW H} {p:List MemPlace} (hv:Value.okWide Tryz.prog w .any base 63 v) (h:DataW.Trod enc Tryz.prog w 0 (fun _=>true) held 63 v d p) :
  ∃ (xs0:List Nat) (a0:Option Addr) (cap0:Nat) (xs1:List Nat) (a1:Option Addr) (cap1:Nat) (xs2:List Nat) (a2:Option Addr) (cap2:Nat) (X3:Nat),v=.agg #[.slice a0 xs0.length cap0,.slice a1 xs1.length cap1,.slice a2 xs2.length cap2,.int .u64 (wd X3 0),.int .u64 (wd X3 1),.int .u64 (wd X3 2),.int .u64 (wd X3 3)]∧RN w.heap.size w a0 xs0.length cap0 xs0∧RN w.heap.size w a1 xs1.length cap1 xs1∧RN w.heap.size w a2 xs2.length cap2 xs2∧X3<2^256∧((∀ m∈d.weights Tryz.prog 63,m≤140737488351232)→xs0.length≤140737488351232∧xs1.length≤140737488351232∧xs2.length≤140737488351232):=by
 obtain ⟨cs,rfl,hsz⟩:=okWide_str Tryz.underlying63 hv
 obtain ⟨fuel,hf⟩:=h
 obtain ⟨ys,m,hm,hx,hl,hlen,hf⟩:=DataW.trod_struct Tryz.underlying63 hf
 rw [cellsZ10] at hsz
 obtain ⟨cs⟩:=cs
 match cs,hsz with
 | [c0,c1,c2,c3,c4,c5,c6],_=>
  match ys,hlen with
  | [y0,y1,y2,y3],_=>
   simp only [Value.cells] at hf
   have hd2:=congrArg Prod.fst hx
   simp only at hd2
   have h0:DataW.trod enc Tryz.prog w 0 (fun _=>true) held m 27 [c0]=some y0:=by simpa [Tryz.cells24,Tryz.cellsSl,Jei,Jeh] using hf 0 _ rfl
   have h1:DataW.trod enc Tryz.prog w 0 (fun _=>true) held m 27 [c1]=some y1:=by simpa [Tryz.cells24,Tryz.cellsSl,Jei,Jeh] using hf 1 _ rfl
   have h2:DataW.trod enc Tryz.prog w 0 (fun _=>true) held m 27 [c2]=some y2:=by simpa [Tryz.cells24,Tryz.cellsSl,Jei,Jeh] using hf 2 _ rfl
   have h3:DataW.trod enc Tryz.prog w 0 (fun _=>true) held m 24 [c3,c4,c5,c6]=some y3:=by simpa [Tryz.cells24,Tryz.cellsSl,Jei,Jeh] using hf 3 _ rfl
   obtain ⟨xs0,a0,cap0,rfl,r0⟩:=Jco h0
   obtain ⟨xs1,a1,cap1,rfl,r1⟩:=Jco h1
   obtain ⟨xs2,a2,cap2,rfl,r2⟩:=Jco h2
   obtain ⟨X3,hX3,rfl,rfl,rfl,rfl⟩:=Xa h3
   exact ⟨xs0,a0,cap0,xs1,a1,cap1,xs2,a2,cap2,X3,rfl,r0,r1,r2,hX3,fun hw=>⟨Jgj h0 (fun q hq=>hw q (by rw [hd2];simp only [DataW.weights,Tryz.underlying63,List.map_cons,List.map_nil,DataW.weightsEach,Array.toList];exact List.mem_append_left _ hq)),Jgj h1 (fun q hq=>hw q (by rw [hd2];simp only [DataW.weights,Tryz.underlying63,List.map_cons,List.map_nil,DataW.weightsEach,Array.toList];exact List.mem_append_right _ (List.mem_append_left _ hq))),Jgj h2 (fun q hq=>hw q (by rw [hd2];simp only [DataW.weights,Tryz.underlying63,List.map_cons,List.map_nil,DataW.weightsEach,Array.toList];exact List.mem_append_right _ (List.mem_append_right _ (List.mem_append_left _ hq))))⟩⟩
end
end Go.Proofs.YtmmgmljkmmgjdaaGreatDoor
