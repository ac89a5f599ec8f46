/-
 The program's operations on words of 32 bits and their places,one law each.
-/
import Derived.Test.YtlphnfajhpkleaaDoorProg
import Derived.Test.YtlphnfajhpkleaaDoorMByCore
import Derived.Test.YtlphnfajhpkleaaDoorMByLaw
import Derived.Test.YtlphnfajhpkleaaDoorMByPutL
namespace Go.Proofs.YtlphnfajhpkleaaDoor.By
set_option maxRecDepth 100000
open Go.RowKit
set_option linter.unusedSimpArgs false
set_option linter.unusedVariables false

theorem not_form (a:Nat) (ha:a<4294967296):4294967295 ^^^ a=4294967295-a:=by
 apply Nat.eq_of_testBit_eq
 intro i
 have h:(4294967295-a).testBit i=(decide (i<32) && !a.testBit i):=by
  have:=Nat.testBit_two_pow_sub_succ (x:=a) (n:=32) (by simpa using ha) i
  rw [← this,show 2^32-(a+1)=4294967295-a by rw [show (2:Nat)^32=4294967296 by decide];omega]
 have h2:(4294967295:Nat).testBit i=decide (i<32):=by
  have:=Nat.testBit_two_pow_sub_one 32 i
  rwa [show (2:Nat)^32-1=4294967295 by decide] at this
 rw [Nat.testBit_xor,h,h2]
 by_cases hi:i<32
 ·simp [hi]
 ·have:a.testBit i=false:=Nat.testBit_lt_two_pow (Nat.lt_of_lt_of_le ha (by rw [show 4294967296=2^32 by decide];exact Nat.pow_le_pow_right (by decide) (by omega)))
  simp [hi,this]
section
variable {dst:Option Tmp} {ty:TypeId} {pos:String} {after:Array Edge} {gd:Option (Nat × Bool)} {x y:Operand} {ρ:Operand→Value} {w:World}
theorem add32 (a b:Nat) (hx:ρ x=.int .u32 (a:Nat)) (hy:ρ y=.int .u32 (b:Nat)) :
  (execOp ρ ⟨dst,.binOp .add 109 x y 109,ty,pos,after,gd⟩).run Tryd.prog w=.ok (.value (.int .u32 ((a+b)%4294967296:Nat))) w:=by
 simp [execOp,hx,hy,go_sem,IntKind.wrap_u32']
theorem xor32 (a b:Nat) (ha:a<4294967296) (hb:b<4294967296) (hx:ρ x=.int .u32 (a:Nat)) (hy:ρ y=.int .u32 (b:Nat)) :
  (execOp ρ ⟨dst,.binOp .xor 109 x y 109,ty,pos,after,gd⟩).run Tryd.prog w=.ok (.value (.int .u32 (a ^^^ b:Nat))) w:=by
 simp [execOp,hx,hy,go_sem,u32_xor_nat a b ha hb]
theorem and32 (a b:Nat) (ha:a<4294967296) (hb:b<4294967296) (hx:ρ x=.int .u32 (a:Nat)) (hy:ρ y=.int .u32 (b:Nat)) :
  (execOp ρ ⟨dst,.binOp .and 109 x y 109,ty,pos,after,gd⟩).run Tryd.prog w=.ok (.value (.int .u32 (a &&& b:Nat))) w:=by
 simp [execOp,hx,hy,go_sem,u32_and_nat a b ha hb]
theorem or32 (a b:Nat) (ha:a<4294967296) (hb:b<4294967296) (hx:ρ x=.int .u32 (a:Nat)) (hy:ρ y=.int .u32 (b:Nat)) :
  (execOp ρ ⟨dst,.binOp .or 109 x y 109,ty,pos,after,gd⟩).run Tryd.prog w=.ok (.value (.int .u32 (a ||| b:Nat))) w:=by
 simp [execOp,hx,hy,go_sem,u32_or_nat a b ha hb]
theorem not32 (a:Nat) (ha:a<4294967296) (hx:ρ x=.int .u32 (a:Nat)) :
  (execOp ρ ⟨dst,.unOp .xor 109 x,ty,pos,after,gd⟩).run Tryd.prog w=.ok (.value (.int .u32 (4294967295-a:Nat))) w:=by
 have e:bits BinOp.xor IntKind.u32 (if IntKind.u32.signed=true then -1 else IntKind.u32.max) (a:Int)=((4294967295-a:Nat):Int):=by
  rw [show (if IntKind.u32.signed=true then (-1:Int) else IntKind.u32.max)=((4294967295:Nat):Int) by decide,u32_xor_nat _ _ (by decide) ha,not_form a ha]
 simp [execOp,hx,go_sem,e]
theorem shr32 (a n:Nat) (hn:n≤32) (hx:ρ x=.int .u32 (a:Nat)) (hy:ρ y=.int .u64 (n:Nat)) :
  (execOp ρ ⟨dst,.binOp .shr 109 x y 77,ty,pos,after,gd⟩).run Tryd.prog w=.ok (.value (.int .u32 (a/2^n:Nat))) w:=by
 have e:min n 32=n:=by omega
 simp [execOp,hx,hy,go_sem,e]
theorem sub64 (a b c:Nat) (hc:c+b=a) (ha:a<9223372036854775808) (hx:ρ x=.int .i64 (a:Nat)) (hy:ρ y=.int .i64 (b:Nat)) :
  (execOp ρ ⟨dst,.binOp .sub 3 x y 3,ty,pos,after,gd⟩).run Tryd.prog w=.ok (.value (.int .i64 (c:Nat))) w:=by
 have e:IntKind.i64.wrap ((a:Int)-b)=(c:Int):=by simp [IntKind.wrap,IntKind.bits,IntKind.signed];omega
 simp [execOp,hx,hy,go_sem,e]
theorem add64 (a b c:Nat) (hc:a+b=c) (ha:c<9223372036854775808) (hx:ρ x=.int .i64 (a:Nat)) (hy:ρ y=.int .i64 (b:Nat)) :
  (execOp ρ ⟨dst,.binOp .add 3 x y 3,ty,pos,after,gd⟩).run Tryd.prog w=.ok (.value (.int .i64 (c:Nat))) w:=by
 have e:IntKind.i64.wrap ((a:Int)+b)=(c:Int):=by simp [IntKind.wrap,IntKind.bits,IntKind.signed];omega
 simp [execOp,hx,hy,go_sem,e]
theorem mul64 (a b c:Nat) (hc:a*b=c) (ha:c<9223372036854775808) (hx:ρ x=.int .i64 (a:Nat)) (hy:ρ y=.int .i64 (b:Nat)) :
  (execOp ρ ⟨dst,.binOp .mul 3 x y 3,ty,pos,after,gd⟩).run Tryd.prog w=.ok (.value (.int .i64 (c:Nat))) w:=by
 have e:IntKind.i64.wrap ((a:Int)*b)=(c:Int):=by rw [show (a:Int)*b=(c:Int) by rw [← hc,Int.natCast_mul]];simp [IntKind.wrap,IntKind.bits,IntKind.signed];omega
 simp [execOp,hx,hy,go_sem,e]
theorem at64 (g k:Nat) (hk:k<64) (hx:ρ x=.pointer (some ⟨g,0,none⟩)) (hy:ρ y=.int .i64 (k:Nat)) :
  (execOp ρ ⟨dst,.indexAddr 126 x y,ty,pos,after,gd⟩).run Tryd.prog w=.ok (.value (.pointer (some ⟨g,k,none⟩))) w:=by
 have h1:(k:Int)<64:=by omega
 simp [execOp,hx,hy,go_sem,h1]
theorem atE (g k:Nat) (hk:k<8) (hx:ρ x=.pointer (some ⟨g,0,none⟩)) (hy:ρ y=.int .i64 (k:Nat)) :
  (execOp ρ ⟨dst,.indexAddr 111 x y,ty,pos,after,gd⟩).run Tryd.prog w=.ok (.value (.pointer (some ⟨g,k,none⟩))) w:=by
 have h1:(k:Int)<8:=by omega
 simp [execOp,hx,hy,go_sem,h1]
theorem load32 (g k:Nat) (u:Value) (hx:ρ x=.pointer (some ⟨g,k,none⟩)) (h:w.cell? ⟨g,k,none⟩=some u) :
  (execOp ρ ⟨dst,.load 109 x,ty,pos,after,gd⟩).run Tryd.prog w=.ok (.value u) w:=by
 simp [execOp,hx,go_sem,h]
theorem store32 (g k:Nat) (n:Int) (u:Value) (hx:ρ x=.pointer (some ⟨g,k,none⟩)) (hy:ρ y=.int .u32 n) (hc:w.cell? ⟨g,k,none⟩=some u) (hf:w.frozen? ⟨g,k,none⟩=false) :
  (execOp ρ ⟨dst,.store 109 x y,ty,pos,after,gd⟩).run Tryd.prog w=.ok .skip (w.setCell ⟨g,k,none⟩ (.int .u32 n)):=by
 simp [execOp,hx,hy,go_sem,hc,hf]
theorem sliceB (g k:Nat) (z:Int) (hk:k<64) (hz:z=(k:Int)) (hx:ρ x=.pointer (some ⟨g,0,none⟩)) (hy:ρ y=.int .i64 z) :
  (execOp ρ ⟨dst,.slice 112 x (some y) none none,ty,pos,after,gd⟩).run Tryd.prog w=.ok (.value (.slice (some ⟨g,k,none⟩) (64-k) (64-k))) w:=by
 subst hz
 have h1:(k:Int)≤64:=by omega
 have h2:¬ (64:Int)<(k:Int):=by omega
 have h3:((64:Int)-(k:Int)).toNat=64-k:=by omega
 have h4:¬ 64=k:=by omega
 simp [execOp,hx,hy,go_sem,h1,h2,h3,h4]
theorem build2 (a b:Int) (hc:∀ v,ρ (.const v)=v) :
  (execOp ρ ⟨dst,.buildSlice 129 2 #[(0,.const (.int .i64 a)),(1,.const (.int .i64 b))],ty,pos,after,gd⟩).run Tryd.prog w=.ok (.value (.slice (some ⟨w.heap.size,0,none⟩) 2 2)) (w.alloc (.cells #[.int .i64 a,.int .i64 b] 3)):=by
 simp [execOp,hc,go_sem]
theorem build3 (a b c:Int) (hc:∀ v,ρ (.const v)=v) :
  (execOp ρ ⟨dst,.buildSlice 129 3 #[(0,.const (.int .i64 a)),(1,.const (.int .i64 b)),(2,.const (.int .i64 c))],ty,pos,after,gd⟩).run Tryd.prog w=.ok (.value (.slice (some ⟨w.heap.size,0,none⟩) 3 3)) (w.alloc (.cells #[.int .i64 a,.int .i64 b,.int .i64 c] 3)):=by
 simp [execOp,hc,go_sem]
end

/-- but for the cell q all that was there is as it was -/
def Same (W:World) (q:Addr) (w':World):Prop:=∀ p:Addr,p.block<W.heap.size→p≠q→w'.cell? p=W.cell? p
theorem Same.of {W w:World} {q:Addr} (h:Below W.heap.size W w):Same W q w:=fun _ hp _=>h.cell hp
theorem Same.drew (W:World) (q:Addr):Same W q W.drew:=fun _ _ _=>rfl
theorem Same.set {W w:World} {q:Addr} (h:Same W q w) (v:Value):Same W q (w.setCell q v):=fun p hp hne=>(World.cell?_setCell_other _ _ _ _ (fun e=>hne e.symm)).trans (h p hp hne)
theorem At.rdI {w:World} {g:Nat} {t:TypeId} {cs:Array Value} (h:At w g t cs) (ns:List Nat) (e:cs=(ints ns).toArray:=by rfl):Rd w (some ⟨g,0,none⟩) ns.length (ints ns):=by
 subst e
 refine ⟨by simp [ints],fun _=>⟨g,0,rfl,h.lt,fun j u hu=>?_⟩⟩
 rw [h.cell,Nat.zero_add]
 simpa using hu
theorem known_global {a:Act} {cores:List Core} {pre:List Nat} (g:Nat):Known a cores pre (.global g) (.pointer (some ⟨g,0,none⟩)):=fun _ _ _ _=>rfl
section
variable {ops:Array Oper} {Q:Exit→Act→World→Prop} {rest:List Oper} {a:Act} {w:World} {d:Tmp} {ty:TypeId} {pos:String} {after:Array Edge} {x y:Operand}
theorem law_sliceB (g k:Nat) (z:Int) (hk:k<64) (hx:a.eval x=.pointer (some ⟨g,0,none⟩)) (hy:a.eval y=.int .i64 z) (hz:z=(k:Int))
  (h:wpList Tryd.prog ops Q rest (a.put (some d) (.slice (some ⟨g,k,none⟩) (64-k) (64-k))) w):wpList Tryd.prog ops Q (⟨some d,.slice 112 x (some y) none none,ty,pos,after,none⟩::rest) a w:=
 law_value rfl (sliceB g k z hk hz hx hy) h
end
theorem inst64 (k:Nat) (hk:k<64) (xs:Array Value) (u:Value) (hu:xs[k]? = some u) (w:World):(Instr.index 126 (.agg xs) (.int .i64 (k:Nat))).run Tryd.prog w=.ok u w:=by
 have h1:(k:Int)<64:=by omega
 have u3:=Tryd.underlying109
 have a3:=Tryd.isAgg109
 have z3:=Tryd.sizeOf109
 simp only [Instr.index,asIntOf,Sem.run_bind,Sem.run_pure,Result.andThen_ok,run_underlying Tryd.underlying126]
 simp [h1,Sem.run_bind,part,a3,z3,hu,go_sem]
theorem instE (k:Nat) (hk:k<8) (xs:Array Value) (u:Value) (hu:xs[k]? = some u) (w:World):(Instr.index 111 (.agg xs) (.int .i64 (k:Nat))).run Tryd.prog w=.ok u w:=by
 have h1:(k:Int)<8:=by omega
 have u3:=Tryd.underlying109
 have a3:=Tryd.isAgg109
 have z3:=Tryd.sizeOf109
 simp only [Instr.index,asIntOf,Sem.run_bind,Sem.run_pure,Result.andThen_ok,run_underlying Tryd.underlying111]
 simp [h1,Sem.run_bind,part,a3,z3,hu,go_sem]
end Go.Proofs.YtlphnfajhpkleaaDoor.By

/-
 shas.spread: a block's 16 numbers,and 48 more of them.
-/
namespace Go.Proofs.YtlphnfajhpkleaaDoor.By
set_option maxRecDepth 100000
open Go.RowKit
set_option linter.unusedSimpArgs false
set_option linter.unusedVariables false

theorem zero_words:(Tryd.prog.info? 126).map (·.zero)=some (some (.agg (hs (List.replicate 64 0)).toArray)):=by kernel_rfl
theorem size_words:(Tryd.prog.info? 126).map (·.size)=some 64:=by kernel_rfl
theorem under_words:Tryd.prog.underlying 126=some (.array 64 109):=by kernel_rfl
theorem fill_set (l:List Nat) (n v:Nat) (hn:l.length+n=64) (hp:0<n):(hs (l++List.replicate n 0)).toArray.setIfInBounds l.length (.int .u32 (v:Nat))=(hs ((l++[v])++List.replicate (n-1) 0)).toArray:=by
 rw [List.setIfInBounds_toArray,hs_set]
 obtain ⟨k,rfl⟩:∃ k,n=k+1:=⟨n-1,by omega⟩
 simp [List.replicate_succ]
theorem At.rdB {w:World} {g:Nat} {t:TypeId} {B:List Nat} (h:At w g t (bs B).toArray) (k:Nat) (hk:k≤B.length):Rd w (some ⟨g,k,none⟩) (B.length-k) (bs (B.drop k)):=by
 refine ⟨by simp [bs],fun _=>⟨g,k,rfl,h.lt,fun j u hu=>?_⟩⟩
 rw [h.cell]
 simpa [bs] using hu
theorem At.word {w:World} {g:Nat} {t:TypeId} {l:List Nat} (h:At w g t (hs l).toArray) (k:Nat) (hk:k<l.length):w.cell? ⟨g,k,none⟩=some (.int .u32 (l.getD k 0:Nat)):=by
 rw [h.cell,List.getElem?_toArray];exact hs_at l k hk
theorem getD_app (l m:List Nat) (k:Nat) (h:k<l.length):(l++m).getD k 0=l.getD k 0:=by simp [List.getD,List.getElem?_append_left h]
theorem getD_lt (l:List Nat) (h:∀ x∈l,x<4294967296) (k:Nat):l.getD k 0<4294967296:=by
 by_cases hk:k<l.length
 ·rw [List.getD_eq_getElem?_getD,List.getElem?_eq_getElem hk];exact h _ (List.getElem_mem hk)
 ·rw [List.getD_eq_getElem?_getD,List.getElem?_eq_none (by omega)];decide

set_option maxRecDepth 100000 in
set_option maxHeartbeats 4000000 in
theorem spread_ok (B:List Nat) (hl:B.length=64) (hb:∀ y∈B,y<256) (w:World) :
  Calls Tryd.prog 92 #[.agg (bs B).toArray] w fun e w'=>e=.returned (.agg (hs (sched B)).toArray)∧Below w.heap.size w w':=by
 have HB:=Lib.hid hb
 have HL:=Lib.hid hl
 clear hb hl
 go_enter Tryd.func92,Tryd.ntmps92
 go_wp2_with (first | (refine law_box (ty:=112) (bs B).toArray rfl ?_;intro w1 N1) | (refine law_alloc (d:=2) (ty:=126) _ zero_words ?_;intro w2 N2) | (refine law_alloc (d:=3) (ty:=126) _ zero_words ?_;intro w3 N3))
 have L1:=(N1.at_.on N2.bel).on N3.bel
 have L2:=N2.at_.on N3.bel
 have L3:=N3.at_
 have BW:=bel_tr (bel_tr N1.bel N2.bel) N3.bel
 have e1:=N1.size
 have e2:=N2.size
 have E3:w.heap.size≤w2.heap.size:=by omega
 have D12:w.heap.size≠w2.heap.size:=by omega
 have D13:w1.heap.size≠w2.heap.size:=by omega
 have E2:w.heap.size≤w1.heap.size:=by omega
 clear N1 N2 N3 e1 e2
 generalize hg3:w2.heap.size=g3 at *
 generalize hg2:w1.heap.size=g2 at *
 obtain ⟨g1,hg1⟩:∃ g,g=w.heap.size:=⟨_,rfl⟩
 rw [← hg1] at L1 D12 ⊢
 have M1:=Lib.hid L1
 have M2:=Lib.hid L2
 have M3:=Lib.hid L3
 have MB:=Lib.hid BW
 clear L1 L2 L3 BW hg1 hg2 hg3
 go_loopw [10] (fun s wr=>∃ i:Nat,i≤16∧s=.int .i64 i∧At wr g3 126 (hs (first B i++List.replicate (64-i) 0)).toArray∧At wr g1 112 (bs B).toArray∧At wr g2 126 (hs (List.replicate 64 0)).toArray∧Below w.heap.size w wr) (fun s _=>16-(intOf s).toNat)
 case atStart=>exact ⟨0,by omega,rfl,M3.out,M1.out,M2.out,MB.out⟩
 case round=>
  obtain ⟨i,hi,rfl,P3,P1,P2,PB⟩:=hrel
  clear M1 M2 M3 MB
  by_cases hlt:i<16
  ·have R1:=Lib.hid (P1.rdB (4*i) (by have:=HL.out;omega))
   have Q3:=Lib.hid P3
   have Q1:=Lib.hid P1
   have Q2:=Lib.hid P2
   have QB:=Lib.hid PB
   have old:=P3.word i (by simp [first_len];omega)
   have frz:=P3.frozen i
   clear P3 P1 P2 PB
   have vlt:val ((B.drop (4*i)).take 4)<4294967296:=val4_lt _ fun y hy=>HB.out y (List.mem_of_mem_drop hy)
   have G:Hid (Calls Tryd.prog 71 #[.slice (some ⟨g1,4*i,none⟩) (64-4*i) (64-4*i),.int .i64 4] wr fun e w'=>e=.returned (.tuple #[.int .u64 (val ((B.drop (4*i)).take 4):Nat),.int .i64 0])∧wr=w'):=
    Lib.hid (get_ok _ _ _ 4 _ wr (by omega) (by omega) (Nat.le_refl _) (by omega) (by have:=R1.out;rwa [HL.out] at this) (fun y hy=>HB.out y (List.mem_of_mem_drop hy)))
   have f4:=Lib.hid (first_succ B i)
   generalize val ((B.drop (4*i)).take 4)=v at *
   have cv:IntKind.u32.wrap (v:Int)=(v:Int):=by rw [IntKind.wrap_u32'];omega
   have m4:IntKind.i64.wrap ((4:Int)*(i:Int))=((4*i:Nat):Int):=by simp [IntKind.wrap,IntKind.bits,IntKind.signed];omega
   clear R1
   go_wp2_with (first | refine law_sliceB g1 (4*i) _ (by omega) rfl rfl (by omega) ?_ | go_at_call 71;refine G.out.mono ?_;rintro e w' ⟨rfl,rfl⟩)
   go_roundw
   case rel=>
    refine ⟨i+1,by omega,by go_num,?_,Q1.out.far (p:=⟨g3,i,none⟩) (fun e=>D12 e.symm) _,Q2.out.far (p:=⟨g3,i,none⟩) (fun e=>D13 e.symm) _,QB.out.setCell E3 _⟩
    have h:=Q3.out.set i (.int .u32 (v:Nat))
    have e:=fill_set (first B i) (64-i) v (by rw [first_len];omega) (by omega)
    rw [first_len] at e
    rw [e,← f4.out,show 64-i-1=64-(i+1) by omega] at h
    exact h
   case measure=>simp [intOf];omega
  ·obtain rfl:i=16:=by omega
   have M3:=Lib.hid P3
   have M1:=Lib.hid P1
   have M2:=Lib.hid P2
   have MB:=Lib.hid PB
   clear P3 P1 P2 PB hlt hi
   go_wp2
   go_loopw [7] (fun s wr=>∃ l:List Nat,16≤l.length∧l.length≤64∧l=ext (first B 16) (l.length-16)∧s=.int .i64 l.length∧At wr g3 126 (hs (l++List.replicate (64-l.length) 0)).toArray∧At wr g1 112 (bs B).toArray∧At wr g2 126 (hs (List.replicate 64 0)).toArray∧Below w.heap.size w wr) (fun s _=>64-(intOf s).toNat)
   case atStart=>exact ⟨first B 16,by rw [first_len];omega,by rw [first_len];omega,by rw [first_len];rfl,by rw [first_len];rfl,by have:=M3.out;rwa [first_len],M1.out,M2.out,MB.out⟩
   case round=>
    obtain ⟨l,hl1,hl2,hle,rfl,P3,P1,P2,PB⟩:=hrel
    clear M1 M2 M3 MB
    by_cases hlt:l.length<64
    ·have LL:=ext_lt _ (first_lt B HB.out 16) (l.length-16)
     rw [← hle] at LL
     have F15:=P3.word (l.length-15) (by simp;omega)
     have F2:=P3.word (l.length-2) (by simp;omega)
     have F16:=P3.word (l.length-16) (by simp;omega)
     have F7:=P3.word (l.length-7) (by simp;omega)
     have OLD:=P3.word l.length (by simp;omega)
     rw [getD_app _ _ _ (by omega)] at F15 F2 F16 F7
     have hx:=getD_lt l LL (l.length-15)
     have hy:=getD_lt l LL (l.length-2)
     have hp:=getD_lt l LL (l.length-16)
     have hq:=getD_lt l LL (l.length-7)
     have NXT:=Lib.hid (show nextw l=(((l.getD (l.length-16) 0+l.getD (l.length-7) 0)%4294967296+(turn (l.getD (l.length-15) 0) [7,18] ^^^ l.getD (l.length-15) 0/2^3))%4294967296+(turn (l.getD (l.length-2) 0) [17,19] ^^^ l.getD (l.length-2) 0/2^10))%4294967296 from rfl)
     clear LL
     generalize l.getD (l.length-15) 0=x at *
     generalize l.getD (l.length-2) 0=y at *
     generalize l.getD (l.length-16) 0=p at *
     generalize l.getD (l.length-7) 0=q at *
     have Q3:=Lib.hid P3
     have Q1:=Lib.hid P1
     have Q2:=Lib.hid P2
     have QB:=Lib.hid PB
     have LG:=P3.lt
     have HLE:=Lib.hid hle
     clear P3 P1 P2 PB hle
     go_wp2
     try simp only [List.append_eq,List.cons_append,List.nil_append]
     refine wp_region_noPanic ?_
     refine wp_region_held_drew (S:=fun w'=>Below wr.heap.size wr w') (by kernel_rfl) ((Below.refl _ _).drew) (fun _=>?_)
     refine wpAnyH_cores (fuel:=2) (⟨0,29,[],Kind.val (.int .i64 (l.length:Nat)),true⟩::⟨1,30,[0],Kind.val (.int .i64 ((l.length-15):Nat)),true⟩::⟨2,31,[1],Kind.val (.pointer (some ⟨g3,(l.length-15),none⟩)),true⟩::⟨3,32,[2],Kind.val (.int .u32 (x:Nat)),true⟩::⟨4,33,[3],Kind.val (.int .i64 (l.length:Nat)),true⟩::⟨5,34,[4],Kind.val (.int .i64 ((l.length-2):Nat)),true⟩::⟨6,35,[5],Kind.val (.pointer (some ⟨g3,(l.length-2),none⟩)),true⟩::⟨7,36,[6],Kind.val (.int .u32 (y:Nat)),true⟩::[]) _ _ wr _ ?_ ?_ ?_ ?_ ?_ ?_ ?_ ?_ ?_ ?_ ?_
     ·rfl
     ·kernel_rfl
     ·exact of_decide_eq_true (by kernel_rfl)
     ·(repeat refine all_cons ⟨_,by rfl,by rfl⟩ ?_);exact all_nil
     ·exact fun _ hb=>hb
     ·exact (Below.refl _ _).drew
     ·kernel_rfl
     ·exact fun _ _ _ _ _ h=>h
     ·(repeat (refine all_cons ?_ ?_;rotate_left));exact all_nil
      ·exact core_move _ _ _ _ _ _ (by rfl) (by rfl) (ko 7)
      ·exact core_held2C _ _ _ _ _ _ _ _ _ _ (by rfl) (by rfl) (kc 0 29) (known_const _) (fun ρ w kx ky hs=>sub64 (l.length) (15) ((l.length-15)) (by omega) (by omega) kx ky)
      ·exact core_held2C _ _ _ _ _ _ _ _ _ _ (by rfl) (by rfl) (ko 3) (kc 1 30) (fun ρ w kx ky hs=>at64 g3 ((l.length-15)) (by omega) kx ky)
      ·exact core_heldC _ _ _ _ _ _ _ _ (by rfl) (by rfl) (kc 2 31) (fun ρ w kx hs=>load32 _ _ _ kx ((hs.cell LG).trans (F15)))
      ·exact core_move _ _ _ _ _ _ (by rfl) (by rfl) (ko 7)
      ·exact core_held2C _ _ _ _ _ _ _ _ _ _ (by rfl) (by rfl) (kc 4 33) (known_const _) (fun ρ w kx ky hs=>sub64 (l.length) (2) ((l.length-2)) (by omega) (by omega) kx ky)
      ·exact core_held2C _ _ _ _ _ _ _ _ _ _ (by rfl) (by rfl) (ko 3) (kc 5 34) (fun ρ w kx ky hs=>at64 g3 ((l.length-2)) (by omega) kx ky)
      ·exact core_heldC _ _ _ _ _ _ _ _ (by rfl) (by rfl) (kc 6 35) (fun ρ w kx hs=>load32 _ _ _ kx ((hs.cell LG).trans (F2)))
     ·(repeat (refine all_cons ?_ ?_;rotate_left));exact all_nil
      all_goals try exact sA
     intro vs y1 hc
     obtain ⟨vv0,vv1,vv2,vv3,vv4,vv5,vv6,vv7,rfl⟩:=len8 vs hc.lv
     have qq0:=okv hc 0
     have qq1:=okv hc 1
     have qq2:=okv hc 2
     have qq3:=okv hc 3
     have qq4:=okv hc 4
     have qq5:=okv hc 5
     have qq6:=okv hc 6
     have qq7:=okv hc 7
     have BZ:=hc.bel
     clear hc
     subst qq0 qq1 qq2 qq3 qq4 qq5 qq6 qq7
     simp only [List.map_cons,List.map_nil,over,Act.put,List.setIfInBounds_toArray,List.set_cons_zero,List.set_cons_succ]
     refine assign_one (i:=8) _ 8 _ _ _ (.int .u32 (x:Nat)) (by kernel_rfl) (by rfl) (by rfl) (BZ) ?_
     try simp only [Act.put,List.setIfInBounds_toArray,List.set_cons_zero,List.set_cons_succ]
     refine assign_one (i:=9) _ 9 _ _ _ (.int .u32 (y:Nat)) (by kernel_rfl) (by rfl) (by rfl) (BZ) ?_
     try simp only [Act.put,List.setIfInBounds_toArray,List.set_cons_zero,List.set_cons_succ]
     refine wpAnyH_done (by kernel_rfl) ?_ _
     refine NoPanic.normal ?_
     have F16:=cell_on BZ F16
     have F7:=cell_on BZ F7
     have OLD:=cell_on BZ OLD
     have LG:=Nat.lt_of_lt_of_le LG BZ.size
     have Q3:=Lib.hid (Q3.out.on BZ)
     have Q1:=Lib.hid (Q1.out.on BZ)
     have Q2:=Lib.hid (Q2.out.on BZ)
     have QB:=Lib.hid (bel_tr QB.out BZ)
     clear BZ
     have FRZ:∀ w',Below y1.heap.size y1 w'→w'.frozen? ⟨g3,l.length,none⟩=false:=fun w' hb=>(Q3.out.on hb).frozen _
     go_wp2
     try simp only [List.append_eq,List.cons_append,List.nil_append]
     refine wp_region_noPanic ?_
     refine wp_region_held_drew (S:=fun w'=>Same y1 ⟨g3,l.length,none⟩ w') (by kernel_rfl) (Same.drew _ _) (fun _=>?_)
     refine wpAnyH_cores (fuel:=1) (⟨0,37,[],Kind.val (.int .i64 (l.length:Nat)),true⟩::⟨1,38,[0],Kind.val (.int .i64 (l.length:Nat)),true⟩::⟨2,39,[1],Kind.val (.int .i64 ((l.length-16):Nat)),true⟩::⟨3,40,[2],Kind.val (.pointer (some ⟨g3,(l.length-16),none⟩)),true⟩::⟨4,41,[3],Kind.val (.int .u32 (p:Nat)),true⟩::⟨5,42,[4],Kind.val (.int .i64 (l.length:Nat)),true⟩::⟨6,43,[5],Kind.val (.int .i64 ((l.length-7):Nat)),true⟩::⟨7,44,[6],Kind.val (.pointer (some ⟨g3,(l.length-7),none⟩)),true⟩::⟨8,45,[7],Kind.val (.int .u32 (q:Nat)),true⟩::⟨9,46,[4,8],Kind.val (.int .u32 ((p+q)%4294967296:Nat)),true⟩::⟨10,47,[9],Kind.val (.int .u32 (x:Nat)),true⟩::⟨13,50,[10],Kind.val (.int .u32 (x:Nat)),true⟩::⟨14,51,[11],Kind.val (.int .u32 ((x)/2^3:Nat)),true⟩::⟨17,54,[12],Kind.val (.int .u32 (y:Nat)),true⟩::⟨20,57,[13],Kind.val (.int .u32 (y:Nat)),true⟩::⟨21,58,[14],Kind.val (.int .u32 ((y)/2^10:Nat)),true⟩::⟨11,48,[15],Kind.slice y1.heap.size 3 #[.int .i64 7,.int .i64 18] 2,false⟩::⟨12,49,[10,15,16],Kind.val (.int .u32 (turn x [7,18]:Nat)),false⟩::⟨15,52,[12,15,17],Kind.val (.int .u32 ((turn x [7,18]) ^^^ ((x)/2^3):Nat)),true⟩::⟨16,53,[9,15,18],Kind.val (.int .u32 ((((p+q)%4294967296)+((turn x [7,18]) ^^^ ((x)/2^3)))%4294967296:Nat)),true⟩::⟨18,55,[15],Kind.slice y1.heap.size 3 #[.int .i64 17,.int .i64 19] 2,false⟩::⟨19,56,[13,15,17,20],Kind.val (.int .u32 (turn y [17,19]:Nat)),false⟩::⟨22,59,[15,21],Kind.val (.int .u32 ((turn y [17,19]) ^^^ ((y)/2^10):Nat)),true⟩::⟨23,60,[15,19,22],Kind.val (.int .u32 ((((((p+q)%4294967296)+((turn x [7,18]) ^^^ ((x)/2^3)))%4294967296)+((turn y [17,19]) ^^^ ((y)/2^10)))%4294967296:Nat)),true⟩::⟨24,61,[0,1,2,3,4,5,6,7,8,9,10,11,12,13,14,15,16,17,18,19,20,21,22,23],Kind.val (.pointer (some ⟨g3,l.length,none⟩)),true⟩::[]) _ _ y1 _ ?_ ?_ ?_ ?_ ?_ ?_ ?_ ?_ ?_ ?_ ?_
     ·rfl
     ·kernel_rfl
     ·exact of_decide_eq_true (by kernel_rfl)
     ·(repeat refine all_cons ⟨_,by rfl,by rfl⟩ ?_);exact all_nil
     ·exact fun _ hb=>Same.of hb
     ·exact (Below.refl _ _).drew
     ·kernel_rfl
     ·exact fun _ _ _ _ _ h=>h
     ·(repeat (refine all_cons ?_ ?_;rotate_left));exact all_nil
      all_goals try exact core_pureAs _ (by rfl)
      ·exact core_move _ _ _ _ _ _ (by rfl) (by rfl) (ko 7)
      ·exact core_move _ _ _ _ _ _ (by rfl) (by rfl) (ko 7)
      ·exact core_held2C _ _ _ _ _ _ _ _ _ _ (by rfl) (by rfl) (kc 1 38) (known_const _) (fun ρ w kx ky hs=>sub64 (l.length) (16) ((l.length-16)) (by omega) (by omega) kx ky)
      ·exact core_held2C _ _ _ _ _ _ _ _ _ _ (by rfl) (by rfl) (ko 3) (kc 2 39) (fun ρ w kx ky hs=>at64 g3 ((l.length-16)) (by omega) kx ky)
      ·exact core_heldC _ _ _ _ _ _ _ _ (by rfl) (by rfl) (kc 3 40) (fun ρ w kx hs=>load32 _ _ _ kx ((hs _ LG (fun e=>by injection e with e1 e2;omega)).trans (F16)))
      ·exact core_move _ _ _ _ _ _ (by rfl) (by rfl) (ko 7)
      ·exact core_held2C _ _ _ _ _ _ _ _ _ _ (by rfl) (by rfl) (kc 5 42) (known_const _) (fun ρ w kx ky hs=>sub64 (l.length) (7) ((l.length-7)) (by omega) (by omega) kx ky)
      ·exact core_held2C _ _ _ _ _ _ _ _ _ _ (by rfl) (by rfl) (ko 3) (kc 6 43) (fun ρ w kx ky hs=>at64 g3 ((l.length-7)) (by omega) kx ky)
      ·exact core_heldC _ _ _ _ _ _ _ _ (by rfl) (by rfl) (kc 7 44) (fun ρ w kx hs=>load32 _ _ _ kx ((hs _ LG (fun e=>by injection e with e1 e2;omega)).trans (F7)))
      ·exact core_held2C _ _ _ _ _ _ _ _ _ _ (by rfl) (by rfl) (kc 4 41) (kc 8 45) (fun ρ w kx ky hs=>add32 _ _ kx ky)
      ·exact core_move _ _ _ _ _ _ (by rfl) (by rfl) (ko 8)
      ·exact core_move _ _ _ _ _ _ (by rfl) (by rfl) (ko 8)
      ·exact core_held2C _ _ _ _ _ _ _ _ _ _ (by rfl) (by rfl) (kc 11 50) (known_const _) (fun ρ w kx ky hs=>shr32 _ 3 (by decide) kx ky)
      ·exact core_move _ _ _ _ _ _ (by rfl) (by rfl) (ko 9)
      ·exact core_move _ _ _ _ _ _ (by rfl) (by rfl) (ko 9)
      ·exact core_held2C _ _ _ _ _ _ _ _ _ _ (by rfl) (by rfl) (kc 14 57) (known_const _) (fun ρ w kx ky hs=>shr32 _ 10 (by decide) kx ky)
      ·exact core_held2C _ _ _ _ _ _ _ _ _ _ (by rfl) (by rfl) (kc 17 49) (kc 12 51) (fun ρ w kx ky hs=>xor32 _ _ (turn_lt (hx) _) (Nat.lt_of_le_of_lt (Nat.div_le_self _ _) (hx)) kx ky)
      ·exact core_held2C _ _ _ _ _ _ _ _ _ _ (by rfl) (by rfl) (kc 9 46) (kc 18 52) (fun ρ w kx ky hs=>add32 _ _ kx ky)
      ·exact core_held2C _ _ _ _ _ _ _ _ _ _ (by rfl) (by rfl) (kc 21 56) (kc 15 58) (fun ρ w kx ky hs=>xor32 _ _ (turn_lt (hy) _) (Nat.lt_of_le_of_lt (Nat.div_le_self _ _) (hy)) kx ky)
      ·exact core_held2C _ _ _ _ _ _ _ _ _ _ (by rfl) (by rfl) (kc 19 53) (kc 22 59) (fun ρ w kx ky hs=>add32 _ _ kx ky)
      ·exact core_held2C _ _ _ _ _ _ _ _ _ _ (by rfl) (by rfl) (ko 3) (kc 0 37) (fun ρ w kx ky hs=>at64 g3 (l.length) (by omega) kx ky)
     ·(repeat (refine all_cons ?_ ?_;rotate_left));exact all_nil
      all_goals try exact sA
      ·exact fun _=>core_build _ _ _ _ _ _ _ _ _ _ (by rfl) (by rfl) (Nat.le_refl _) (fun ρ w hc=>build2 7 18 hc)
      ·exact fun _=>core_callS _ 93 _ _ _ 48 _ _ _ _ _ _ _ 16 _ _ _ _ (by rfl) Tryd.func93 (by kernel_rfl) (by rfl) (by rfl) (kc 10 47) (of_decide_eq_true (by rfl)) (by rfl) (by rfl) (by rfl) (fun w g h=>turned_ok _ _ 2 2 [7,18] w (hx) (by decide) (At.rdI h [7,18]) (by decide))
      ·exact fun _=>core_build _ _ _ _ _ _ _ _ _ _ (by rfl) (by rfl) (Nat.le_refl _) (fun ρ w hc=>build2 17 19 hc)
      ·exact fun _=>core_callS _ 93 _ _ _ 55 _ _ _ _ _ _ _ 20 _ _ _ _ (by rfl) Tryd.func93 (by kernel_rfl) (by rfl) (by rfl) (kc 13 54) (of_decide_eq_true (by rfl)) (by rfl) (by rfl) (by rfl) (fun w g h=>turned_ok _ _ 2 2 [17,19] w (hy) (by decide) (At.rdI h [17,19]) (by decide))
     intro vs y2 hc
     obtain ⟨vv0,vv1,vv2,vv3,vv4,vv5,vv6,vv7,vv8,vv9,vv10,vv11,vv12,vv13,vv14,vv15,vv16,vv17,vv18,vv19,vv20,vv21,vv22,vv23,vv24,rfl⟩:=len25 vs hc.lv
     have qq0:=okv hc 0
     have qq1:=okv hc 1
     have qq2:=okv hc 2
     have qq3:=okv hc 3
     have qq4:=okv hc 4
     have qq5:=okv hc 5
     have qq6:=okv hc 6
     have qq7:=okv hc 7
     have qq8:=okv hc 8
     have qq9:=okv hc 9
     have qq10:=okv hc 10
     have qq11:=okv hc 11
     have qq12:=okv hc 12
     have qq13:=okv hc 13
     have qq14:=okv hc 14
     have qq15:=okv hc 15
     obtain ⟨xx,hx,gg16,hv,_,_⟩:=hc.ok 16 _ rfl rfl
     have qq16:vv16=.slice (some ⟨gg16,0,none⟩) 2 2:=(Option.some.inj (show some vv16=some xx from hx)).trans hv
     clear hx hv
     have qq17:=okv hc 17
     have qq18:=okv hc 18
     have qq19:=okv hc 19
     obtain ⟨xx,hx,gg20,hv,_,_⟩:=hc.ok 20 _ rfl rfl
     have qq20:vv20=.slice (some ⟨gg20,0,none⟩) 2 2:=(Option.some.inj (show some vv20=some xx from hx)).trans hv
     clear hx hv
     have qq21:=okv hc 21
     have qq22:=okv hc 22
     have qq23:=okv hc 23
     have qq24:=okv hc 24
     have BZ:=hc.bel
     clear hc
     subst qq0 qq1 qq2 qq3 qq4 qq5 qq6 qq7 qq8 qq9 qq10 qq11 qq12 qq13 qq14 qq15 qq16 qq17 qq18 qq19 qq20 qq21 qq22 qq23 qq24
     simp only [List.map_cons,List.map_nil,over,Act.put,List.setIfInBounds_toArray,List.set_cons_zero,List.set_cons_succ]
     refine store_cell (i:=25) _ _ _ _ _ _ g3 l.length (.int .u32 ((((((p+q)%4294967296)+((turn x [7,18]) ^^^ ((x)/2^3)))%4294967296)+((turn y [17,19]) ^^^ ((y)/2^10)))%4294967296:Nat)) (by kernel_rfl) (by rfl) (by rfl) (by rfl) (fun ρ kx ky=>store32 _ _ _ _ kx ky (cell_on BZ OLD) (FRZ _ BZ)) (Same.set (Same.of BZ) _) ?_
     refine wpAnyH_done (by kernel_rfl) ?_ _
     refine NoPanic.normal ?_
     have Q3:=Lib.hid (Q3.out.on BZ)
     have Q1:=Lib.hid (Q1.out.on BZ)
     have Q2:=Lib.hid (Q2.out.on BZ)
     have QB:=Lib.hid (bel_tr QB.out BZ)
     rw [← NXT.out]
     clear BZ F16 F7 F2 F15 OLD NXT
     obtain ⟨nv,NV0⟩:∃ nv,nextw l=nv:=⟨_,rfl⟩
     have NV:=Lib.hid NV0
     rw [NV0]
     clear NV0
     go_wp2
     go_roundw
     case rel=>
      refine ⟨l++[nv],by simp;omega,by simp;omega,?_,by simp,?_,Q1.out.far (p:=⟨g3,l.length,none⟩) (fun e=>D12 e.symm) _,Q2.out.far (p:=⟨g3,l.length,none⟩) (fun e=>D13 e.symm) _,QB.out.setCell E3 _⟩
      ·rw [List.length_append,List.length_singleton,show l.length+1-16=(l.length-16)+1 by omega,ext,← HLE.out,NV.out]
      ·have h:=Q3.out.set l.length (.int .u32 (nv:Nat))
       rw [fill_set l (64-l.length) _ (by omega) (by omega),show 64-l.length-1=64-(l++[nv]).length by simp;omega] at h
       exact h
     case measure=>simp [intOf];omega
    ·have e64:l.length=64:=by omega
     have hs64:Hid (l=sched B):=Lib.hid (by rw [hle,e64];rfl)
     rw [e64,Nat.sub_self,List.replicate_zero,List.append_nil] at P3
     rw [e64]
     have hls:(hs l).length=64:=by rw [hs_len,e64]
     have hL:Hid ((hs l).length=64):=Lib.hid hls
     obtain ⟨xs,hxs⟩:∃ xs,hs l=xs:=⟨_,rfl⟩
     have ho:=hs_one l
     rw [hxs] at P3 hL ho
     have ho:=Lib.hid ho
     have HXS:=Lib.hid hxs
     have zz:Hid ((hs (List.replicate 64 0)).length=64):=Lib.hid (by simp [hs_len])
     generalize hs (List.replicate 64 0)=zs at *
     have LG:=P3.lt
     clear hle hls hxs e64
     have Q3:=Lib.hid P3
     have Q2:=Lib.hid P2
     have QB:=Lib.hid PB
     clear P1 P2 P3 PB
     go_wp2_with (first | (refine law_load (ty:=126) g3 0 xs _ rfl Q3.out.all under_words rfl (by rw [size_words,hL.out]) ?_) | (refine law_store (ty:=126) g2 0 _ _ xs rfl rfl Q2.out (by simp [hL.out,zz.out]) (by rw [size_words,hL.out]) ho.out ?_;intro w5 P5))
     have L5:=P5.at_
     rw [put_all _ _ (by rw [hL.out,zz.out])] at L5
     refine ret_cell (ty:=126) rfl g2 _ xs _ rfl L5 under_words rfl (by rw [size_words,hL.out]) rfl ⟨by rw [← HXS.out,hs64.out],QB.out.grown P5.grown (by have:=QB.out.size;omega) (by simp;omega)⟩
end Go.Proofs.YtlphnfajhpkleaaDoor.By
