/-
 Rows of a call's own,while the world grows;what lies under it.
-/
import Derived.Laws.AppendOwnNone
import Derived.Lib.ConvBytes
import Derived.Lib.AppendZerosOnto
import Derived.Test.YtlphnfajhpkleaaDoorMByPutL
import Derived.Test.YtlphnfajhpkleaaDoorMBySum2
import Derived.Test.YtlphnfajhpkleaaDoorMByWrite
namespace Go.Proofs.YtlphnfajhpkleaaDoor.By
set_option maxRecDepth 100000
open Go.RowKit
set_option linter.unusedSimpArgs false
set_option linter.unusedVariables false

def cat (RB:Nat→List Nat):Nat→List Nat
 | 0=>[]
 | k+1=>cat RB k++RB k
theorem Twin.grown {w w':World} {g k:Nat} {l:List Nat} (h:Twin w g l) (hg:w.grownBy w' (some k)) (hne:g≠k):Twin w' g l:=At.grown h hg (by simpa using hne)

end Go.Proofs.YtlphnfajhpkleaaDoor.By

/-
 nums.PutBytes,GetBytes,GetLong: what they answer.
-/
namespace Go.Proofs.YtlphnfajhpkleaaDoor.By
set_option maxRecDepth 100000
open Go.RowKit

theorem own_base {w:World} {base g:Nat} {e:TypeId} {n c:Nat} {xs:List Value} {v:Value} (h:w.ownsRow base e 1 v n xs) (hv:v=.slice (some ⟨g,0,none⟩) n c):base≤w.heap.size:=by
 have:=h.lt g (by rw [hv];rfl)
 omega

def putB (l:List Nat):List Nat:=be 4 l.length++l

theorem putBytes_any (A L:Option Addr) (n c m d:Nat) (b l:List Nat) (w:World) (hn:n≤4194000) (hc:n≤c) (hnil:A=none→n=0∧c=0) (hr:Rd w A n (bs b))
  (hm:m≤4194000) (hnil':L=none→m=0∧d=0) (hl:Rd w L m (bs l)) :
  Calls Tryd.prog 67 #[.slice A n c,.slice L m d] w fun e w'=>∃ v,e=.returned v∧w'.ownsRow (w.heap.size+1) 5 1 v (n+(4+m)) (bs (b++putB l))∧Below w.heap.size w w':=by
 obtain ⟨i0,hi,hz0,hz1,hz2⟩:=info_parts Tryd.info5
 have H:=Lib.hid (put_any A n c 4 m 4 b w (by omega) (by omega) hc hnil hr (by omega))
 have hlen:=Lib.hid hl.1
 go_enter Tryd.func67,Tryd.ntmps67
 go_wp2_with (first | (go_at_call 68;refine H.out.mono ?_;rintro e w1 ⟨rfl,hown,hb⟩) | (at_builtin;refine wpList_append_rd _ rfl (.tmp 9) (.tmp 10) 64 rfl (w.heap.size+1) 5 i0 (.int .u8 0) 1 Tryd.underlying64 hi hz0 hz1 hz2 rfl (.slice (some ⟨w.heap.size+1,0,none⟩) (n+4) (n+4)) (n+4) _ rfl hown L m d (bs l) rfl hnil' (hl.below hb) (bs_one l) (by unfold maxLen;omega) (by omega) (own_base hown rfl) ?_;intro v w2 hown2 hgrow2))
 go_ret
 refine ⟨v,rfl,?_,hb.grown hgrow2 hb.size (by simp [Value.ownBlock])⟩
 have e1:b++putB l=(b++be 4 m)++l:=by
  have:=hlen.out
  rw [bs_len] at this
  simp [putB,this]
 rw [e1,bs_append (b++be 4 m),← Nat.add_assoc]
 exact hown2

theorem bs_drop (l:List Nat) (k:Nat):(bs l).drop k=bs (l.drop k):=by simp [bs]

set_option maxHeartbeats 1000000 in
theorem getLong_ok (A:Option Addr) (n c:Nat) (l:List Nat) (w:World) (h:32≤n) (hc:n≤c) (hm:c≤9223372036854775807) (hr:Rd w A n (bs l)) (hb:∀ y∈l,y<256) :
  Calls Tryd.prog 55 #[.slice A n c] w fun e w'=>e=.returned (.tuple #[.agg #[.int .u64 (val ((l.drop 24).take 8):Nat),.int .u64 (val ((l.drop 16).take 8):Nat),.int .u64 (val ((l.drop 8).take 8):Nat),.int .u64 (val (l.take 8):Nat)],.int .i64 0])∧Below w.heap.size w w':=by
 obtain ⟨b,off,rfl,hbs,hcell⟩:=hr.spot (show 0<n by omega)
 have hdr:∀ k,∀ y∈l.drop k,y<256:=fun k y hy=>hb y (List.mem_of_mem_drop hy)
 have g0:∀ W,Below w.heap.size w W→Calls Tryd.prog 71 #[.slice (some ⟨b,off,none⟩) n c,.int .i64 8] W fun e w'=>e=.returned (.tuple #[.int .u64 (val (l.take 8):Nat),.int .i64 0])∧W=w':=
  fun W hW=>get_ok _ n c 8 l W (by omega) (by omega) hc hm (hr.below hW) hb
 have g1:∀ W,Below w.heap.size w W→Calls Tryd.prog 71 #[.slice (some ⟨b,off+8,none⟩) (n-8) (c-8),.int .i64 8] W fun e w'=>e=.returned (.tuple #[.int .u64 (val ((l.drop 8).take 8):Nat),.int .i64 0])∧W=w':=
  fun W hW=>get_ok _ _ _ 8 (l.drop 8) W (by omega) (by omega) (by omega) (by omega) (by rw [← bs_drop];exact ((hr.below hW).later (by omega))) (hdr 8)
 have g2:∀ W,Below w.heap.size w W→Calls Tryd.prog 71 #[.slice (some ⟨b,off+16,none⟩) (n-16) (c-16),.int .i64 8] W fun e w'=>e=.returned (.tuple #[.int .u64 (val ((l.drop 16).take 8):Nat),.int .i64 0])∧W=w':=
  fun W hW=>get_ok _ _ _ 8 (l.drop 16) W (by omega) (by omega) (by omega) (by omega) (by rw [← bs_drop];exact ((hr.below hW).later (by omega))) (hdr 16)
 have g3:∀ W,Below w.heap.size w W→Calls Tryd.prog 71 #[.slice (some ⟨b,off+24,none⟩) (n-24) (c-24),.int .i64 8] W fun e w'=>e=.returned (.tuple #[.int .u64 (val ((l.drop 24).take 8):Nat),.int .i64 0])∧W=w':=
  fun W hW=>get_ok _ _ _ 8 (l.drop 24) W (by omega) (by omega) (by omega) (by omega) (by rw [← bs_drop];exact ((hr.below hW).later (by omega))) (hdr 24)
 have G0:=Lib.hid g0
 have G1:=Lib.hid g1
 have G2:=Lib.hid g2
 have G3:=Lib.hid g3
 have hn8:¬ c=8:=by omega
 have hn16:¬ c=16:=by omega
 have hn24:¬ c=24:=by omega
 have hn0:¬ c=0:=by omega
 have hb2:∀ (o o':Obj),Below w.heap.size w ((w.alloc o).alloc o'):=fun o o'=>((Below.refl _ _).alloc (Nat.le_refl _) o).alloc (by simp) o'
 have HB:=Lib.hid hb2
 clear g0 g1 g2 g3 hdr hr hcell hb hb2
 go_enter Tryd.func55,Tryd.ntmps55
 go_wp2
 refine wp_loop_rounds 5 ?_
 rw [rounds_succ]
 go_wp2_with (go_at_call 71;refine (G0.out _ (HB.out _ _)).mono ?_;rintro e w1 ⟨rfl,rfl⟩)
 rw [rounds_succ]
 go_wp2_with (go_at_call 71;refine (G1.out _ (HB.out _ _)).mono ?_;rintro e w1 ⟨rfl,rfl⟩)
 rw [rounds_succ]
 go_wp2_with (go_at_call 71;refine (G2.out _ (HB.out _ _)).mono ?_;rintro e w1 ⟨rfl,rfl⟩)
 rw [rounds_succ]
 go_wp2_with (go_at_call 71;refine (G3.out _ (HB.out _ _)).mono ?_;rintro e w1 ⟨rfl,rfl⟩)
 rw [rounds_succ]
 go_wp2
 exact bodyPost_ret (v:=.tuple #[.agg #[.int .u64 (val ((l.drop 24).take 8):Nat),.int .u64 (val ((l.drop 16).take 8):Nat),.int .u64 (val ((l.drop 8).take 8):Nat),.int .u64 (val (l.take 8):Nat)],.int .i64 0]) (by simp [results,Tryd.results55,go_sem]) rfl ⟨rfl,HB.out _ _⟩
end Go.Proofs.YtlphnfajhpkleaaDoor.By

/-
 What is hashed,as a list of numbers: its length,and that it tells by what,how many parts,and each of them. And what a string's bytes are,in memory too.
-/
namespace Go.Proofs.YtlphnfajhpkleaaDoor.By
set_option maxRecDepth 100000
open Go.RowKit
set_option linter.unusedSimpArgs false
set_option linter.unusedVariables false

/-- a string's bytes -/
def sb (s:ByteArray):List Nat:=s.data.toList.map UInt8.toNat
theorem sb_len (s:ByteArray):(sb s).length=s.size:=by simp [sb]
theorem sb_lt (s:ByteArray):∀ y∈sb s,y<256:=by
 intro y hy
 obtain ⟨b,_,rfl⟩:=List.mem_map.1 hy
 exact b.toNat_lt
/-- what is hashed -/
def hbs (a:List Nat) (n:Nat) (RB:Nat→List Nat):List Nat:=putB a++(be 4 n++cat (fun j=>putB (RB j)) n)

theorem putB_len (l:List Nat):(putB l).length=4+l.length:=by simp [putB,be_len]
theorem cat_len (RB:Nat→List Nat) (M:Nat):∀ n,(∀ j,j<n→(RB j).length≤M)→(cat RB n).length≤n*M
 | 0,_=>by simp [cat]
 | n+1,h=>by
  have h1:=cat_len RB M n (fun j hj=>h j (by omega))
  have h2:=h n (by omega)
  simp only [cat,List.length_append]
  rw [Nat.add_mul];omega
theorem putB_lt (l:List Nat) (h:∀ y∈l,y<256):∀ y∈putB l,y<256:=by
 intro y hy
 rcases List.mem_append.1 hy with hy | hy
 ·exact be_lt 4 _ y hy
 ·exact h y hy
/-- a row of a call's own,as what is handed on -/
theorem src_of {w:World} {base n g:Nat} {v:Value} {xs:List Value} (h:w.ownsRow base 5 1 v n xs) (hg:g<base) :
  ∃ A' c',v=.slice A' n c'∧n≤c'∧c'≤9223372036854775807∧Rd w A' n xs∧(A'=none→n=0∧c'=0)∧(∀ b o,A'=some ⟨b,o,none⟩→0<n→b≠g):=by
 rcases own_cases h with ⟨rfl,rfl,rfl⟩ | ⟨k,c,rfl⟩
 ·exact ⟨none,0,rfl,Nat.le_refl _,by omega,Rd.nil _ _,fun _=>⟨rfl,rfl⟩,fun b o e=>by cases e⟩
 ·obtain ⟨cur,hgk,hbg,hn,hc,hs,ht⟩:=own_at h
  refine ⟨_,c,rfl,hn,by unfold maxLen at hc;omega,Rd.own h,(fun e=>by cases e),fun b o e _=>?_⟩
  injection e with e
  injection e with e1 _
  omega

/-- '[]byte(s)' of a string -/
structure Conv (w w':World) (s:ByteArray) (c:Nat):Prop where
 rd:Rd w' (some ⟨w.heap.size,0,none⟩) s.size (bs (sb s))
 bel:Below w.heap.size w w'
 size:w'.heap.size=w.heap.size+1
theorem conv_new (w:World) (s:ByteArray):Conv w (Lib.bytesWorld w 5 s) s (grownCap w s.size 0 5):=by
 have hbel:Below w.heap.size w (Lib.bytesWorld w 5 s):=by
  have h:Below w.heap.size w (w.drew.alloc (.cells (Lib.bytesCells w 5 s) 5)):=((Below.refl _ _).drew).alloc (by simp) _
  refine ⟨h.os,h.tape,h.output,by rw [Lib.bytesWorld_size];omega,fun k hk=>Lib.bytesWorld_at_old w 5 s k hk⟩
 refine ⟨⟨by rw [bs_len,sb_len],fun _=>⟨_,0,rfl,by rw [Lib.bytesWorld_size];omega,fun j u hu=>?_⟩⟩,hbel,Lib.bytesWorld_size w 5 s⟩
 have hj:j<s.size:=by
  have:=(List.getElem?_eq_some_iff.1 hu).1
  rwa [bs_len,sb_len] at this
 rw [Nat.zero_add,Lib.bytesWorld_cell w 5 s j hj]
 rw [bs_at _ _ (by rw [sb_len];exact hj)] at hu
 rw [← hu]
 have hj2:j<s.data.size:=hj
 have e:s.data[j]? = some s.data[j]:=Array.getElem?_eq_getElem hj2
 simp [sb,List.getD,e]
section
variable {P:Program} {ops:Array Oper} {Q:Exit→Act→World→Prop} {rest:List Oper} {a:Act} {w:World} {d:Tmp} {ty:TypeId} {pos:String} {after:Array Edge} {x:Operand}
theorem convS_run {ρ:Operand→Value} {dst:Option Tmp} {gd:Option (Nat × Bool)} (s:ByteArray) (hx:ρ x=.string s) :
  (execOp ρ ⟨dst,.convert 9 64 x,ty,pos,after,gd⟩).run Tryd.prog w=.ok (.value (.slice (some ⟨w.heap.size,0,none⟩) s.size (grownCap w s.size 0 5))) (Lib.bytesWorld w 5 s):=by
 have h:=Lib.run_convert_string_bytes (P:=Tryd.prog) w 9 64 5 s Tryd.underlying9 Tryd.underlying64 Tryd.underlying5
 simp only [execOp,hx]
 simp [go_sem,h]
theorem law_convS (s:ByteArray) (hx:a.eval x=.string s)
  (h:∀ w' c,Conv w w' s c→wpList Tryd.prog ops Q rest (a.put (some d) (.slice (some ⟨w.heap.size,0,none⟩) s.size c)) w') :
  wpList Tryd.prog ops Q (⟨some d,.convert 9 64 x,ty,pos,after,none⟩::rest) a w:=
 law_value rfl (convS_run s hx) (h _ _ (conv_new w s))
end
end Go.Proofs.YtlphnfajhpkleaaDoor.By

/-
 Lists of bytes that came in,how much they hold (RecordsSize),and whether that is beyond what is tried (Beyond).
-/
namespace Go.Proofs.YtlphnfajhpkleaaDoor.By
set_option maxRecDepth 100000
open Go.RowKit
set_option linter.unusedSimpArgs false
set_option linter.unusedVariables false

/-- a slice of slices of bytes that came in -/
structure Rows2 (w:World) (A:Option Addr) (n c:Nat) (RA:Nat→Option Addr) (RL RC:Nat→Nat) (RB:Nat→List Nat):Prop where
 nc:n≤c
 cm:c≤9223372036854775807
 cell:∀ j,j<n→∃ b o,A=some ⟨b,o,none⟩∧b<w.heap.size∧w.cell? ⟨b,o+j,none⟩=some (.slice (RA j) (RL j) (RC j))
 rd:∀ j,j<n→Rd w (RA j) (RL j) (bs (RB j))
 rnc:∀ j,j<n→RL j≤RC j∧RC j≤9223372036854775807∧RL j≤140737488351232
 rnil:∀ j,j<n→RA j=none→RL j=0∧RC j=0
 byte:∀ j,j<n→∀ y∈RB j,y<256
theorem Rows2.below {w w':World} {A:Option Addr} {n c:Nat} {RA:Nat→Option Addr} {RL RC:Nat→Nat} {RB:Nat→List Nat} (h:Rows2 w A n c RA RL RC RB) (hb:Below w.heap.size w w'):Rows2 w' A n c RA RL RC RB:=
 ⟨h.nc,h.cm,fun j hj=>by obtain ⟨b,o,e,hl,hc⟩:=h.cell j hj;exact ⟨b,o,e,Nat.lt_of_lt_of_le hl hb.size,cell_on hb hc⟩,fun j hj=>(h.rd j hj).below hb,h.rnc,h.rnil,h.byte⟩
def tot (RL:Nat→Nat):Nat→Nat
 | 0=>0
 | k+1=>tot RL k+RL k
end Go.Proofs.YtlphnfajhpkleaaDoor.By

/-
 slices.Concat of two lists of parts: the first one's,and one more behind them;slices.Grow of none.
-/
namespace Go.Proofs.YtlphnfajhpkleaaDoor.By
set_option maxRecDepth 100000
open Go.RowKit
set_option linter.unusedSimpArgs false
set_option linter.unusedVariables false
set_option maxRecDepth 100000

/-- the cells of a list of parts -/
def heads (RA:Nat→Option Addr) (RL RC:Nat→Nat) (n:Nat):List Value:=(List.range n).map fun j=>.slice (RA j) (RL j) (RC j)
theorem heads_len (RA:Nat→Option Addr) (RL RC:Nat→Nat) (n:Nat):(heads RA RL RC n).length=n:=by simp [heads]
theorem heads_at (RA:Nat→Option Addr) (RL RC:Nat→Nat) (n j:Nat) (h:j<n):(heads RA RL RC n)[j]? = some (.slice (RA j) (RL j) (RC j)):=by simp [heads,h]
theorem heads_one (RA:Nat→Option Addr) (RL RC:Nat→Nat) (n:Nat):∀ u∈heads RA RL RC n,u.oneCell'=true:=by
 intro u hu;obtain ⟨x,_,rfl⟩:=List.mem_map.1 hu;rfl
theorem Rows2.heads {w:World} {A:Option Addr} {n c:Nat} {RA:Nat→Option Addr} {RL RC:Nat→Nat} {RB:Nat→List Nat} (h:Rows2 w A n c RA RL RC RB):Rd w A n (heads RA RL RC n):=by
 refine ⟨heads_len _ _ _ _,fun hp=>?_⟩
 obtain ⟨b,o,e,hb,_⟩:=h.cell 0 hp
 refine ⟨b,o,e,hb,fun j u hu=>?_⟩
 have hj:j<n:=by have:=(List.getElem?_eq_some_iff.1 hu).1;rwa [heads_len] at this
 obtain ⟨b',o',e',_,hc⟩:=h.cell j hj
 rw [e] at e'
 injection e' with e'
 injection e' with e1 e2
 rw [heads_at _ _ _ _ _ hj] at hu
 rw [e1,e2,hc,hu]
/-- one more -/
def onem {α:Type} (f:Nat→α) (n:Nat) (x:α):Nat→α:=fun j=>if j=n then x else f j
theorem onem_at {α:Type} (f:Nat→α) (n:Nat) (x:α):onem f n x n=x:=if_pos rfl
theorem onem_lt {α:Type} (f:Nat→α) (n:Nat) (x:α) {j:Nat} (h:j<n):onem f n x j=f j:=if_neg (by omega)
theorem rows_ext {w:World} {A A':Option Addr} {n c c' g x:Nat} {RA:Nat→Option Addr} {RL RC:Nat→Nat} {RB:Nat→List Nat} (hr:Rd w A' (n+1) (heads RA RL RC n++[.slice (some ⟨g,0,none⟩) 1 1])) (hnc:n+1≤c') (hcm:c'≤9223372036854775807)
  (R:Rows2 w A n c RA RL RC RB) (he:Rd w (some ⟨g,0,none⟩) 1 (bs [x])) (hx:x<256):Rows2 w A' (n+1) c' (onem RA n (some ⟨g,0,none⟩)) (onem RL n 1) (onem RC n 1) (onem RB n [x]):=by
 have hsp:∀ j,j<n+1→j=n∨j<n:=fun j hj=>by omega
 refine ⟨hnc,hcm,fun j hj=>?_,fun j hj=>?_,fun j hj=>?_,fun j hj=>?_,fun j hj=>?_⟩
 ·obtain ⟨b,o,e,hb,hc⟩:=hr.2 (by omega)
  refine ⟨b,o,e,hb,hc j _ ?_⟩
  rcases hsp j hj with rfl | h
  ·rw [List.getElem?_append_right (by rw [heads_len];exact Nat.le_refl _),heads_len,Nat.sub_self,onem_at,onem_at,onem_at];rfl
  ·rw [List.getElem?_append_left (by rw [heads_len];exact h),heads_at _ _ _ _ _ h,onem_lt _ _ _ h,onem_lt _ _ _ h,onem_lt _ _ _ h]
 ·rcases hsp j hj with rfl | h
  ·rw [onem_at,onem_at,onem_at];exact he
  ·rw [onem_lt _ _ _ h,onem_lt _ _ _ h,onem_lt _ _ _ h];exact R.rd j h
 ·rcases hsp j hj with rfl | h
  ·rw [onem_at,onem_at];omega
  ·rw [onem_lt _ _ _ h,onem_lt _ _ _ h];exact R.rnc j h
 ·rcases hsp j hj with rfl | h
  ·rw [onem_at];intro e;cases e
  ·rw [onem_lt _ _ _ h,onem_lt _ _ _ h,onem_lt _ _ _ h];exact R.rnil j h
 ·rcases hsp j hj with rfl | h
  ·rw [onem_at];intro y hy;simp at hy;omega
  ·rw [onem_lt _ _ _ h];exact R.byte j h

theorem infoS:(Tryd.prog.info? 64).map (fun i=>(i.zero,i.size,i.bytes))=some (some (.slice none 0 0),1,24):=by kernel_rfl
theorem run_noCells (w:World) (size:Nat):(Builtin.firstCells size 0 (.slice none 0 0)).run Tryd.prog w=.ok #[] w:=by
 simp [Builtin.firstCells]
set_option maxHeartbeats 1000000 in
theorem grow_ok (k:Nat) (h0:0<k) (hk:k≤100000) (w:World) :
  Calls Tryd.prog 70 #[.slice none 0 0,.int .i64 k] w fun e w'=>∃ v,e=.returned v∧w'.ownsRow w.heap.size 64 1 v 0 []∧Below w.heap.size w w':=by
 obtain ⟨i0,hi,hz0,hz1,hz2⟩:=info_parts infoS
 have hrz:∀ ty,(Builtin.append_ #[80,3] ty #[.slice none 0 0,.int .i64 (k:Int)]).run Tryd.prog w=_:=fun ty=>
  Lib.run_append_grow_zeros (P:=Tryd.prog) w 80 3 ty 64 i0 (.slice none 0 0) .i64 .i64 Tryd.underlying80 Tryd.underlying3 hi hz0 none 0 0 [] (by rw [hz1];exact run_noCells _ _) k h0 (by omega) (by omega) (by omega) (by rw [hz2];omega) (by
   rw [hz2,Nat.zero_add]
   unfold Builtin.nextslicecap
   rw [if_pos (by omega)]
   omega)
 rw [Nat.zero_add] at hrz
 obtain ⟨G,hG⟩:∃ G,grownCap w k 0 64=G:=⟨_,rfl⟩
 have hGn:=grownCap_ge w k 0 64
 have hGm:=grownCap_le_maxLen w k 0 64 (by unfold maxLen;omega)
 rw [hG] at hrz hGn hGm
 obtain ⟨cs,hcs⟩:∃ cs,([]:List Value).toArray++Builtin.zeroCells (Value.slice none 0 0).cells k++Builtin.zeroCells (Value.slice none 0 0).cells (G-k)=cs:=⟨_,rfl⟩
 have hsz:cs.size=G:=by rw [← hcs];simp [Builtin.zeroCells,Value.cells];omega
 rw [hcs] at hrz
 obtain ⟨W,hW⟩:∃ W,w.drew.alloc (.cells cs 64)=W:=⟨_,rfl⟩
 have hown:Hid (W.ownsRow w.heap.size 64 1 (.slice (some ⟨w.heap.size,0,none⟩) 0 G) 0 []):=Lib.hid (by
  have:=at_own (base:=w.heap.size) (n:=0) (c:=G) (At.new w.drew 64 cs) (by simp) (Nat.zero_le _) hGm hsz
  rw [hW] at this
  simpa using this)
 have hbel:Hid (Below w.heap.size w W):=Lib.hid (by rw [← hW];exact ((Below.refl _ _).drew).alloc (by simp) _)
 rw [hW] at hrz
 have HZ:=Lib.hid hrz
 have hG63:G≤9223372036854775807:=by unfold maxLen at hGm;omega
 have hk0:(0:Int)<(k:Int):=by omega
 clear hrz hG hGm hcs hsz hW hi hz0 hz1 hz2 hGn
 go_enter Tryd.func70,Tryd.ntmps70
 go_wp2_with (at_builtin;refine Lib.wpList_append_run _ rfl _ _ _ _ rfl _ _ rfl rfl _ _ (HZ.out _) ?_)
 go_ret
 exact ⟨_,rfl,hown.out,hbel.out⟩

def cnt (n k:Nat):Nat:=if k=0 then 0 else if k=1 then n else n+1
def els (hds:List Value) (u:Value) (k:Nat):List Value:=if k=0 then [] else if k=1 then hds else hds++[u]
set_option maxHeartbeats 1000000 in
theorem concat_ok (gx:Nat) (A B:Option Addr) (n c:Nat) (hds:List Value) (u:Value) (w:World) (hx:Rd w (some ⟨gx,0,none⟩) 2 [.slice A n c,.slice B 1 1]) (hnil:A=none→n=0∧c=0) (hA:Rd w A n hds)
  (hB:Rd w B 1 [u]) (h1:∀ v∈hds,v.oneCell'=true) (hu:u.oneCell'=true) (hn:n≤10000) :
  Calls Tryd.prog 54 #[.slice (some ⟨gx,0,none⟩) 2 2] w fun e w'=>∃ v,e=.returned v∧w'.ownsRow w.heap.size 64 1 v (n+1) (hds++[u])∧Below w.heap.size w w':=by
 obtain ⟨i0,hi,hz0,hz1,hz2⟩:=info_parts infoS
 have HX:=Lib.hid hx
 have HN:=Lib.hid hnil
 have HA:=Lib.hid hA
 have HB:=Lib.hid hB
 have H1:=Lib.hid h1
 have HU:=Lib.hid hu
 clear hx hnil hA hB h1 hu
 go_enter Tryd.func54,Tryd.ntmps54
 go_wp2_with fail
 go_loopw [3,11] (fun sv iv wr=>∃ k:Nat,k≤2∧iv=.int .i64 k∧sv=.int .i64 (cnt n k:Nat)∧w=wr) (fun _ iv _=>2-(intOf iv).toNat)
 case atStart=>exact ⟨0,by omega,rfl,rfl,rfl⟩
 case round=>
  obtain ⟨k,hk,rfl,rfl,rfl⟩:=hrel
  rcases (by omega:k=0∨k=1∨k=2) with rfl | rfl | rfl
  ·obtain ⟨b,o,e,hb,hc⟩:=HX.out.2 (by omega)
   injection e with e
   injection e with e1 e2
   subst e1
   subst e2
   have hc0:=hc 0 _ rfl
   clear hc
   rw [show cnt n 0=0 from rfl]
   go_wp2
   go_roundw
   case rel=>exact ⟨1,by omega,by go_num,by rw [show cnt n 1=n from rfl],by first | rfl | trivial⟩
   case measure=>simp [intOf]
  ·obtain ⟨b,o,e,hb,hc⟩:=HX.out.2 (by omega)
   injection e with e
   injection e with e1 e2
   subst e1
   subst e2
   have hc0:=hc 1 _ rfl
   clear hc
   rw [show cnt n 1=n from rfl]
   go_wp2
   go_roundw
   case rel=>exact ⟨2,by omega,by go_num,by rw [show cnt n 2=n+1 from rfl];go_num,by first | rfl | trivial⟩
   case measure=>simp [intOf]
  ·rw [show cnt n 2=n+1 from rfl]
   have HG:=Lib.hid (grow_ok (n+1) (by omega) (by omega) w)
   go_wp2_with fail
   refine HG.out.mono ?_
   rintro e w1 ⟨v1,rfl,o1,b1⟩
   have O1:=Lib.hid o1
   have B1:=Lib.hid b1
   clear o1 b1 HG
   go_wp2_with fail
   go_loopw [6,27] (fun bv iv w2=>∃ k:Nat,k≤2∧iv=.int .i64 k∧Hid (w2.ownsRow w.heap.size 64 1 bv (cnt n k) (els hds u k))∧Hid (Below w.heap.size w w2)) (fun _ iv _=>2-(intOf iv).toNat)
   case atStart=>exact ⟨0,by omega,rfl,O1,B1⟩
   case round=>
    obtain ⟨k,hk,rfl,O2,B2⟩:=hrel
    clear O1 B1
    have X2:=Lib.hid (HX.out.below B2.out)
    have A2:=Lib.hid (HA.out.below B2.out)
    have U2:=Lib.hid (HB.out.below B2.out)
    rcases (by omega:k=0∨k=1∨k=2) with rfl | rfl | rfl
    ·obtain ⟨b,o,e,hb,hc⟩:=X2.out.2 (by omega)
     injection e with e
     injection e with e1 e2
     subst e1
     subst e2
     have hc0:=hc 0 _ rfl
     clear hc
     have O2':Hid (World.ownsRow _ w.heap.size 64 1 _ 0 []):=O2
     clear O2
     go_wp2_with (at_builtin;refine wpList_append_rd _ rfl (.tmp 31) (.tmp 32) 80 rfl w.heap.size 64 i0 (.slice none 0 0) 24 Tryd.underlying80 hi hz0 hz1 hz2 rfl _ 0 [] rfl O2'.out A n c hds rfl HN.out A2.out H1.out (by unfold maxLen;omega) (by omega) (by have:=B2.out.size;omega) ?_;intro v4 w4 hown4 hgrow4;have O4:=Lib.hid hown4;have G4:=Lib.hid hgrow4;clear hown4 hgrow4)
     have O5:Hid (w4.ownsRow w.heap.size 64 1 v4 (cnt n 1) (els hds u 1)):=Lib.hid (by
      have:=O4.out
      simpa [cnt,els] using this)
     have B5:Hid (Below w.heap.size w w4):=Lib.hid (B2.out.grown G4.out B2.out.size (fun k e=>by
      rcases own_cases O2'.out with ⟨rfl,_⟩ | ⟨g,cc,rfl⟩
      ·cases e
      ·obtain ⟨_,_,hbg,_⟩:=own_at O2'.out
       injection e with e
       subst e
       exact hbg))
     clear O4 G4 O2' B2 X2 A2 U2
     go_wp2
     go_roundw
     case rel=>exact ⟨1,by omega,by go_num,O5,B5⟩
     case measure=>simp [intOf]
    ·obtain ⟨b,o,e,hb,hc⟩:=X2.out.2 (by omega)
     injection e with e
     injection e with e1 e2
     subst e1
     subst e2
     have hc0:=hc 1 _ rfl
     clear hc
     have O2':Hid (World.ownsRow _ w.heap.size 64 1 _ n hds):=O2
     clear O2
     have HBn:B=none→1=0∧1=0:=fun e=>by obtain ⟨b,o,e',_⟩:=U2.out.2 (by omega);rw [e] at e';cases e'
     have HBN:=Lib.hid HBn
     clear HBn
     go_wp2_with (at_builtin;refine wpList_append_rd _ rfl (.tmp 31) (.tmp 32) 80 rfl w.heap.size 64 i0 (.slice none 0 0) 24 Tryd.underlying80 hi hz0 hz1 hz2 rfl _ n hds rfl O2'.out B 1 1 [u] rfl HBN.out U2.out (by intro v hv;simp at hv;rw [hv];exact HU.out) (by unfold maxLen;omega) (by omega) (by have:=B2.out.size;omega) ?_;intro v4 w4 hown4 hgrow4;have O4:=Lib.hid hown4;have G4:=Lib.hid hgrow4;clear hown4 hgrow4)
     have O5:Hid (w4.ownsRow w.heap.size 64 1 v4 (cnt n 2) (els hds u 2)):=Lib.hid (by
      have:=O4.out
      simpa [cnt,els] using this)
     have B5:Hid (Below w.heap.size w w4):=Lib.hid (B2.out.grown G4.out B2.out.size (fun k e=>by
      rcases own_cases O2'.out with ⟨rfl,_⟩ | ⟨g,cc,rfl⟩
      ·cases e
      ·obtain ⟨_,_,hbg,_⟩:=own_at O2'.out
       injection e with e
       subst e
       exact hbg))
     clear O4 G4 O2' B2 X2 A2 U2 HBN
     go_wp2
     go_roundw
     case rel=>exact ⟨2,by omega,by go_num,O5,B5⟩
     case measure=>simp [intOf]
    ·have O2':Hid (World.ownsRow _ w.heap.size 64 1 _ (n+1) (hds++[u])):=O2
     clear O2 X2 A2 U2
     go_wp2
     go_ret
     exact ⟨_,rfl,O2'.out,B2.out⟩
end Go.Proofs.YtlphnfajhpkleaaDoor.By

/-
 shas.Hash,shas.Of: what has been written,ended and told.
-/
namespace Go.Proofs.YtlphnfajhpkleaaDoor.By
set_option maxRecDepth 100000
open Go.RowKit
set_option linter.unusedSimpArgs false
set_option linter.unusedVariables false

theorem zero_sum:(Tryd.prog.info? 114).map (·.zero)=some (some (.agg (sumC false 0 (List.replicate 8 0) (List.replicate 64 0)).toArray)):=by kernel_rfl
theorem under_sum:∃ td,Tryd.prog.underlying 114=some td∧td.isRow=true:=⟨_,Tryd.underlying114,rfl⟩
theorem sumC_one (m:Bool) (n:Nat) (S B:List Nat):∀ u∈sumC m n S B,u.oneCell'=true:=by
 intro u hu
 simp only [sumC,List.mem_cons,List.mem_append] at hu
 rcases hu with rfl | rfl | hu | hu
 ·rfl
 ·rfl
 ·exact hs_one _ u hu
 ·exact bs_one _ u hu

/-- Write,where an empty slice may lie anywhere -/
theorem write_any (g:Nat) (A:Option Addr) (n c:Nat) (l m:List Nat) (w:World) (hs:SumAt w g (l)) (hr:Rd w A n (bs m)) (hnc:n≤c) (hcm:c≤9223372036854775807) (far:∀ b o,A=some ⟨b,o,none⟩→0<n→b≠g) (hb:∀ y∈m,y<256) (T:Tabs w) (h0:g≠0) (h1:g≠1) (hl:l.length+n<1099511627776) :
  Calls Tryd.prog 66 #[.pointer (some ⟨g,0,none⟩),.slice A n c] w fun e w'=>e=.returned (.int .i64 0)∧SumAt w' g (l++m)∧w.grownBy w' (some g):=by
 by_cases hn:0<n
 ·exact write_ok g A n c l m w hs ⟨hr,hnc,hcm,fun b o e=>far b o e hn⟩ hb T h0 h1 hl
 ·obtain rfl:n=0:=by omega
  obtain rfl:m=[]:=List.eq_nil_of_length_eq_zero (by have:=hr.1;rwa [bs_len] at this)
  rw [List.append_nil]
  have hmade:w.cell? ⟨g,0,none⟩=some (.bool true):=by obtain ⟨B,_,_,hat,_⟩:=hs;rw [hat.cell];rfl
  have AB:=Lib.hid (absent_no g w hmade)
  have HS:=Lib.hid hs
  clear hmade hs hr
  go_enter Tryd.func66,Tryd.ntmps66
  go_wp2_with (go_at_call 82;refine AB.out.mono ?_;rintro e w' ⟨rfl,rfl⟩)
  refine wp_loop_rounds 1 ?_
  rw [rounds_succ]
  go_wp2
  go_ret
  exact ⟨rfl,HS.out,grown_rf _ _⟩
set_option maxRecDepth 100000 in
set_option maxHeartbeats 4000000 in
theorem hash_ok (g:Nat) (l:List Nat) (w:World) (hs0:SumAt w g l) (T:Tabs w) (hl:l.length<549755813888) :
  Calls Tryd.prog 69 #[.pointer (some ⟨g,0,none⟩)] w fun e w'=>e=.returned (.agg (bs (sha l)).toArray)∧Below w.heap.size w w':=by
 have HS:=Lib.hid hs0
 have HT:=Lib.hid T
 have hw1:=T.lt1
 obtain ⟨td,hu,hd⟩:=under_sum
 clear hs0 T
 go_enter Tryd.func69,Tryd.ntmps69
 go_wp2_with (refine law_alloc (d:=2) (ty:=28) _ zero_hash ?_;intro w1 N1)
 have S1:=Lib.hid (HS.out.on N1.bel)
 have T1:=Lib.hid (HT.out.on N1.bel)
 have A1:=Lib.hid N1.at_
 have B1:=Lib.hid N1.bel
 have Z1:=Lib.hid N1.size
 have hgl:=HS.out.lt
 clear N1
 obtain ⟨gr,hgr⟩:∃ x,w.heap.size=x:=⟨_,rfl⟩
 have GR:=Lib.hid hgr
 rw [hgr] at A1 ⊢
 rw [hgr] at hw1 hgl Z1
 clear hgr
 obtain ⟨B,hB,hBb,hat,hBt⟩:=S1.out
 have hmade:w1.cell? ⟨g,0,none⟩=some (.bool true):=by rw [hat.cell];rfl
 refine (absent_no g w1 hmade).mono ?_
 rintro e w' ⟨rfl,rfl⟩
 have hlen:=sumC_len true l.length (run init l (l.length/64)).list B rfl hB
 have c1:w1.cell? ⟨g,1,none⟩=some (.int .u64 (l.length:Nat)):=by rw [hat.cell];rfl
 obtain ⟨xs,hxs⟩:∃ xs,sumC true l.length (run init l (l.length/64)).list B=xs:=⟨_,rfl⟩
 have ho:Hid (∀ u∈xs,u.oneCell'=true):=Lib.hid (by rw [← hxs];exact sumC_one _ _ _ _)
 have HXS:=Lib.hid hxs
 rw [hxs] at hat hlen
 have HL:=Lib.hid hlen
 have HAT:=Lib.hid hat
 have HBB:=Lib.hid hBb
 have HBT:=Lib.hid hBt
 have HB:=Lib.hid hB
 clear hmade hat hlen hxs hBb hBt hB S1
 have zs:Hid ((sumC false 0 (List.replicate 8 0) (List.replicate 64 0)).length=74):=Lib.hid rfl
 obtain ⟨zz,hzz⟩:∃ zz,sumC false 0 (List.replicate 8 0) (List.replicate 64 0)=zz:=⟨_,rfl⟩
 have ZS:=zero_sum
 rw [hzz] at zs ZS
 have ZSH:=Lib.hid ZS
 clear hzz ZS
 go_wp2_with (first | (refine law_load (ty:=114) g 0 xs td rfl HAT.out.all hu hd (by rw [size_sum,HL.out]) ?_) | (refine law_alloc (d:=3) (ty:=114) _ ZSH.out ?_;intro w3 N3;have H3:=Lib.hid N3;clear N3;refine law_store (ty:=114) w1.heap.size 0 _ zz.toArray xs rfl rfl H3.out.at_ (by rw [List.size_toArray,HL.out,zs.out];omega) (by rw [size_sum,HL.out]) ho.out ?_;intro w4 P4;have H4:=Lib.hid P4;have c4:w4.cell? ⟨g,1,none⟩=some (.int .u64 (l.length:Nat)):=((((HAT.out.on H3.out.bel).grown P4.grown (by have:=Z1.out;simp;omega)).cell 1).trans ((HAT.out.cell 1).symm.trans c1));clear P4))
 have z3:=H3.out.size
 have z1:=Z1.out
 have L4:At w4 w1.heap.size 114 xs.toArray:=by have h:=H4.out.at_;rwa [put_all _ _ (by rw [HL.out,zs.out])] at h
 have S4:Hid (SumAt w4 w1.heap.size l):=Lib.hid ⟨B,HB.out,HBB.out,by rw [HXS.out];exact L4,HBT.out⟩
 have G4:=H4.out.grown
 have T4:Hid (Tabs w4):=Lib.hid ((T1.out.on H3.out.bel).grown G4 (by omega) (by omega))
 have R4:Hid (At w4 gr 28 (bs (List.replicate 32 0)).toArray):=Lib.hid ((A1.out.on H3.out.bel).grown G4 (by simp;omega))
 have B4:Hid (Below w.heap.size w w4):=Lib.hid ((bel_tr B1.out H3.out.bel).grown G4 (by have:=B1.out.size;have:=H3.out.bel.size;omega) (by have:=GR.out;simp;omega))
 have hs4:=S4.out.lt
 clear c1 c4 H3 H4 L4 G4 HAT HXS ho HBB HBT HB zs ZSH A1 B1 T1 hgl
 obtain ⟨ge,hge⟩:∃ x,w1.heap.size=x:=⟨_,rfl⟩
 rw [hge] at S4 z1 hs4 z3 ⊢
 have dge:gr<ge:=by omega
 clear hge z1 z3 Z1
 refine (ending_ok l.length (by omega) w4).mono ?_
 rintro e w5 ⟨gz,hgz,rfl,hz,hb5⟩
 have S5:=Lib.hid (S4.out.on hb5)
 have T5:=Lib.hid (T4.out.on hb5)
 have R5:=Lib.hid (R4.out.on hb5)
 have B5:=Lib.hid (bel_tr B4.out hb5)
 have W:=Lib.hid (write_ok ge (some ⟨gz,0,none⟩) (noughts l.length+9) (noughts l.length+9) l (tail l.length) w5 S5.out ⟨hz,Nat.le_refl _,by have:noughts l.length<64:=Nat.mod_lt _ (by decide);omega,fun b o e=>by injection e with e;injection e with e1 _;omega⟩ (tail_lt _) T5.out (by omega) (by omega) (by have:noughts l.length<64:=Nat.mod_lt _ (by decide);omega))
 clear hz hb5 S4 T4 R4 B4 S5
 go_wp2_with fail
 refine W.out.mono ?_
 rintro e w6 ⟨rfl,s6,g6⟩
 have T6:=Lib.hid (T5.out.grown g6 (by omega) (by omega))
 have R6:=Lib.hid (R5.out.grown g6 (by simp;omega))
 have B6:Hid (Below w.heap.size w w6):=Lib.hid (B5.out.grown g6 (by have:=B5.out.size;omega) (by have:=GR.out;simp;omega))
 obtain ⟨Bz,hBz,hBzb,hatz,_⟩:=s6
 obtain ⟨so,hso⟩:∃ so,run init (l++tail l.length) ((l++tail l.length).length/64)=so:=⟨_,rfl⟩
 have hok:=run_ok init_ok (l++tail l.length) ((l++tail l.length).length/64)
 have hsha:sha l=so.list.flatMap (be 4):=by rw [← hso,sha,List.length_append,tail_len]
 rw [hso] at hatz hok
 have HSHA:=Lib.hid hsha
 have hrg:w6.rangeAt ge 2 (hs so.list):=hatz.range _ (fun j v hv=>by
  rw [List.getElem?_toArray,show 2+j=j+2 by omega]
  show (hs so.list++bs Bz)[j]? = some v
  rw [List.getElem?_append_left (List.getElem?_eq_some_iff.1 hv).1];exact hv)
 have h8:(hs so.list).length=8:=by rw [hs_len];rfl
 have TD:=Lib.hid (told_ok so hok w6)
 obtain ⟨x8,hx8⟩:∃ x8,hs so.list=x8:=⟨_,rfl⟩
 rw [hx8] at hrg h8 TD
 have h32:(bs (so.list.flatMap (be 4))).length=32:=by rw [bs_len,told_len];rfl
 have ho32:=bs_one (so.list.flatMap (be 4))
 obtain ⟨xh,hxh⟩:∃ xh,bs (so.list.flatMap (be 4))=xh:=⟨_,rfl⟩
 rw [hxh] at TD h32 ho32
 have HXH:=Lib.hid hxh
 have HRG:=Lib.hid hrg
 have H8:=Lib.hid h8
 have H32:=Lib.hid h32
 have HO32:=Lib.hid ho32
 clear hatz hBzb hBz hso hok hsha hrg h8 hx8 hxh h32 ho32 W T5 R5 B5 g6 T6
 go_wp2_with (refine law_load (ty:=111) ge 2 x8 _ rfl HRG.out under_eight rfl (by rw [size_eight,H8.out]) ?_)
 refine TD.out.mono ?_
 rintro e w7 ⟨rfl,b7⟩
 have R7:=Lib.hid (R6.out.on b7)
 have B7:=Lib.hid (bel_tr B6.out b7)
 have z32:Hid ((bs (List.replicate 32 0)).length=32):=Lib.hid (by simp [bs_len])
 obtain ⟨zr,hzr⟩:∃ zr,bs (List.replicate 32 0)=zr:=⟨_,rfl⟩
 rw [hzr] at R7 z32
 clear R6 B6 b7 TD hzr HRG
 go_wp2_with (refine law_store (ty:=28) gr 0 _ zr.toArray xh rfl rfl R7.out (by rw [List.size_toArray,H32.out,z32.out];omega) (by rw [size_hash,H32.out]) HO32.out ?_;intro w8 P8)
 have L8:=P8.at_
 rw [put_all _ _ (by rw [H32.out,z32.out])] at L8
 refine ret_cell (ty:=28) rfl gr _ xh _ rfl L8 under_hash rfl (by rw [size_hash,H32.out]) rfl ⟨by rw [HSHA.out,HXH.out],B7.out.grown P8.grown (by have:=B7.out.size;omega) (by have:=GR.out;simp;omega)⟩
end Go.Proofs.YtlphnfajhpkleaaDoor.By

/-
 shas.Of.
-/
namespace Go.Proofs.YtlphnfajhpkleaaDoor.By
set_option maxRecDepth 100000
open Go.RowKit
set_option linter.unusedSimpArgs false
set_option linter.unusedVariables false

end Go.Proofs.YtlphnfajhpkleaaDoor.By

/-
 hashes.Of: what it answers.
-/
namespace Go.Proofs.YtlphnfajhpkleaaDoor.By
set_option maxRecDepth 100000
open Go.RowKit
set_option linter.unusedSimpArgs false
set_option linter.unusedVariables false
set_option maxRecDepth 100000

theorem hbs_len (a:List Nat) (n M:Nat) (RB:Nat→List Nat) (h:∀ j,j<n→(RB j).length≤M):(hbs a n RB).length≤8+a.length+n*(4+M):=by
 have:=cat_len (fun j=>putB (RB j)) (4+M) n (fun j hj=>by rw [putB_len];have:=h j hj;omega)
 simp only [hbs,List.length_append,putB_len,be_len]
 omega

set_option maxHeartbeats 2000000 in
theorem hof_ok (s:ByteArray) (A:Option Addr) (n c:Nat) (RA:Nat→Option Addr) (RL RC:Nat→Nat) (RB:Nat→List Nat) (w:World) (hs:s.size≤1048576) (hn:n≤4096) (hL:∀ j,j<n→RL j≤1048576)
  (hR:Rows2 w A n c RA RL RC RB) (T:Tabs w) :
  Calls Tryd.prog 53 #[.string s,.slice A n c] w fun e w'=>e=.returned (.agg (bs (sha (hbs (sb s) n RB))).toArray)∧Below w.heap.size w w':=by
 have HR:=Lib.hid hR
 have HT:=Lib.hid T
 have HL:=Lib.hid hL
 have hw1:=T.lt1
 have HBL:Hid ((hbs (sb s) n RB).length<549755813888):=Lib.hid (by
  have h1:=hbs_len (sb s) n 1048576 RB (fun j hj=>by have:=hL j hj;have h2:=(hR.rd j hj).1;rw [bs_len] at h2;omega)
  rw [sb_len] at h1
  have:n*(4+1048576)≤4096*(4+1048576):=Nat.mul_le_mul_right _ hn
  omega)
 clear hR T hL
 go_enter Tryd.func53,Tryd.ntmps53
 go_wp2_with (refine law_alloc (d:=4) (ty:=28) _ zero_hash ?_;intro w1 N1)
 have T1:=Lib.hid (HT.out.on N1.bel)
 have A1:=Lib.hid N1.at_
 have B1:=Lib.hid N1.bel
 have Z1:=Lib.hid N1.size
 clear N1
 obtain ⟨gr,hgr⟩:∃ x,w.heap.size=x:=⟨_,rfl⟩
 have GR:=Lib.hid hgr
 rw [hgr] at A1 hw1 Z1 ⊢
 clear hgr
 refine (new_ok w1 T1.out).mono ?_
 rintro e w2 ⟨rfl,s2,b2⟩
 have T2:=Lib.hid (T1.out.on b2)
 have A2:=Lib.hid (A1.out.on b2)
 have B2:=Lib.hid (bel_tr B1.out b2)
 obtain ⟨g,hg⟩:∃ x,w1.heap.size=x:=⟨_,rfl⟩
 have hgg:g=gr+1:=by rw [← hg,Z1.out]
 rw [hg] at s2 ⊢
 have gne:gr<g:=by omega
 have S2:=Lib.hid s2
 have GS2:=Lib.hid s2.lt
 clear s2 b2 T1 A1 B1 hg hgg Z1
 go_wp2_with (refine law_convS (d:=11) s rfl ?_;intro w3 c3 N3;have H3:=Lib.hid N3;clear N3)
 refine (putBytes_any none _ 0 0 s.size c3 [] (sb s) w3 (by omega) (by omega) (fun _=>⟨rfl,rfl⟩) (Rd.nil _ _) (by omega) (fun h=>by cases h) H3.out.rd).mono ?_
 rintro e w4 ⟨v4,rfl,o4,b4⟩
 simp only [Nat.zero_add,List.nil_append] at o4
 have hg3:g<w3.heap.size+1:=by have:=H3.out.size;have:=GS2.out;omega
 obtain ⟨A4,c4,rfl,k41,k42,r4,nil4,far4⟩:=src_of o4 hg3
 have T4:=Lib.hid ((T2.out.on H3.out.bel).on b4)
 have A4':=Lib.hid ((A2.out.on H3.out.bel).on b4)
 have B4:=Lib.hid (bel_tr (bel_tr B2.out H3.out.bel) b4)
 have W4:=Lib.hid (write_any g A4 _ c4 [] (putB (sb s)) w4 ((S2.out.on H3.out.bel).on b4) r4 k41 k42 far4 (putB_lt _ (sb_lt s)) T4.out (by omega) (by omega) (by simp;omega))
 clear o4 b4 r4 nil4 far4 H3 T2 A2 B2 S2 GS2 hg3
 go_wp2_with fail
 refine W4.out.mono ?_
 rintro e w5 ⟨rfl,s5,g5⟩
 rw [List.nil_append] at s5
 have S5:=Lib.hid s5
 have T5:=Lib.hid (T4.out.grown g5 (by omega) (by omega))
 have A5:=Lib.hid (A4'.out.grown g5 (by simp;omega))
 have B5:Hid (Below w.heap.size w w5):=Lib.hid (B4.out.grown g5 B4.out.size (by have:=GR.out;simp;omega))
 have GS5:=Lib.hid s5.lt
 clear s5 g5 W4 T4 A4' B4 k41 k42
 have hwn:IntKind.u64.wrap (n:Int)=(n:Int):=by rw [IntKind.wrap_u64];omega
 have HPN:=Lib.hid (put_any none 0 0 4 n 4 [] w5 (by omega) (by omega) (by omega) (fun _=>⟨rfl,rfl⟩) (Rd.nil _ _) (by omega))
 go_wp2_with fail
 clear hwn
 refine HPN.out.mono ?_
 rintro e w6 ⟨rfl,o6,b6⟩
 simp only [Nat.zero_add,List.nil_append] at o6
 have T6:=Lib.hid (T5.out.on b6)
 have A6:=Lib.hid (A5.out.on b6)
 have B6:=Lib.hid (bel_tr B5.out b6)
 have hg5:g<w5.heap.size+1:=by have:=GS5.out;omega
 obtain ⟨A6s,c6,e6,k61,k62,r6,nil6,far6⟩:=src_of o6 hg5
 injection e6 with e61 e62 e63
 subst e61
 subst e63
 have W6:=Lib.hid (write_any g (some ⟨w5.heap.size+1,0,none⟩) 4 4 (putB (sb s)) (be 4 n) w6 (S5.out.on b6) r6 k61 k62 far6 (be_lt 4 n) T6.out (by omega) (by omega) (by rw [putB_len,sb_len];omega))
 clear o6 b6 r6 nil6 far6 S5 T5 A5 B5 HPN GS5 hg5 e62 k61 k62
 go_wp2_with fail
 refine W6.out.mono ?_
 rintro e w7 ⟨rfl,s7,g7⟩
 have S7:Hid (SumAt w7 g (putB (sb s)++(be 4 n++cat (fun j=>putB (RB j)) 0))):=Lib.hid (by simpa [cat] using s7)
 have T7:=Lib.hid (T6.out.grown g7 (by omega) (by omega))
 have A7:=Lib.hid (A6.out.grown g7 (by simp;omega))
 have B7:Hid (Below w.heap.size w w7):=Lib.hid (B6.out.grown g7 B6.out.size (by have:=GR.out;simp;omega))
 clear s7 g7 W6 T6 A6 B6
 go_wp2_with fail
 go_loopw [22] (fun i' wr=>∃ k:Nat,k≤n∧i'=.int .i64 k∧Hid (SumAt wr g (putB (sb s)++(be 4 n++cat (fun j=>putB (RB j)) k)))∧Hid (At wr gr 28 (bs (List.replicate 32 0)).toArray)∧Hid (Tabs wr)∧Hid (Below w.heap.size w wr)) (fun i' _=>n-(intOf i').toNat)
 case atStart=>exact ⟨0,by omega,rfl,S7,A7,T7,B7⟩
 case round=>
  obtain ⟨k,hk,rfl,S8,A8,T8,B8⟩:=hrel
  clear S7 A7 T7 B7
  have R8:=Lib.hid (HR.out.below B8.out)
  have GS8:=Lib.hid S8.out.lt
  by_cases hlt:k<n
  ·have hlt':(k:Int)<(n:Int):=by omega
   obtain ⟨b,o,rfl,hbl,hcell⟩:=R8.out.cell k hlt
   have hrl:=HL.out k hlt
   have hlen:(RB k).length=RL k:=by have:=(R8.out.rd k hlt).1;rwa [bs_len] at this
   have HRD:=Lib.hid (R8.out.rd k hlt)
   have HNIL:=Lib.hid (R8.out.rnil k hlt)
   have HBY:=Lib.hid (R8.out.byte k hlt)
   have HLE:=Lib.hid (show (putB (sb s)++(be 4 n++cat (fun j=>putB (RB j)) k)).length+(4+RL k)<1099511627776 by
    have h1:=cat_len (fun j=>putB (RB j)) (4+1048576) k (fun j hj=>by rw [putB_len];have:=HL.out j (by omega);have h2:=(R8.out.rd j (by omega)).1;rw [bs_len] at h2;omega)
    have:k*(4+1048576)≤4096*(4+1048576):=Nat.mul_le_mul_right _ (by omega)
    simp only [List.length_append,putB_len,be_len,sb_len]
    omega)
   have HST:Hid (putB (sb s)++(be 4 n++cat (fun j=>putB (RB j)) k)++putB (RB k)=putB (sb s)++(be 4 n++cat (fun j=>putB (RB j)) (k+1))):=Lib.hid (by simp [cat,List.append_assoc])
   generalize RA k=ra at *
   generalize RL k=rl at *
   generalize RC k=rc at *
   generalize RB k=rb at *
   clear hlen
   go_wp2_with fail
   refine (putBytes_any none ra 0 0 rl rc [] rb _ (by omega) (by omega) (fun _=>⟨rfl,rfl⟩) (Rd.nil _ _) (by omega) HNIL.out HRD.out).mono ?_
   rintro e w9 ⟨v9,rfl,o9,b9⟩
   simp only [Nat.zero_add,List.nil_append] at o9
   obtain ⟨A9s,c9,rfl,k91,k92,r9,nil9,far9⟩:=src_of o9 (show g<_ by have:=GS8.out;omega)
   have T9:=Lib.hid (T8.out.on b9)
   have A9:=Lib.hid (A8.out.on b9)
   have B9:=Lib.hid (bel_tr B8.out b9)
   have W9:=Lib.hid (write_any g A9s _ c9 _ (putB rb) w9 (S8.out.on b9) r9 k91 k92 far9 (putB_lt _ HBY.out) T9.out (by omega) (by omega) HLE.out)
   clear o9 b9 r9 nil9 far9 S8 T8 A8 B8 R8 GS8 HRD k91 k92
   go_wp2_with fail
   refine W9.out.mono ?_
   rintro e w10 ⟨rfl,s10,g10⟩
   rw [HST.out] at s10
   have S10:=Lib.hid s10
   have T10:=Lib.hid (T9.out.grown g10 (by omega) (by omega))
   have A10:=Lib.hid (A9.out.grown g10 (by simp;omega))
   have B10:Hid (Below w.heap.size w w10):=Lib.hid (B9.out.grown g10 B9.out.size (by have:=GR.out;simp;omega))
   clear s10 g10 W9 T9 A9 B9
   go_wp2
   go_roundw
   case rel=>exact ⟨k+1,by omega,by go_num,S10,A10,T10,B10⟩
   case measure=>simp [intOf];omega
  ·obtain rfl:k=n:=by omega
   have hlt':¬ (k:Int)<(k:Int):=by omega
   have H:=Lib.hid (hash_ok g _ _ S8.out T8.out HBL.out)
   have h32:Hid ((bs (sha (hbs (sb s) k RB))).length=32):=Lib.hid (by rw [bs_len,sha_len])
   have ho32:=Lib.hid (bs_one (sha (hbs (sb s) k RB)))
   have H:Hid (Calls Tryd.prog 69 #[.pointer (some ⟨g,0,none⟩)] _ fun e w'=>e=.returned (.agg (bs (sha (hbs (sb s) k RB))).toArray)∧Below _ _ w'):=H
   obtain ⟨xh,hxh⟩:∃ xh,bs (sha (hbs (sb s) k RB))=xh:=⟨_,rfl⟩
   rw [hxh] at H h32 ho32
   have HXH:=Lib.hid hxh
   have z32:Hid ((bs (List.replicate 32 0)).length=32):=Lib.hid (by simp [bs_len])
   obtain ⟨zr,hzr⟩:∃ zr,bs (List.replicate 32 0)=zr:=⟨_,rfl⟩
   rw [hzr] at A8 z32
   clear hxh hzr
   go_wp2_with fail
   refine H.out.mono ?_
   rintro e w11 ⟨rfl,b11⟩
   have A11:=Lib.hid (A8.out.on b11)
   have B11:=Lib.hid (bel_tr B8.out b11)
   clear H A8 B8 b11
   go_wp2_with (refine law_store (ty:=28) gr 0 _ zr.toArray xh rfl rfl A11.out (by rw [List.size_toArray,h32.out,z32.out];omega) (by rw [size_hash,h32.out]) ho32.out ?_;intro w12 P12)
   have L12:=P12.at_
   rw [put_all _ _ (by rw [h32.out,z32.out])] at L12
   refine ret_cell (ty:=28) rfl gr _ xh _ rfl L12 under_hash rfl (by rw [size_hash,h32.out]) rfl ⟨by rw [HXH.out],B11.out.grown P12.grown (by have:=B11.out.size;omega) (by have:=GR.out;simp;omega)⟩
end Go.Proofs.YtlphnfajhpkleaaDoor.By
