/-
 The document's sums of bytes,over natural numbers and lists. Nothing here speaks of the program.
-/
import Derived.Laws.BitsAllLaws
import Derived.Test.YtlphnfajhpkleaaDoorProg
import Derived.Test.YtlphnfajhpkleaaDoorMBySet
namespace Go.Proofs.YtlphnfajhpkleaaDoor.By
set_option maxRecDepth 100000
set_option linter.unusedSimpArgs false
set_option linter.unusedVariables false

/-- words of 32 bits,as values -/
def hs (l:List Nat):List Value:=l.map fun x:Nat=>.int .u32 (x:Int)
theorem hs_len (l:List Nat):(hs l).length=l.length:=by simp [hs]
theorem hs_at (l:List Nat) (k:Nat) (h:k<l.length):(hs l)[k]? = some (.int .u32 (l.getD k 0:Nat)):=by simp [hs,h]
theorem hs_one (l:List Nat):∀ u∈hs l,u.oneCell'=true:=by
 intro u hu;obtain ⟨x,_,rfl⟩:=List.mem_map.1 hu;rfl
theorem hs_set (l:List Nat) (k v:Nat):(hs l).set k (.int .u32 (v:Nat))=hs (l.set k v):=by simp [hs,List.map_set]
theorem bs_set (l:List Nat) (k v:Nat):(bs l).set k (.int .u8 (v:Nat))=bs (l.set k v):=by simp [bs,List.map_set]
theorem bs_drop' (l:List Nat) (k:Nat):(bs l).drop k=bs (l.drop k):=by simp [bs]
theorem bs_take' (l:List Nat) (k:Nat):(bs l).take k=bs (l.take k):=by simp [bs]

/-- turned down by n places -/
def rot (x n:Nat):Nat:=x/2^n ||| x*2^(32-n)%4294967296
/-- by each of so many places,taken against each other -/
def turn (x:Nat) (ns:List Nat):Nat:=ns.foldl (fun a n=>a ^^^ rot x n) 0
def chf (e f g:Nat):Nat:=(e &&& f) ||| ((4294967295-e) &&& g)
def maj (a b c:Nat):Nat:=((a &&& b) ||| (a &&& c)) ||| (b &&& c)

theorem lt32_or {a b:Nat} (ha:a<4294967296) (hb:b<4294967296):a ||| b<4294967296:=by
 have:=Nat.or_lt_two_pow (x:=a) (y:=b) (n:=32) (by simpa using ha) (by simpa using hb);simpa using this
theorem lt32_xor {a b:Nat} (ha:a<4294967296) (hb:b<4294967296):a ^^^ b<4294967296:=by
 have:=Nat.xor_lt_two_pow (x:=a) (y:=b) (n:=32) (by simpa using ha) (by simpa using hb);simpa using this
theorem lt32_and {a b:Nat} (ha:a<4294967296):a &&& b<4294967296:=Nat.lt_of_le_of_lt Nat.and_le_left ha
theorem rot_lt {x n:Nat} (hx:x<4294967296):rot x n<4294967296:=
 lt32_or (Nat.lt_of_le_of_lt (Nat.div_le_self _ _) hx) (Nat.mod_lt _ (by decide))
theorem turn_go_lt {x:Nat} (hx:x<4294967296):∀ (ns:List Nat) (a:Nat),a<4294967296→ns.foldl (fun a n=>a ^^^ rot x n) a<4294967296
 | [],a,ha=>ha
 | n::ns,a,ha=>by rw [List.foldl_cons];exact turn_go_lt hx ns _ (lt32_xor ha (rot_lt hx))
theorem turn_lt {x:Nat} (hx:x<4294967296) (ns:List Nat):turn x ns<4294967296:=turn_go_lt hx ns 0 (by decide)
theorem turn_step (x:Nat) (ns:List Nat) (j:Nat) (h:j<ns.length):turn x (ns.take (j+1))=turn x (ns.take j) ^^^ rot x (ns.getD j 0):=by
 unfold turn
 rw [List.take_succ_eq_append_getElem h,List.foldl_append,List.getD_eq_getElem?_getD,List.getElem?_eq_getElem h]
 rfl
/-- eight numbers -/
structure St where
 a:Nat
 b:Nat
 c:Nat
 d:Nat
 e:Nat
 f:Nat
 g:Nat
 h:Nat
def St.list (s:St):List Nat:=[s.a,s.b,s.c,s.d,s.e,s.f,s.g,s.h]
structure St.Ok (s:St):Prop where
 a:s.a<4294967296
 b:s.b<4294967296
 c:s.c<4294967296
 d:s.d<4294967296
 e:s.e<4294967296
 f:s.f<4294967296
 g:s.g<4294967296
 h:s.h<4294967296
def St.t (s:St) (k w:Nat):Nat:=((((s.h+turn s.e [6,11,25])%4294967296+chf s.e s.f s.g)%4294967296+k)%4294967296+w)%4294967296
def St.u (s:St):Nat:=(turn s.a [2,13,22]+maj s.a s.b s.c)%4294967296
def St.rnd (s:St) (k w:Nat):St:=⟨(s.t k w+s.u)%4294967296,s.a,s.b,s.c,(s.d+s.t k w)%4294967296,s.e,s.f,s.g⟩
def St.add (s x:St):St:=⟨(s.a+x.a)%4294967296,(s.b+x.b)%4294967296,(s.c+x.c)%4294967296,(s.d+x.d)%4294967296,(s.e+x.e)%4294967296,(s.f+x.f)%4294967296,(s.g+x.g)%4294967296,(s.h+x.h)%4294967296⟩
theorem m32 (x:Nat):x%4294967296<4294967296:=Nat.mod_lt _ (by decide)
theorem St.Ok.rnd {s:St} (o:s.Ok) (k w:Nat):(s.rnd k w).Ok:=⟨m32 _,o.a,o.b,o.c,m32 _,o.e,o.f,o.g⟩
theorem St.add_ok (s x:St):(s.add x).Ok:=⟨m32 _,m32 _,m32 _,m32 _,m32 _,m32 _,m32 _,m32 _⟩
def rounds (K W:List Nat) (s:St):Nat→St
 | 0=>s
 | n+1=>(rounds K W s n).rnd (K.getD n 0) (W.getD n 0)
theorem rounds_ok {K W:List Nat} {s:St} (o:s.Ok):∀ n,(rounds K W s n).Ok
 | 0=>o
 | n+1=>(rounds_ok o n).rnd _ _

/-- the number behind so many -/
def nextw (l:List Nat):Nat:=
 (((l.getD (l.length - 16) 0 + l.getD (l.length - 7) 0) % 4294967296 + (turn (l.getD (l.length - 15) 0) [7, 18] ^^^ l.getD (l.length - 15) 0 / 2 ^ 3)) % 4294967296 +
  (turn (l.getD (l.length-2) 0) [17,19] ^^^ l.getD (l.length-2) 0/2^10))%4294967296
def ext (l:List Nat):Nat→List Nat
 | 0=>l
 | n+1=>ext l n++[nextw (ext l n)]
theorem ext_len (l:List Nat):∀ n,(ext l n).length=l.length+n
 | 0=>rfl
 | n+1=>by simp [ext,ext_len l n,Nat.add_assoc]
theorem nextw_lt (l:List Nat):nextw l<4294967296:=m32 _
theorem ext_lt (l:List Nat) (h:∀ x∈l,x<4294967296):∀ n,∀ x∈ext l n,x<4294967296
 | 0=>h
 | n+1=>fun x hx=>by
  rcases List.mem_append.1 hx with hx | hx
  ·exact ext_lt l h n x hx
  ·rw [List.mem_singleton.1 hx];exact nextw_lt _
def first (B:List Nat) (n:Nat):List Nat:=(List.range n).map fun i=>val ((B.drop (4*i)).take 4)
theorem first_len (B:List Nat) (n:Nat):(first B n).length=n:=by simp [first]
theorem first_succ (B:List Nat) (n:Nat):first B (n+1)=first B n++[val ((B.drop (4*n)).take 4)]:=by simp [first,List.range_succ]
theorem val4_lt (l:List Nat) (h:∀ y∈l,y<256):val (l.take 4)<4294967296:=by
 have h1:=val_lt (l.take 4) fun y hy=>h y (List.mem_of_mem_take hy)
 have h2:(l.take 4).length≤4:=by rw [List.length_take];omega
 have h3:256^(l.take 4).length≤256^4:=Nat.pow_le_pow_right (by decide) h2
 have h4:(256:Nat)^4=4294967296:=by decide
 omega
theorem first_lt (B:List Nat) (h:∀ y∈B,y<256) (n:Nat):∀ x∈first B n,x<4294967296:=by
 intro x hx
 obtain ⟨i,_,rfl⟩:=List.mem_map.1 hx
 exact val4_lt _ fun y hy=>h y (List.mem_of_mem_drop hy)
def sched (B:List Nat):List Nat:=ext (first B 16) 48
theorem sched_len (B:List Nat):(sched B).length=64:=by rw [sched,ext_len,first_len]
theorem sched_lt (B:List Nat) (h:∀ y∈B,y<256):∀ x∈sched B,x<4294967296:=ext_lt _ (first_lt B h 16) 48

def cubes:List Nat:=
 [1116352408,1899447441,3049323471,3921009573,961987163,1508970993,2453635748,2870763221,3624381080,310598401,607225278,1426881987,1925078388,2162078206,2614888103,3248222580,3835390401,4022224774,264347078,604807628,770255983,1249150122,1555081692,1996064986,2554220882,2821834349,2952996808,3210313671,3336571891,3584528711,113926993,338241895,666307205,773529912,1294757372,1396182291,1695183700,1986661051,2177026350,2456956037,2730485921,2820302411,3259730800,3345764771,3516065817,3600352804,4094571909,275423344,430227734,506948616,659060556,883997877,958139571,1322822218,1537002063,1747873779,1955562222,2024104815,2227730452,2361852424,2428436474,2756734187,3204031479,3329325298]
theorem cubes_len:cubes.length=64:=by decide
theorem cubes_lt:∀ x∈cubes,x<4294967296:=by decide
def init:St:=⟨1779033703,3144134277,1013904242,2773480762,1359893119,2600822924,528734635,1541459225⟩
theorem init_ok:init.Ok:=⟨by decide,by decide,by decide,by decide,by decide,by decide,by decide,by decide⟩
/-- a block is taken in -/
def comp (s:St) (B:List Nat):St:=s.add (rounds cubes (sched B) s 64)
theorem comp_ok (s:St) (B:List Nat):(comp s B).Ok:=St.add_ok _ _
/-- block by block -/
def run (s:St) (l:List Nat):Nat→St
 | 0=>s
 | n+1=>comp (run s l n) ((l.drop (64*n)).take 64)
theorem run_ok {s:St} (o:s.Ok) (l:List Nat):∀ n,(run s l n).Ok
 | 0=>o
 | n+1=>comp_ok _ _
theorem run_append (s:St) (l m:List Nat):∀ n,64*n≤l.length→run s (l++m) n=run s l n
 | 0,_=>rfl
 | n+1,h=>by
  rw [run,run,run_append s l m n (by omega)]
  congr 1
  rw [List.drop_append_of_le_length (by omega),List.take_append_of_le_length (by rw [List.length_drop];omega)]
def noughts (n:Nat):Nat:=(128-(n%64+9))%64
def tail (n:Nat):List Nat:=(128::List.replicate (noughts n) 0)++be 8 (8*n)
theorem tail_len (n:Nat):(tail n).length=noughts n+9:=by simp [tail,be_len]
theorem tail_lt (n:Nat):∀ y∈tail n,y<256:=by
 intro y hy
 rcases List.mem_append.1 hy with hy | hy
 ·rcases List.mem_cons.1 hy with rfl | hy
  ·decide
  ·rw [(List.mem_replicate.1 hy).2];decide
 ·exact be_lt _ _ y hy
theorem whole (n:Nat):(n+(noughts n+9))%64=0:=by unfold noughts;omega
def sha (l:List Nat):List Nat:=(run init (l++tail l.length) ((l.length+(noughts l.length+9))/64)).list.flatMap (be 4)
theorem sha_len (l:List Nat):(sha l).length=32:=by simp [sha,St.list,be_len]
theorem sha_lt (l:List Nat):∀ y∈sha l,y<256:=by
 intro y hy
 obtain ⟨x,_,hx⟩:=List.mem_flatMap.1 hy
 exact be_lt _ _ y hx
end Go.Proofs.YtlphnfajhpkleaaDoor.By

/-
 Blocks made,read and written whole,as a walk meets them;the world behind each has a letter of its own. Nothing here speaks of the program.
-/
namespace Go.Proofs.YtlphnfajhpkleaaDoor.By
set_option maxRecDepth 100000
open Go.RowKit
set_option linter.unusedSimpArgs false
set_option linter.unusedVariables false

theorem put_list:∀ (vs l:List Value) (o:Nat),o+vs.length≤l.length→put l.toArray o vs=(l.take o++vs++l.drop (o+vs.length)).toArray
 | [],l,o,h=>by simp [put]
 | v::vs,l,o,h=>by
  have hl:o<l.length:=by simp at h;omega
  rw [put,List.setIfInBounds_toArray,put_list vs (l.set o v) (o+1) (by simp at h ⊢;omega)]
  congr 1
  rw [List.set_eq_take_append_cons_drop,if_pos hl]
  have e1:(l.take o++v::l.drop (o+1)).take (o+1)=l.take o++[v]:=by
   rw [List.take_append,List.length_take,Nat.min_eq_left (by omega),Nat.add_sub_cancel_left,List.take_of_length_le (by rw [List.length_take];omega)];simp
  have e2:(l.take o++v::l.drop (o+1)).drop (o+1+vs.length)=l.drop (o+(v::vs).length):=by
   rw [List.drop_append,List.length_take,Nat.min_eq_left (by omega),List.drop_of_length_le (by rw [List.length_take];omega),show o+1+vs.length-o=vs.length+1 by omega]
   rw [List.drop_succ_cons,List.drop_drop,List.nil_append];congr 1;simp;omega
  rw [e1,e2]
  simp only [List.append_assoc,List.cons_append,List.nil_append]
theorem put_all (xs ys:List Value) (h:ys.length=xs.length):put xs.toArray 0 ys=ys.toArray:=by
 rw [put_list ys xs 0 (by omega),Nat.zero_add,h];simp
theorem grown_rf (w:World) (row:Option Nat):w.grownBy w row:=⟨rfl,rfl,rfl,Nat.le_refl _,fun _ _ _=>rfl⟩
theorem At.sets {g:Nat} {t:TypeId}:∀ (vs:List Value) (o:Nat) (cs:Array Value) (w:World),At w g t cs→At (w.setCells g o vs) g t (put cs o vs)
 | [],_,_,_,h=>h
 | v::vs,o,cs,w,h=>At.sets vs (o+1) _ _ (h.set o v)
theorem grown_sets {g:Nat} {W:World}:∀ (vs:List Value) (o:Nat) (w:World),W.grownBy w (some g)→W.grownBy (w.setCells g o vs) (some g)
 | [],_,_,h=>h
 | v::vs,o,w,h=>grown_sets vs (o+1) _ (grown_set h o v)
theorem size_sets (g:Nat):∀ (vs:List Value) (o:Nat) (w:World),(w.setCells g o vs).heap.size=w.heap.size
 | [],_,_=>rfl
 | v::vs,o,w=>by rw [World.setCells,size_sets g vs];simp [World.setCell]

section
variable {P:Program} {ops:Array Oper} {Q:Exit→Act→World→Prop} {rest:List Oper} {a:Act} {w w':World} {d:Tmp} {ty ty':TypeId} {pos:String} {after:Array Edge} {o:Oper} {v:Value}

theorem wp_value {K:Act→World→Prop} (h:(execOp a.eval o).run P w=.ok (.value v) w') (hK:K (a.put o.dst v) w'):Oper.wp P o a w K Q:=by
 unfold Oper.wp;rw [h];exact hK
theorem wp_skip {K:Act→World→Prop} (h:(execOp a.eval o).run P w=.ok .skip w') (hK:K (a.put o.dst undef) w'):Oper.wp P o a w K Q:=by
 unfold Oper.wp;rw [h];exact hK
theorem law_value (hgd:o.guard=none) (hrun:(execOp a.eval o).run P w=.ok (.value v) w') (h:wpList P ops Q rest (a.put o.dst v) w'):wpList P ops Q (o::rest) a w:=
 wpList_plain hgd fun _ hK=>wp_value hrun (hK _ _ h)

theorem alloc_run {ρ:Operand→Value} {dst:Option Tmp} {gd:Option (Nat × Bool)} (cs:Array Value) (hz:(P.info? ty).map (·.zero)=some (some (.agg cs))) :
  (execOp ρ ⟨dst,.alloc ty,ty',pos,after,gd⟩).run P w=.ok (.value (.pointer (some ⟨w.heap.size,0,none⟩))) (w.alloc (.cells cs ty)):=by
 cases hq:P.info? ty with
 | none=>simp [hq] at hz
 | some i=>
  simp [hq] at hz
  simp [execOp,Instr.alloc,zeroValue,typeInfo,hq,hz,newVar,go_sem,Value.cells]
theorem box_run {ρ:Operand→Value} {dst:Option Tmp} {gd:Option (Nat × Bool)} (x:Operand) (cs:Array Value) (hx:ρ x=.agg cs) :
  (execOp ρ ⟨dst,.box ty x,ty',pos,after,gd⟩).run P w=.ok (.value (.pointer (some ⟨w.heap.size,0,none⟩))) (w.alloc (.cells cs ty)):=by
 simp [execOp,hx,Instr.box,newVar,go_sem,Value.cells]

/-- what a new block leaves -/
structure New (w w':World) (t:TypeId) (cs:Array Value):Prop where
 at_:At w' w.heap.size t cs
 bel:Below w.heap.size w w'
 size:w'.heap.size=w.heap.size+1
theorem New.mk' (w:World) (t:TypeId) (cs:Array Value):New w (w.alloc (.cells cs t)) t cs:=⟨At.new _ _ _,(Below.refl _ _).alloc (Nat.le_refl _) _,by simp⟩

theorem law_alloc (cs:Array Value) (hz:(P.info? ty).map (·.zero)=some (some (.agg cs)))
  (h:∀ w',New w w' ty cs→wpList P ops Q rest (a.put (some d) (.pointer (some ⟨w.heap.size,0,none⟩))) w'):wpList P ops Q (⟨some d,.alloc ty,ty',pos,after,none⟩::rest) a w:=
 law_value rfl (alloc_run cs hz) (h _ (New.mk' _ _ _))
theorem law_box {x:Operand} (cs:Array Value) (hx:a.eval x=.agg cs)
  (h:∀ w',New w w' ty cs→wpList P ops Q rest (a.put (some d) (.pointer (some ⟨w.heap.size,0,none⟩))) w'):wpList P ops Q (⟨some d,.box ty x,ty',pos,after,none⟩::rest) a w:=
 law_value rfl (box_run x cs hx) (h _ (New.mk' _ _ _))

/-- what a store leaves -/
structure Put (w w':World) (g:Nat) (t:TypeId) (cs:Array Value):Prop where
 at_:At w' g t cs
 grown:w.grownBy w' (some g)
 size:w'.heap.size=w.heap.size

theorem load_run {ρ:Operand→Value} {dst:Option Tmp} {gd:Option (Nat × Bool)} (x:Operand) (b o:Nat) (xs:List Value) (td:TypeDesc) (hx:ρ x=.pointer (some ⟨b,o,none⟩)) (hc:w.rangeAt b o xs)
  (hu:P.underlying ty=some td) (hd:td.isRow=true) (hi:(P.info? ty).map (·.size)=some xs.length) :
  (execOp ρ ⟨dst,.load ty x,ty',pos,after,gd⟩).run P w=.ok (.value (.agg xs.toArray)) w:=by
 simp only [execOp,hx,Instr.loadAt,Instr.sureAddr,Sem.run_bind,Sem.run_pure,Result.andThen_ok,run_loadVar_mid w b o ty xs td hc hu hd hi]
theorem law_load {x:Operand} (b o:Nat) (xs:List Value) (td:TypeDesc) (hx:a.eval x=.pointer (some ⟨b,o,none⟩)) (hc:w.rangeAt b o xs)
  (hu:P.underlying ty=some td) (hd:td.isRow=true) (hi:(P.info? ty).map (·.size)=some xs.length)
  (h:wpList P ops Q rest (a.put (some d) (.agg xs.toArray)) w):wpList P ops Q (⟨some d,.load ty x,ty',pos,after,none⟩::rest) a w:=
 law_value rfl (load_run x b o xs td hx hc hu hd hi) h
theorem store_run {ρ:Operand→Value} {dst:Option Tmp} {gd:Option (Nat × Bool)} (x y:Operand) (b o:Nat) (xs:List Value) (hx:ρ x=.pointer (some ⟨b,o,none⟩)) (hy:ρ y=.agg xs.toArray)
  (ht:w.there b o xs.length) (hi:(P.info? ty).map (·.size)=some xs.length) (h1:∀ u∈xs,u.oneCell'=true) :
  (execOp ρ ⟨dst,.store ty x y,ty',pos,after,gd⟩).run P w=.ok .skip (w.setCells b o xs):=by
 have:=run_storeVar_mid (P:=P) w b o ty xs.toArray (by simpa using ht) (by simpa using hi) (all_oneCell_toArray h1)
 simp only [execOp,hx,hy,Instr.storeAt,Instr.sureAddr,Sem.run_bind,Sem.run_pure,Result.andThen_ok,this]
theorem law_store {x y:Operand} {dst:Option Tmp} (g o:Nat) (t:TypeId) (cs:Array Value) (xs:List Value) (hx:a.eval x=.pointer (some ⟨g,o,none⟩)) (hy:a.eval y=.agg xs.toArray) (hat:At w g t cs)
  (hn:o+xs.length≤cs.size) (hi:(P.info? ty).map (·.size)=some xs.length) (h1:∀ u∈xs,u.oneCell'=true)
  (h:∀ w',Put w w' g t (put cs o xs)→wpList P ops Q rest (a.put dst undef) w'):wpList P ops Q (⟨dst,.store ty x y,ty',pos,after,none⟩::rest) a w:=
 wpList_plain rfl fun _ hK=>wp_skip (store_run x y g o xs hx hy (hat.there hn) hi h1) (hK _ _ (h _ ⟨hat.sets xs o cs w,grown_sets xs o w (grown_rf _ _),size_sets _ _ _ _⟩))

/-- the end of a function whose result is a block's cells -/
theorem ret_cell {fn:Func} {R:Ending→World→Prop} {p:Tmp} (h:fn.results=#[.cell p ty]) (g:Nat) (t:TypeId) (xs:List Value) (td:TypeDesc)
  (hp:a.tmps.getD p undef=.pointer (some ⟨g,0,none⟩)) (hg:At w g t xs.toArray) (hu:P.underlying ty=some td) (hd:td.isRow=true) (hi:(P.info? ty).map (·.size)=some xs.length)
  (hdf:a.defers=[]) (hR:R (.returned (.agg xs.toArray)) w):bodyPost P fn R .ret a w:=
 bodyPost_ret (results_cell_row h a.tmps w g t xs.toArray (0,0) td hp hg hu (by cases td <;> first | rfl | cases hd) (by simpa using hi)) hdf hR
end
end Go.Proofs.YtlphnfajhpkleaaDoor.By

/-
 bits.RotateLeft32,shas.turned,the document's own round: bits moved down,those that fall off coming in at the top.
-/
namespace Go.Proofs.YtlphnfajhpkleaaDoor.By
set_option maxRecDepth 100000
open Go.RowKit
set_option linter.unusedSimpArgs false
set_option linter.unusedVariables false

/-- places,as values -/
def ints (l:List Nat):List Value:=l.map fun x:Nat=>.int .i64 (x:Int)
theorem ints_at (l:List Nat) (k:Nat) (h:k<l.length):(ints l)[k]? = some (.int .i64 (l.getD k 0:Nat)):=by simp [ints,h]

theorem rot_low (n:Nat) (h0:0<n) (h:n<32):bits BinOp.and IntKind.u64 (IntKind.u64.wrap (-(n:Int))) 31=((32-n:Nat):Int):=by
 rw [IntKind.wrap_u64,show (-(n:Int))%18446744073709551616=((18446744073709551616-n:Nat):Int) by omega,show (31:Int)=((31:Nat):Int) from rfl,u64_and_nat _ _ (by omega) (by omega),nat_mask5]
 omega
theorem rot_form (x n:Nat) (hx:x<4294967296) :
  bits BinOp.or IntKind.u32 ((x:Int)*2^(32-n)%4294967296) ((x:Int)/2^n)=((rot x n:Nat):Int):=by
 have e1:(x:Int)*2^(32-n)%4294967296=((x*2^(32-n)%4294967296:Nat):Int):=by
  rw [Int.natCast_emod,Int.natCast_mul,Int.natCast_pow];rfl
 have e2:(x:Int)/2^n=((x/2^n:Nat):Int):=by rw [Int.natCast_ediv,Int.natCast_pow];rfl
 rw [e1,e2,u32_or_nat _ _ (m32 _) (Nat.lt_of_le_of_lt (Nat.div_le_self _ _) hx),Nat.or_comm]
 rfl
theorem rotl_ok (x n:Nat) (hx:x<4294967296) (h0:0<n) (h:n<32) (w:World) :
  Calls Tryd.prog 94 #[.int .u32 (x:Nat),.int .i64 (-(n:Int))] w fun e w'=>e=.returned (.int .u32 (rot x n:Nat))∧w=w':=by
 have L:=rot_low n h0 h
 have M:IntKind.u64.wrap (32-((32-n:Nat):Int))=(n:Int):=by rw [IntKind.wrap_u64];omega
 have p1:min (32-n) 32=32-n:=by omega
 have p2:min n 32=n:=by omega
 have F:=Lib.hid (rot_form x n hx)
 go_enter Tryd.func94,Tryd.ntmps94
 go_wp2
 rw [F.out]
 go_ret
 exact ⟨rfl,rfl⟩

/-- shas.turned -/
theorem turned_ok (x:Nat) (A:Option Addr) (n c:Nat) (ns:List Nat) (w:World) (hx:x<4294967296) (hm:n≤100) (hr:Rd w A n (ints ns)) (hb:∀ y∈ns,0<y∧y<32) :
  Calls Tryd.prog 93 #[.int .u32 (x:Nat),.slice A n c] w fun e w'=>e=.returned (.int .u32 (turn x ns:Nat))∧w=w':=by
 have hln:ns.length=n:=by have:=hr.1;simpa [ints] using this
 go_enter Tryd.func93,Tryd.ntmps93
 go_wp2
 go_loop [5,10] (fun t i=>∃ j:Nat,j≤n∧i=.int .i64 j∧t=.int .u32 (turn x (ns.take j):Nat)) (fun _ i=>n-(intOf i).toNat)
 case atStart=>exact ⟨0,Nat.zero_le _,rfl,rfl⟩
 case round=>
  obtain ⟨j,hj,rfl,rfl⟩:=hrel
  by_cases hlt:j<n
  ·obtain ⟨b,off,rfl,hbs,hcell⟩:=hr.spot hlt
   have hjl:j<ns.length:=by omega
   have hx1:w.cell? ⟨b,off+j,none⟩=some (.int .i64 (ns.getD j 0:Nat)):=hcell j _ (ints_at ns j hjl)
   have hy:=hb (ns.getD j 0) (by rw [List.getD_eq_getElem?_getD,List.getElem?_eq_getElem hjl];exact List.getElem_mem hjl)
   have C:=Lib.hid (rotl_ok x (ns.getD j 0) hx hy.1 hy.2 w)
   have T:=Lib.hid (turn_step x ns j hjl)
   have T1:=turn_lt hx (ns.take j)
   have T2:=rot_lt (n:=ns.getD j 0) hx
   have N:IntKind.i64.wrap (-((ns.getD j 0:Nat):Int))=-((ns.getD j 0:Nat):Int):=by have:=hy.2;generalize ns.getD j 0=q at *;simp [IntKind.wrap,IntKind.bits,IntKind.signed];omega
   clear hcell hr hb
   generalize ns.getD j 0=q at *
   generalize turn x (ns.take j)=p at *
   generalize hR:rot x q=r at *
   have U:=u32_xor_nat p r T1 T2
   go_wp2_with (go_at_call 94;refine C.out.mono ?_;rintro e w' ⟨rfl,rfl⟩)
   go_round
   case rel=>exact ⟨j+1,by omega,by go_num,by rw [T.out]⟩
   case measure=>simp [intOf];omega
  ·obtain rfl:j=n:=by omega
   rw [List.take_of_length_le (by omega)]
   go_wp2
   go_ret
   exact ⟨rfl,rfl⟩
end Go.Proofs.YtlphnfajhpkleaaDoor.By
