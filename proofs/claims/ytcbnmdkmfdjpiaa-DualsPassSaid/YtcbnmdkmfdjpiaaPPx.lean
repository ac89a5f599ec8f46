import Derived.Deep.Cut
import Derived.Deep.MidRow
import Derived.Test.YtcbnmdkmfdjpiaaPApp
import Derived.Test.YtcbnmdkmfdjpiaaPPm
import Derived.Test.YtcbnmdkmfdjpiaaPShort
namespace Go.Proofs.Ytcbnmdkmfdjpiaa
set_option maxRecDepth 100000
open Go.RowKit
set_option linter.unusedSimpArgs false
set_option linter.unusedVariables false
attribute [local go_sem ↓] Go.wp_at_zero Go.wp_at_succ

abbrev tal (P Q G H N:Nat):Value:=.agg #[.int .u64 (wd P 0),.int .u64 (wd P 1),.int .u64 (wd P 2),.int .u64 (wd P 3),.int .u64 (wd Q 0),.int .u64 (wd Q 1),.int .u64 (wd Q 2),.int .u64 (wd Q 3),.int .u64 (wd G 0),.int .u64 (wd G 1),.int .u64 (wd G 2),.int .u64 (wd G 3),.int .u64 (wd H 0),.int .u64 (wd H 1),.int .u64 (wd H 2),.int .u64 (wd H 3),.int .u64 (wd N 0),.int .u64 (wd N 1),.int .u64 (wd N 2),.int .u64 (wd N 3)]
abbrev tcs (P Q G H N:Nat):Array Value:=#[.int .u64 (wd P 0),.int .u64 (wd P 1),.int .u64 (wd P 2),.int .u64 (wd P 3),.int .u64 (wd Q 0),.int .u64 (wd Q 1),.int .u64 (wd Q 2),.int .u64 (wd Q 3),.int .u64 (wd G 0),.int .u64 (wd G 1),.int .u64 (wd G 2),.int .u64 (wd G 3),.int .u64 (wd H 0),.int .u64 (wd H 1),.int .u64 (wd H 2),.int .u64 (wd H 3),.int .u64 (wd N 0),.int .u64 (wd N 1),.int .u64 (wd N 2),.int .u64 (wd N 3)]
def C4 (w:World) (g o X:Nat):Prop:=w.cell? ⟨g,o,none⟩=some (.int .u64 (wd X 0))∧w.cell? ⟨g,o+1,none⟩=some (.int .u64 (wd X 1))∧w.cell? ⟨g,o+2,none⟩=some (.int .u64 (wd X 2))∧w.cell? ⟨g,o+3,none⟩=some (.int .u64 (wd X 3))
section
variable {x y z:Operand} {dst:Option Tmp} {ty:TypeId} {pos:String} {after:Array Edge} {guard:Option (Nat × Bool)} {ρ:Operand→Value} {w:World} {g o:Nat} {P:Program}
theorem o_allocT:(execOp ρ ⟨dst,.alloc 59,ty,pos,after,guard⟩).run Try.prog w=.ok (.value (.pointer (some ⟨w.heap.size,0,none⟩))) (w.alloc (.cells (tcs 0 0 0 0 0) 59)):=by
 have h:(execOp ρ ⟨dst,.alloc 59,ty,pos,after,guard⟩).run Try.prog w=.ok (.value (.pointer (some ⟨w.heap.size,0,none⟩))) (w.alloc (.cells #[.int .u64 0,.int .u64 0,.int .u64 0,.int .u64 0,.int .u64 0,.int .u64 0,.int .u64 0,.int .u64 0,.int .u64 0,.int .u64 0,.int .u64 0,.int .u64 0,.int .u64 0,.int .u64 0,.int .u64 0,.int .u64 0,.int .u64 0,.int .u64 0,.int .u64 0,.int .u64 0] 59)):=by simp [execOp,go_sem]
 exact h
theorem o_buildT1 {P Q G H:Nat} (hx:ρ x=grp P Q G H):(execOp ρ ⟨dst,.build 59 #[(0,x)],ty,pos,after,guard⟩).run Try.prog w=.ok (.value (tal P Q G H 0)) w:=by
 have h:(execOp ρ ⟨dst,.build 59 #[(0,x)],ty,pos,after,guard⟩).run Try.prog w=.ok (.value (.agg #[.int .u64 (wd P 0),.int .u64 (wd P 1),.int .u64 (wd P 2),.int .u64 (wd P 3),.int .u64 (wd Q 0),.int .u64 (wd Q 1),.int .u64 (wd Q 2),.int .u64 (wd Q 3),.int .u64 (wd G 0),.int .u64 (wd G 1),.int .u64 (wd G 2),.int .u64 (wd G 3),.int .u64 (wd H 0),.int .u64 (wd H 1),.int .u64 (wd H 2),.int .u64 (wd H 3),.int .u64 0,.int .u64 0,.int .u64 0,.int .u64 0])) w:=by simp [execOp,hx,go_sem]
 exact h
theorem o_fieldT0 (hx:ρ x=.pointer (some ⟨g,0,none⟩)):(execOp ρ ⟨dst,.fieldAddr 59 x 0,ty,pos,after,guard⟩).run Try.prog w=.ok (.value (.pointer (some ⟨g,0,none⟩))) w:=by simp [execOp,hx,go_sem]
theorem Xy (hx:ρ x=.pointer (some ⟨g,0,none⟩)):(execOp ρ ⟨dst,.fieldAddr 59 x 1,ty,pos,after,guard⟩).run Try.prog w=.ok (.value (.pointer (some ⟨g,16,none⟩))) w:=by simp [execOp,hx,go_sem]
theorem Wi (hx:ρ x=.pointer (some ⟨g,o,none⟩)):(execOp ρ ⟨dst,.nilCheck x,ty,pos,after,guard⟩).run Try.prog w=.ok (.value (.pointer (some ⟨g,o,none⟩))) w:=by simp [execOp,hx,go_sem]
theorem o_mkB {f:FuncId} {u:Value} (hx:ρ x=u):(execOp ρ ⟨dst,.makeFunc (.func f) #[x] #[],ty,pos,after,guard⟩).run P w=.ok (.value (.func (.func f) #[u] #[])) w:=by simp [execOp,hx,go_sem]
theorem o_loadT0 {P Q G H N:Nat} (hx:ρ x=.pointer (some ⟨g,0,none⟩)) (h:At w g 59 (tcs P Q G H N)):(execOp ρ ⟨dst,.load 26 x,ty,pos,after,guard⟩).run Try.prog w=.ok (.value (grp P Q G H)) w:=by
 have c0:w.cell? ⟨g,0,none⟩=some (.int .u64 (wd P 0)):=h.cell 0
 have c1:w.cell? ⟨g,1,none⟩=some (.int .u64 (wd P 1)):=h.cell 1
 have c2:w.cell? ⟨g,2,none⟩=some (.int .u64 (wd P 2)):=h.cell 2
 have c3:w.cell? ⟨g,3,none⟩=some (.int .u64 (wd P 3)):=h.cell 3
 have c4:w.cell? ⟨g,4,none⟩=some (.int .u64 (wd Q 0)):=h.cell 4
 have c5:w.cell? ⟨g,5,none⟩=some (.int .u64 (wd Q 1)):=h.cell 5
 have c6:w.cell? ⟨g,6,none⟩=some (.int .u64 (wd Q 2)):=h.cell 6
 have c7:w.cell? ⟨g,7,none⟩=some (.int .u64 (wd Q 3)):=h.cell 7
 have c8:w.cell? ⟨g,8,none⟩=some (.int .u64 (wd G 0)):=h.cell 8
 have c9:w.cell? ⟨g,9,none⟩=some (.int .u64 (wd G 1)):=h.cell 9
 have c10:w.cell? ⟨g,10,none⟩=some (.int .u64 (wd G 2)):=h.cell 10
 have c11:w.cell? ⟨g,11,none⟩=some (.int .u64 (wd G 3)):=h.cell 11
 have c12:w.cell? ⟨g,12,none⟩=some (.int .u64 (wd H 0)):=h.cell 12
 have c13:w.cell? ⟨g,13,none⟩=some (.int .u64 (wd H 1)):=h.cell 13
 have c14:w.cell? ⟨g,14,none⟩=some (.int .u64 (wd H 2)):=h.cell 14
 have c15:w.cell? ⟨g,15,none⟩=some (.int .u64 (wd H 3)):=h.cell 15
 simp [execOp,hx,go_sem,c0,c1,c2,c3,c4,c5,c6,c7,c8,c9,c10,c11,c12,c13,c14,c15]
theorem Jdj {P Q G H N:Nat} (hx:ρ x=.pointer (some ⟨g,16,none⟩)) (h:At w g 59 (tcs P Q G H N)):(execOp ρ ⟨dst,.load 24 x,ty,pos,after,guard⟩).run Try.prog w=.ok (.value (num N)) w:=by
 have c16:w.cell? ⟨g,16,none⟩=some (.int .u64 (wd N 0)):=h.cell 16
 have c17:w.cell? ⟨g,17,none⟩=some (.int .u64 (wd N 1)):=h.cell 17
 have c18:w.cell? ⟨g,18,none⟩=some (.int .u64 (wd N 2)):=h.cell 18
 have c19:w.cell? ⟨g,19,none⟩=some (.int .u64 (wd N 3)):=h.cell 19
 simp [execOp,hx,go_sem,c16,c17,c18,c19]
theorem puts_eq (g:Nat):∀ (vs:List Value) (w:World) (o:Nat),puts w g o vs=w.setCells g o vs
 | [],_,_=>rfl
 | v::vs,w,o=>by rw [puts,World.setCells,puts_eq g vs]
theorem Try.sizeT:(Try.prog.info? 59).map (·.size)=some 20:=by kernel_rfl
theorem o_storeT {P Q G H N P1 Q1 G1 H1 N1:Nat} (hx:ρ x=.pointer (some ⟨g,0,none⟩)) (hy:ρ y=tal P Q G H N) (h:At w g 59 (tcs P1 Q1 G1 H1 N1)):(execOp ρ ⟨dst,.store 59 x y,ty,pos,after,guard⟩).run Try.prog w=.ok .skip (puts w g 0 [.int .u64 (wd P 0),.int .u64 (wd P 1),.int .u64 (wd P 2),.int .u64 (wd P 3),.int .u64 (wd Q 0),.int .u64 (wd Q 1),.int .u64 (wd Q 2),.int .u64 (wd Q 3),.int .u64 (wd G 0),.int .u64 (wd G 1),.int .u64 (wd G 2),.int .u64 (wd G 3),.int .u64 (wd H 0),.int .u64 (wd H 1),.int .u64 (wd H 2),.int .u64 (wd H 3),.int .u64 (wd N 0),.int .u64 (wd N 1),.int .u64 (wd N 2),.int .u64 (wd N 3)]):=by
 have ht:w.there g 0 20:=fun j hj=>⟨by
  rw [Nat.zero_add,h.cell,Array.getElem?_eq_getElem (show j<(tcs P1 Q1 G1 H1 N1).size from hj)];rfl,h.frozen _⟩
 have:=run_storeVar_mid (P:=Try.prog) w g 0 59 (tcs P Q G H N) ht Try.sizeT (by simp [tcs,Value.oneCell'])
 rw [puts_eq]
 simp only [execOp,hx,hy,Instr.storeAt,Instr.sureAddr,Sem.run_bind,Sem.run_pure,Result.andThen_ok,this]
theorem o_storeT1 {P Q G H N V:Nat} (hx:ρ x=.pointer (some ⟨g,16,none⟩)) (hy:ρ y=num V) (h:At w g 59 (tcs P Q G H N)):(execOp ρ ⟨dst,.store 24 x y,ty,pos,after,guard⟩).run Try.prog w=.ok .skip (puts w g 16 [.int .u64 (wd V 0),.int .u64 (wd V 1),.int .u64 (wd V 2),.int .u64 (wd V 3)]):=by
 have c16:w.cell? ⟨g,16,none⟩=some (.int .u64 (wd N 0)):=h.cell 16
 have c17:w.cell? ⟨g,17,none⟩=some (.int .u64 (wd N 1)):=h.cell 17
 have c18:w.cell? ⟨g,18,none⟩=some (.int .u64 (wd N 2)):=h.cell 18
 have c19:w.cell? ⟨g,19,none⟩=some (.int .u64 (wd N 3)):=h.cell 19
 have f16:w.frozen? ⟨g,16,none⟩=false:=h.frozen 16
 have f17:w.frozen? ⟨g,17,none⟩=false:=h.frozen 17
 have f18:w.frozen? ⟨g,18,none⟩=false:=h.frozen 18
 have f19:w.frozen? ⟨g,19,none⟩=false:=h.frozen 19
 simp [execOp,hx,hy,go_sem,puts,c16,f16,c17,f17,c18,f18,c19,f19]
theorem Jay {i l cap:Nat} (hi:i<l) (hx:ρ x=.slice (some ⟨g,o,none⟩) l cap) (hy:ρ y=.int .i64 (i:Nat)):(execOp ρ ⟨dst,.indexAddr 27 x y,ty,pos,after,guard⟩).run Try.prog w=.ok (.value (.pointer (some ⟨g,o+i*4,none⟩))) w:=by
 have h1:(i:Int)<(l:Int):=by omega
 simp [execOp,hx,hy,go_sem,h1]
theorem Xx {X:Nat} (hx:ρ x=.pointer (some ⟨g,o,none⟩)) (h:C4 w g o X):(execOp ρ ⟨dst,.load 24 x,ty,pos,after,guard⟩).run Try.prog w=.ok (.value (num X)) w:=by
 obtain ⟨h0,h1,h2,h3⟩:=h
 simp [execOp,hx,go_sem,h0,h1,h2,h3]
theorem o_storeC {V:Nat} {cs:Array Value} {t:TypeId} (hx:ρ x=.pointer (some ⟨g,o,none⟩)) (hy:ρ y=num V) (h:At w g t cs) (hs:o+3<cs.size):(execOp ρ ⟨dst,.store 24 x y,ty,pos,after,guard⟩).run Try.prog w=.ok .skip (puts w g o [.int .u64 (wd V 0),.int .u64 (wd V 1),.int .u64 (wd V 2),.int .u64 (wd V 3)]):=by
 have c0:w.cell? ⟨g,o,none⟩=some cs[o]:=(h.cell o).trans (Array.getElem?_eq_getElem (by omega))
 have c1:w.cell? ⟨g,o+1,none⟩=some cs[o+1]:=(h.cell (o+1)).trans (Array.getElem?_eq_getElem (by omega))
 have c2:w.cell? ⟨g,o+2,none⟩=some cs[o+2]:=(h.cell (o+2)).trans (Array.getElem?_eq_getElem (by omega))
 have c3:w.cell? ⟨g,o+3,none⟩=some cs[o+3]:=(h.cell (o+3)).trans (Array.getElem?_eq_getElem (by omega))
 have f0:=h.frozen o
 have f1:=h.frozen (o+1)
 have f2:=h.frozen (o+2)
 have f3:=h.frozen (o+3)
 simp [execOp,hx,hy,go_sem,puts,Nat.add_assoc,c0,c1,c2,c3,f0,f1,f2,f3]
theorem Jfi {n m:Int} {T T2:TypeId} {b:Bool} (hb:decide (n=m)=b) (hx:ρ x=.int .i64 n) (hy:ρ y=.int .i64 m) (hT:Try.prog.underlying T=some (.int .i64)):(execOp ρ ⟨dst,.binOp .neq T x y T2,ty,pos,after,guard⟩).run Try.prog w=.ok (.value (.bool (!b))) w:=by
 subst hb
 simp [execOp,hx,hy,go_sem,hT]
 by_cases h:n=m <;> simp [h]
theorem run_callVB {f:FuncId} {fn:Func} {c:Code} {a:Act} {rl:List Value} (hf:P.funcs[f]? = some fn) (hname:(fn.name == "runtime.NumGoroutine")=false) (hb:fn.body=some c) {xs:List Operand} {vs:List Value} {tys:Array TypeId} (hx:a.eval x=.func (.func f) rl.toArray #[]) (hs:Evs a xs vs) (w:World) :
  (execOp a.eval ⟨dst,.call ⟨.value x,xs.toArray,tys⟩,ty,pos,after,guard⟩).run P w=.ok (.enter f (rl++vs).toArray) w:=by
 have h:=Vp hf hname hb (rl++vs).toArray w
 have hm:=hs.map
 simp only [execOp,resolve,hx,hm]
 simpa [Deferred.ofValue,invoke,go_sem] using h
end
theorem setsT (P1 Q1 G1 H1 N1 P Q G H N:Nat):Jeh (tcs P1 Q1 G1 H1 N1) 0 [.int .u64 (wd P 0),.int .u64 (wd P 1),.int .u64 (wd P 2),.int .u64 (wd P 3),.int .u64 (wd Q 0),.int .u64 (wd Q 1),.int .u64 (wd Q 2),.int .u64 (wd Q 3),.int .u64 (wd G 0),.int .u64 (wd G 1),.int .u64 (wd G 2),.int .u64 (wd G 3),.int .u64 (wd H 0),.int .u64 (wd H 1),.int .u64 (wd H 2),.int .u64 (wd H 3),.int .u64 (wd N 0),.int .u64 (wd N 1),.int .u64 (wd N 2),.int .u64 (wd N 3)]=tcs P Q G H N:=by simp [Jeh]
theorem setsT1 (P Q G H N V:Nat):Jeh (tcs P Q G H N) 16 [.int .u64 (wd V 0),.int .u64 (wd V 1),.int .u64 (wd V 2),.int .u64 (wd V 3)]=tcs P Q G H V:=by simp [Jeh]
def RS (w:World) (a:Option Addr) (n cap:Nat) (xs:List Nat):Prop:=xs.length=n∧NSl w.heap.size w a cap xs
theorem NSl.up {n n':Nat} {w:World} {a:Option Addr} {cap:Nat} {xs:List Nat} (h:NSl n w a cap xs) (hn:n≤n'):NSl n' w a cap xs:=
 ⟨h.1,h.2.1,h.2.2.1,h.2.2.2.imp id fun ⟨g,o,ha,hg,hc⟩=>⟨g,o,ha,Nat.lt_of_lt_of_le hg hn,hc⟩⟩
theorem RS.on {w w':World} {a:Option Addr} {n cap:Nat} {xs:List Nat} (h:RS w a n cap xs) (hb:Below w.heap.size w w'):RS w' a n cap xs:=⟨h.1,(h.2.below hb).up hb.size⟩
theorem RS.lt {w:World} {a:Option Addr} {n cap:Nat} {xs:List Nat} (h:RS w a n cap xs):∀ x∈xs,x<2^256:=h.2.2.2.1
theorem RS.nil (w:World):RS w none 0 0 []:=⟨rfl,Nat.le_refl _,by decide,fun _ h=>(by cases h),Or.inl rfl⟩
theorem RS.get {w:World} {a:Option Addr} {n cap:Nat} {xs:List Nat} (h:RS w a n cap xs) {i:Nat} (hi:i<n):∃ g o x,a=some ⟨g,o,none⟩∧xs[i]? = some x∧x<2^256∧∀ u,Below w.heap.size w u→C4 u g (o+i*4) x:=by
 have hl:i<xs.length:=by rw [h.1];exact hi
 obtain ⟨g,o,ha,hg,h0,h1,h2,h3⟩:=h.2.get hl rfl
 exact ⟨g,o,xs[i],ha,List.getElem?_eq_getElem hl,h.lt _ (List.getElem_mem hl),fun u hb=>⟨(hb.cell (p:=⟨g,o+i*4,none⟩) hg).trans h0,(hb.cell (p:=⟨g,o+i*4+1,none⟩) hg).trans h1,(hb.cell (p:=⟨g,o+i*4+2,none⟩) hg).trans h2,(hb.cell (p:=⟨g,o+i*4+3,none⟩) hg).trans h3⟩⟩
def Pf (cs:Array Value) (xs:List Nat):Prop:=xs.length*4≤cs.size∧∀ i (h:i<xs.length) k,k<4→cs[i*4+k]? = some (.int .u64 (wd xs[i] k))
theorem Pf.flat (xs:List Nat):Pf (flat xs).toArray xs:=⟨by simp [Jbc],fun i h k hk=>by rw [List.getElem?_toArray];exact Jaj xs i h k hk⟩
theorem Pf.one (X:Nat):Pf (Xs X) [X]:=⟨Nat.le_refl 4,fun i h k hk=>by
 obtain rfl:i=0:=by simpa using h
 match k,hk with
 | 0,_=>rfl
 | 1,_=>rfl
 | 2,_=>rfl
 | 3,_=>rfl⟩
theorem Pf.rs {w:World} {g n cap:Nat} {t:TypeId} {cs:Array Value} {xs:List Nat} (h:Pf cs xs) (hat:At w g t cs) (hn:n≤xs.length) (hc:n≤cap) (hcap:cap≤9223372036854775807) (hx:∀ x∈xs,x<2^256):RS w (some ⟨g,0,none⟩) n cap (xs.take n):=by
 have hl:(xs.take n).length=n:=by rw [List.length_take];omega
 refine ⟨hl,by rw [hl];exact hc,hcap,fun x hx'=>hx x (List.mem_of_mem_take hx'),Or.inr ⟨g,0,rfl,hat.lt,fun i hi k hk=>?_⟩⟩
 rw [List.getElem_take,Nat.zero_add,hat.cell]
 exact h.2 i (by omega) k hk
theorem Pf.rsA {w:World} {g n cap:Nat} {t:TypeId} {cs:Array Value} {xs:List Nat} (h:Pf cs xs) (hat:At w g t cs) (hn:xs.length=n) (hc:n≤cap) (hcap:cap≤9223372036854775807) (hx:∀ x∈xs,x<2^256):RS w (some ⟨g,0,none⟩) n cap xs:=by
 have:=h.rs hat (Nat.le_of_eq hn.symm) hc hcap hx
 rwa [List.take_of_length_le (Nat.le_of_eq hn)] at this
theorem Pf.c4 {w:World} {g:Nat} {t:TypeId} {cs:Array Value} {xs:List Nat} (h:Pf cs xs) (hat:At w g t cs) {i x:Nat} (hi:xs[i]? = some x):C4 w g (0+i*4) x:=by
 obtain ⟨hl,rfl⟩:=List.getElem?_eq_some_iff.1 hi
 rw [Nat.zero_add]
 exact ⟨(hat.cell _).trans (by simpa using h.2 i hl 0 (by decide)),(hat.cell _).trans (h.2 i hl 1 (by decide)),(hat.cell _).trans (h.2 i hl 2 (by decide)),(hat.cell _).trans (h.2 i hl 3 (by decide))⟩
theorem Pf.room {cs:Array Value} {xs:List Nat} (h:Pf cs xs) {i:Nat} (hi:i<xs.length):0+i*4+3<cs.size:=by have:=h.1;omega
theorem sets4get (cs:Array Value) (o:Nat) (a b c d:Value) (ho:o+3<cs.size) (j:Nat):(Jeh cs o [a,b,c,d])[j]? = if j=o then some a else if j=o+1 then some b else if j=o+2 then some c else if j=o+3 then some d else cs[j]?:=by
 simp only [Jeh,Array.getElem?_setIfInBounds]
 have h0:o<cs.size:=by omega
 have h1:o+1<cs.size:=by omega
 have h2:o+2<cs.size:=by omega
 by_cases e3:o+1+1+1=j
 ·subst e3;simp [ho,Nat.add_assoc]
 by_cases e2:o+1+1=j
 ·subst e2;simp [h2,Nat.add_assoc]
 by_cases e1:o+1=j
 ·subst e1;simp [h1,Nat.add_assoc]
 by_cases e0:o=j
 ·subst e0;rw [if_neg e3,if_neg e2,if_neg e1,if_pos rfl,if_pos h0,if_pos rfl]
 rw [if_neg (by omega),if_neg (by omega),if_neg (by omega),if_neg (by omega),if_neg (by omega),if_neg (by omega),if_neg (by omega),if_neg (by omega)]
theorem sets4size (cs:Array Value) (o:Nat) (a b c d:Value):(Jeh cs o [a,b,c,d]).size=cs.size:=by simp [Jeh]
theorem Pf.set {cs:Array Value} {xs:List Nat} (h:Pf cs xs) {i:Nat} (hi:i<xs.length) (V:Nat):Pf (Jeh cs (0+i*4) [.int .u64 (wd V 0),.int .u64 (wd V 1),.int .u64 (wd V 2),.int .u64 (wd V 3)]) (xs.set i V):=by
 have hr:=h.room hi
 refine ⟨by rw [List.length_set,sets4size];exact h.1,fun j hj k hk=>?_⟩
 rw [List.length_set] at hj
 rw [sets4get _ _ _ _ _ _ hr,List.getElem_set]
 by_cases e:i=j
 ·subst e
  rw [if_pos rfl]
  match k,hk with
  | 0,_=>rw [if_pos (by omega)]
  | 1,_=>rw [if_neg (by omega),if_pos (by omega)]
  | 2,_=>rw [if_neg (by omega),if_neg (by omega),if_pos (by omega)]
  | 3,_=>rw [if_neg (by omega),if_neg (by omega),if_neg (by omega),if_pos (by omega)]
 ·rw [if_neg e,if_neg (by omega),if_neg (by omega),if_neg (by omega),if_neg (by omega)]
  exact h.2 j hj k hk
def Vw:List VC→List Nat→List (Nat × TypeId × Array Value)
 | [],_=>[]
 | ⟨_,_,_,.val _,_⟩::T,rs=>Vw T rs
 | ⟨_,_,_,.cell _ _,_⟩::T,rs=>Vw T rs
 | ⟨_,_,_,.row t cs _,_⟩::T,r::rs=>(r,t,cs)::Vw T rs
 | ⟨_,_,_,.row _ _ _,_⟩::T,[]=>Vw T []
 | ⟨_,_,_,.own t cs _,_⟩::T,r::rs=>(r,t,cs)::Vw T rs
 | ⟨_,_,_,.own _ _ _,_⟩::T,[]=>Vw T []
 | ⟨_,_,_,.two _ _ _,_⟩::T,_::_::rs=>Vw T rs
 | ⟨_,_,_,.two _ _ _,_⟩::T,_=>Vw T []
def Xe:List VC→List Nat→List Nat
 | [],_=>[]
 | ⟨_,_,_,.val _,_⟩::T,rs=>Xe T rs
 | ⟨_,_,_,.cell _ _,_⟩::T,rs=>Xe T rs
 | ⟨_,_,_,.row _ _ _,_⟩::T,_::rs=>Xe T rs
 | ⟨_,_,_,.row _ _ _,_⟩::T,[]=>Xe T []
 | ⟨_,_,_,.own _ _ _,_⟩::T,r::rs=>r::Xe T rs
 | ⟨_,_,_,.own _ _ _,_⟩::T,[]=>Xe T []
 | ⟨_,_,_,.two _ _ _,_⟩::T,_::_::rs=>Xe T rs
 | ⟨_,_,_,.two _ _ _,_⟩::T,_=>Xe T []
def Jan (w:World):List VC→List Nat→Prop
 | [],_=>True
 | ⟨_,_,_,.val _,_⟩::T,rs=>Jan w T rs
 | ⟨_,_,_,.cell _ _,_⟩::T,rs=>Jan w T rs
 | ⟨_,_,_,.row _ _ _,_⟩::T,_::rs=>Jan w T rs
 | ⟨_,_,_,.row _ _ _,_⟩::T,[]=>Jan w T []
 | ⟨_,_,_,.own _ _ _,_⟩::T,_::rs=>Jan w T rs
 | ⟨_,_,_,.own _ _ _,_⟩::T,[]=>Jan w T []
 | ⟨_,_,_,.two _ q _,_⟩::T,r::c::rs=>q r c w∧Jan w T rs
 | ⟨_,_,_,.two _ _ _,_⟩::T,_=>Jan w T []
theorem Wn {b:Nat} {w:World}:∀ (T:List VC) (vs:List Value) (gs rs:List Nat),Jgh b w T vs→vs=(Uj T gs rs).map (·.2)→rs.length=Kj T→∀ x∈Vw T rs,At w x.1 x.2.1 x.2.2
 | [],[],_,_,_,_,_,x,hx=>by simp [Vw] at hx
 | ⟨_,_,_,.val _,_⟩::T,v::vs,gs,rs,⟨_,_,h3⟩,e,hr,x,hx=>Wn T vs gs rs h3 (by simp [Uj] at e;exact e.2) (by simpa [Kj] using hr) x (by simpa [Vw] using hx)
 | ⟨_,_,_,.cell _ _,_⟩::T,v::vs,g::gs,rs,⟨_,_,h3⟩,e,hr,x,hx=>Wn T vs gs rs h3 (by simp [Uj] at e;exact e.2) (by simpa [Kj] using hr) x (by simpa [Vw] using hx)
 | ⟨_,_,_,.cell _ _,_⟩::T,v::vs,[],rs,⟨_,_,h3⟩,e,hr,x,hx=>Wn T vs [] rs h3 (by simp [Uj] at e;exact e.2) (by simpa [Kj] using hr) x (by simpa [Vw] using hx)
 | ⟨_,_,_,.row t cs l,_⟩::T,v::vs,gs,r::rs,⟨h1,_,h3⟩,e,hr,x,hx=>by
  simp [Uj] at e
  rcases List.mem_cons.1 (show x∈(r,t,cs)::Vw T rs from hx) with rfl | hx
  ·obtain ⟨g,hv,hat⟩:∃ g,v=.slice (some ⟨g,0,none⟩) l l∧At w g t cs:=h1
   rw [e.1] at hv
   cases hv
   exact hat
  ·exact Wn T vs gs rs h3 e.2 (by simpa [Kj] using hr) x hx
 | ⟨_,_,_,.row t cs l,_⟩::T,v::vs,gs,[],_,_,hr,x,hx=>by simp [Kj] at hr
 | ⟨_,_,_,.own t cs l,_⟩::T,v::vs,gs,r::rs,⟨h1,_,h3⟩,e,hr,x,hx=>by
  simp [Uj] at e
  rcases List.mem_cons.1 (show x∈(r,t,cs)::Vw T rs from hx) with rfl | hx
  ·obtain ⟨g,hv,_,hat⟩:∃ g,v=.slice (some ⟨g,0,none⟩) l l∧b≤g∧At w g t cs:=h1
   rw [e.1] at hv
   cases hv
   exact hat
  ·exact Wn T vs gs rs h3 e.2 (by simpa [Kj] using hr) x hx
 | ⟨_,_,_,.own t cs l,_⟩::T,v::vs,gs,[],_,_,hr,x,hx=>by simp [Kj] at hr
 | ⟨_,_,_,.two n q st,_⟩::T,v::vs,gs,r::c::rs,⟨h1,_,h3⟩,e,hr,x,hx=>Wn T vs gs rs h3 (by simp [Uj] at e;exact e.2) (by simpa [Kj] using hr) x (by simpa [Vw] using hx)
 | ⟨_,_,_,.two n q st,_⟩::T,v::vs,gs,[_],_,_,hr,x,hx=>by simp [Kj] at hr
 | ⟨_,_,_,.two n q st,_⟩::T,v::vs,gs,[],_,_,hr,x,hx=>by simp [Kj] at hr
 | [],_::_,_,_,h,_,_,_,_=>h.elim
 | _::_,[],_,_,h,_,_,_,_=>h.elim
theorem Xm {b:Nat} {w:World}:∀ (T:List VC) (vs:List Value) (gs rs:List Nat),Jgh b w T vs→vs=(Uj T gs rs).map (·.2)→rs.length=Kj T→∀ x∈Xe T rs,b≤x
 | [],[],_,_,_,_,_,x,hx=>by simp [Xe] at hx
 | ⟨_,_,_,.val _,_⟩::T,v::vs,gs,rs,⟨_,_,h3⟩,e,hr,x,hx=>Xm T vs gs rs h3 (by simp [Uj] at e;exact e.2) (by simpa [Kj] using hr) x (by simpa [Xe] using hx)
 | ⟨_,_,_,.cell _ _,_⟩::T,v::vs,g::gs,rs,⟨_,_,h3⟩,e,hr,x,hx=>Xm T vs gs rs h3 (by simp [Uj] at e;exact e.2) (by simpa [Kj] using hr) x (by simpa [Xe] using hx)
 | ⟨_,_,_,.cell _ _,_⟩::T,v::vs,[],rs,⟨_,_,h3⟩,e,hr,x,hx=>Xm T vs [] rs h3 (by simp [Uj] at e;exact e.2) (by simpa [Kj] using hr) x (by simpa [Xe] using hx)
 | ⟨_,_,_,.row t cs l,_⟩::T,v::vs,gs,r::rs,⟨_,_,h3⟩,e,hr,x,hx=>Xm T vs gs rs h3 (by simp [Uj] at e;exact e.2) (by simpa [Kj] using hr) x (by simpa [Xe] using hx)
 | ⟨_,_,_,.row t cs l,_⟩::T,v::vs,gs,[],_,_,hr,x,hx=>by simp [Kj] at hr
 | ⟨_,_,_,.own t cs l,_⟩::T,v::vs,gs,r::rs,⟨h1,_,h3⟩,e,hr,x,hx=>by
  simp [Uj] at e
  rcases List.mem_cons.1 (show x∈r::Xe T rs from hx) with rfl | hx
  ·obtain ⟨g,hv,hat,_⟩:∃ g,v=.slice (some ⟨g,0,none⟩) l l∧b≤g∧At w g t cs:=h1
   rw [e.1] at hv
   cases hv
   exact hat
  ·exact Xm T vs gs rs h3 e.2 (by simpa [Kj] using hr) x hx
 | ⟨_,_,_,.own t cs l,_⟩::T,v::vs,gs,[],_,_,hr,x,hx=>by simp [Kj] at hr
 | ⟨_,_,_,.two n q st,_⟩::T,v::vs,gs,r::c::rs,⟨h1,_,h3⟩,e,hr,x,hx=>Xm T vs gs rs h3 (by simp [Uj] at e;exact e.2) (by simpa [Kj] using hr) x (by simpa [Xe] using hx)
 | ⟨_,_,_,.two n q st,_⟩::T,v::vs,gs,[_],_,_,hr,x,hx=>by simp [Kj] at hr
 | ⟨_,_,_,.two n q st,_⟩::T,v::vs,gs,[],_,_,hr,x,hx=>by simp [Kj] at hr
 | [],_::_,_,_,h,_,_,_,_=>h.elim
 | _::_,[],_,_,h,_,_,_,_=>h.elim
theorem Wm {b:Nat} {w:World}:∀ (T:List VC) (vs:List Value) (gs rs:List Nat),Jgh b w T vs→vs=(Uj T gs rs).map (·.2)→rs.length=Kj T→Jan w T rs
 | [],[],_,_,_,_,_=>trivial
 | ⟨_,_,_,.val _,_⟩::T,v::vs,gs,rs,⟨_,_,h3⟩,e,hr=>Wm T vs gs rs h3 (by simp [Uj] at e;exact e.2) (by simpa [Kj] using hr)
 | ⟨_,_,_,.cell _ _,_⟩::T,v::vs,g::gs,rs,⟨_,_,h3⟩,e,hr=>Wm T vs gs rs h3 (by simp [Uj] at e;exact e.2) (by simpa [Kj] using hr)
 | ⟨_,_,_,.cell _ _,_⟩::T,v::vs,[],rs,⟨_,_,h3⟩,e,hr=>Wm T vs [] rs h3 (by simp [Uj] at e;exact e.2) (by simpa [Kj] using hr)
 | ⟨_,_,_,.row t cs l,_⟩::T,v::vs,gs,r::rs,⟨_,_,h3⟩,e,hr=>Wm T vs gs rs h3 (by simp [Uj] at e;exact e.2) (by simpa [Kj] using hr)
 | ⟨_,_,_,.row t cs l,_⟩::T,v::vs,gs,[],_,_,hr=>by simp [Kj] at hr
 | ⟨_,_,_,.own t cs l,_⟩::T,v::vs,gs,r::rs,⟨_,_,h3⟩,e,hr=>Wm T vs gs rs h3 (by simp [Uj] at e;exact e.2) (by simpa [Kj] using hr)
 | ⟨_,_,_,.own t cs l,_⟩::T,v::vs,gs,[],_,_,hr=>by simp [Kj] at hr
 | ⟨_,_,_,.two n q st,_⟩::T,v::vs,gs,r::c::rs,⟨h1,_,h3⟩,e,hr=>by
  simp [Uj] at e
  refine ⟨?_,Wm T vs gs rs h3 e.2 (by simpa [Kj] using hr)⟩
  obtain ⟨g,cc,hv,hq⟩:∃ g c,v=.slice (some ⟨g,0,none⟩) n c∧q g c w:=h1
  rw [e.1] at hv
  cases hv
  exact hq
 | ⟨_,_,_,.two n q st,_⟩::T,v::vs,gs,[_],_,_,hr=>by simp [Kj] at hr
 | ⟨_,_,_,.two n q st,_⟩::T,v::vs,gs,[],_,_,hr=>by simp [Kj] at hr
 | [],_::_,_,_,h,_,_=>h.elim
 | _::_,[],_,_,h,_,_=>h.elim
theorem Mem.pick {n0:Nat} {w0 w:World} {M M2:List (Nat × TypeId × Array Value)} (H:Mem n0 w0 w M) (h:∀ x∈M2,x∈M) (hn:(M2.map (·.1)).Nodup):Mem n0 w0 w M2:=⟨H.le,H.bel,H.oth,fun x hx=>H.at_ x (h x hx),fun x hx=>H.own x (h x hx),hn⟩
theorem Mem.subl {n0:Nat} {w0 w:World} {M M2:List (Nat × TypeId × Array Value)} (H:Mem n0 w0 w M) (h:M2.Sublist M):Mem n0 w0 w M2:=H.pick (fun _ hx=>h.subset hx) ((h.map _).nodup H.nd)
theorem Mem.drop {n0:Nat} {w0 w:World} {M:List (Nat × TypeId × Array Value)} (k:Nat) (H:Mem n0 w0 w M):Mem n0 w0 w (M.drop k):=H.subl (List.drop_sublist k M)
theorem Mem.front {n0:Nat} {w0 w:World} {M M2:List (Nat × TypeId × Array Value)} (H:Mem n0 w0 w M) (k:Nat) {x:Nat × TypeId × Array Value} (hx:M[k]? = some x) (hM:x::M.eraseIdx k=M2):Mem n0 w0 w M2:=by
 subst hM
 obtain ⟨hk,rfl⟩:=List.getElem?_eq_some_iff.1 hx
 have hp:(M[k]::M.eraseIdx k).Perm M:=by
  have h1:=List.take_append_drop k M
  rw [List.drop_eq_getElem_cons hk] at h1
  rw [List.eraseIdx_eq_take_drop_succ]
  refine List.Perm.trans ?_ (List.Perm.of_eq h1)
  exact (List.perm_middle).symm
 exact H.pick (fun x hx=>hp.mem_iff.1 hx) ((hp.map _).nodup_iff.2 H.nd)
theorem Mem.erase {n0:Nat} {w0 w:World} {M M2:List (Nat × TypeId × Array Value)} (H:Mem n0 w0 w M) (k:Nat) (hM:M.eraseIdx k=M2):Mem n0 w0 w M2:=by subst hM;exact H.subl (List.eraseIdx_sublist M k)
theorem Mem.again {n0:Nat} {w0 w:World} {M:List (Nat × TypeId × Array Value)} (H:Mem n0 w0 w M):Mem n0 w w M:=⟨Nat.le_trans H.le H.bel.size,Below.refl _ _,KeepsOthers.refl _,H.at_,H.own,H.nd⟩
theorem Mem.join {n0:Nat} {w0 w w':World} {M M':List (Nat × TypeId × Array Value)} (H:Mem n0 w0 w M) (K:Mem n0 w w' M'):Mem n0 w0 w' M':=⟨H.le,H.bel.trans K.bel,H.oth.trans K.oth,K.at_,K.own,K.nd⟩
section
variable {P:Program} {ops:Array Oper} {Q:Exit→Act→World→Prop} {a:Act} {n0:Nat} {w w0:World} {rest:List Oper} {o:Oper} {N:Nat} {L:List (Nat × Value)} {df:List Deferred} {M:List (Nat × TypeId × Array Value)} {S:World→Prop} {fuel i:Nat} {listed:Array Bool}
theorem Jaq {d l:Nat} {cs:Array Value} {t:TypeId} (F:Fr a N L df) (H:Mem n0 w0 w M) (hw:Region.wanted o (yielded ops a.tmps)=true) (hdst:o.dst=some d) (hd:Nat.blt d N=true)
  (hr:(execOp a.eval o).run P w=.ok (.value (.slice (some ⟨w.heap.size,0,none⟩) l l)) (w.alloc (.cells cs t)))
  (h:∀ a' w' g,Fr a' N ((d,.slice (some ⟨g,0,none⟩) l l)::L) df→Mem n0 w0 w' ((g,t,cs)::M)→wpList P ops Q rest a' w'):wpList P ops Q (o::rest) a w:=
 Wz F hw hdst hd hr fun a' F'=>h a' _ _ F' (H.new cs t)
theorem Xo {d:Nat} {f:FuncId} {args:Array Value} {T:Value→World→Prop} (F:Fr a N L df) (hw:Region.wanted o (yielded ops a.tmps)=true) (hdst:o.dst=some d) (hd:Nat.blt d N=true)
  (hr:(execOp a.eval o).run P w=.ok (.enter f args) w) (C:Calls P f args w fun e w'=>∃ u,e=.returned u∧T u w')
  (h:∀ a' w' u,T u w'→Fr a' N ((d,u)::L) df→wpList P ops Q rest a' w'):wpList P ops Q (o::rest) a w:=by
 unfold wpList
 rw [if_pos hw]
 left
 unfold Oper.wp
 rw [hr,Oper.upon_enter]
 refine C.mono fun e w' ⟨u,he,hT⟩=>?_
 subst he
 show wpList P ops Q rest (a.put o.dst u) w'
 rw [hdst]
 exact h _ _ _ hT (F.put u hd)
theorem Ks {id:Nat} (H:Mem n0 w0 w M) (hS:∀ w',Mem n0 w0 w' M→S w') (hm:P.follows .mixedOrders=true)
  (h:∀ w',Mem n0 w0 w' M→Below w.heap.size w w'→wpAnyH P .any ops (NoPanic Q) S ops.size (Array.replicate ops.size false) a w'):(Code.region id ops true).wp P Q a w:=by
 refine wp_region_noPanic ?_
 exact wp_region_held_drew (S:=S) hm (hS _ H.drew) (fun _=>h _ H.drew (Below.refl _ _).drew)
theorem Kw (T:List VC) (fuel:Nat) (l0:Array Bool) (F:Fr a N L df) (H:Mem n0 w0 w M) (hS:∀ w',Mem n0 w0 w' M→S w')
  (hN:(T.map (·.d)).all (fun d=>Nat.ble (d+1) N)=true) {n:Nat} (hfuel:n=fuel+T.length)
  (hok:Jfy .any ops l0 (T.map (·.i)) (T.map (·.pre)) (T.map (·.pure))=true) (hnd:(T.map (·.d)).Nodup)
  (hops:∀ c∈T.map (VC.core w.heap.size),∃ o,ops[c.i]? = some o∧o.dst=some c.d) (hsel:Region.noSelect ops=true)
  (hpure:∀ c∈T.map (VC.core w.heap.size),Vg P ops S a w (T.map (VC.core w.heap.size)) c)
  (Jdm:∀ c∈T.map (VC.core w.heap.size),c.pure=false→Ve P ops (NoPanic Q) a w (T.map (VC.core w.heap.size)) c)
  (hend:∀ gs rs a' w',gs.length=Wg T→rs.length=Kj T→Fr a' N (Uj T gs rs++L) df→Mem n0 w0 w' (Up T gs++M)→Below w.heap.size w w'→(∀ x∈Vw T rs,At w' x.1 x.2.1 x.2.2)→(∀ x∈Xe T rs,w.heap.size≤x)→Jan w' T rs→wpAnyH P .any ops (NoPanic Q) S fuel (Jaz l0 (T.map (·.i)) (List.replicate T.length true)) a' w') :
  wpAnyH P .any ops (NoPanic Q) S n l0 a w:=by
 subst hfuel
 have c1:(T.map (VC.core w.heap.size)).map (·.i)=T.map (·.i):=by simp [VC.core]
 have c2:(T.map (VC.core w.heap.size)).map (·.d)=T.map (·.d):=by simp [VC.core]
 have c3:(T.map (VC.core w.heap.size)).map (·.pre)=T.map (·.pre):=by simp [VC.core]
 have c4:(T.map (VC.core w.heap.size)).map (·.pure)=T.map (·.pure):=by simp [VC.core]
 have hE:=Kf (P:=P) (md:=.any) (ops:=ops) (Q:=NoPanic Q) (S:=S) (T.map (VC.core w.heap.size)) l0 a w w fuel (by rw [c2];exact F.all hN) (by rw [c1,c3,c4];exact hok) (by rw [c2];exact hnd) hops
  (fun _ hb=>hS _ (H.on hb)) (Below.refl _ _) hsel (fun _ _ _ _ _ h=>h) hpure Jdm ?_
 ·rw [List.length_map] at hE
  exact hE
 ·intro vs w' hc
  rw [c1,c2,List.length_map]
  have hlay:=Jfm (b:=w.heap.size) (w:=w') T vs (by rw [hc.lv,List.length_map]) (fun k c hk=>hc.ok k (VC.core w.heap.size c) (by rw [List.getElem?_map,hk];rfl) (by rw [List.getElem?_replicate,if_pos (by simpa using (List.getElem?_eq_some_iff.1 hk).1)]))
   (fun k j c d hk hj hcn hdn hne=>hc.far k j (VC.core w.heap.size c) (VC.core w.heap.size d) (by rw [List.getElem?_map,hk];rfl) (by rw [List.getElem?_map,hj];rfl) hcn hdn hne (by rw [List.getElem?_replicate,if_pos (by simpa using (List.getElem?_eq_some_iff.1 hk).1)]) (by rw [List.getElem?_replicate,if_pos (by simpa using (List.getElem?_eq_some_iff.1 hj).1)]))
  obtain ⟨gs,rs,e1,e0,e2,e3,e4,e5,-⟩:=Xq T vs hlay
  have hM:=H.on hc.bel
  have hb:=Nat.le_trans H.le H.bel.size
  refine hend gs rs _ w' e1 e0 (F.over hnd hN (Uj T gs rs) (fun x hx=>?_) fun s v hs=>?_) ⟨hM.le,hM.bel,hM.oth,fun x hx=>?_,fun x hx=>?_,?_⟩ hc.bel (Wn T vs gs rs hlay e2 e0) (Xm T vs gs rs hlay e2 e0) (Wm T vs gs rs hlay e2 e0)
  ·obtain ⟨k,hk,rfl⟩:=List.getElem_of_mem hx
   refine ⟨k,?_,?_⟩
   ·rw [← Vo T gs rs,List.getElem?_map,List.getElem?_eq_getElem hk];rfl
   ·rw [e2,List.getElem?_map,List.getElem?_eq_getElem hk];rfl
  ·rcases Jfl _ _ _ _ hs with h | h
   ·exact Or.inl h
   ·right;rwa [Vo] at h
  ·rcases List.mem_append.1 hx with hx | hx
   ·exact e3 x hx
   ·exact hM.at_ x hx
  ·rcases List.mem_append.1 hx with hx | hx
   ·exact Nat.le_trans hb (e4 _ (Ux T gs x hx))
   ·exact hM.own x hx
  ·rw [List.map_append,List.nodup_append]
   refine ⟨Vy T gs e5,hM.nd,fun x hx y hy e=>?_⟩
   obtain ⟨z,hz,rfl⟩:=List.mem_map.1 hx
   obtain ⟨z',hz',rfl⟩:=List.mem_map.1 hy
   have h1:=e4 _ (Ux T gs z hz)
   have h2:=H.lt z' hz'
   omega
section
variable {cores:List Core} {W:World}
theorem coreG_callB (c:Core) (f:FuncId) (fn:Func) (code:Code) (xs:List Operand) (us:List Value) (tys:Array TypeId) (ty:TypeId) (pos:String) (after:Array Edge) (gd:Option (Nat × Bool)) (u:Value)
  (ho:ops[c.i]? = some ⟨some c.d,.call ⟨.value (.func f),xs.toArray,tys⟩,ty,pos,after,gd⟩) (hf:P.funcs[f]? = some fn) (hn:(fn.name == "runtime.NumGoroutine")=false) (hb:fn.body=some code)
  (hk:c.kind=Kind.val u) (hg:Jbs ops a cores c.pre gd true) (hx:Args a cores c.pre xs us)
  (C:∀ w,Below W.heap.size W w→Calls P f us.toArray w fun e w'=>e=.returned u∧Below w.heap.size w w'):Ve P ops Q a W cores c:=by
 intro vs w hl hbw hp o ho' K hK
 rw [ho] at ho'
 obtain rfl:=Option.some.inj ho'
 refine want_if (hg vs w hl hp _ rfl) ?_
 have hargs:xs.toArray.map (over a (cores.map (·.d)) vs).eval=us.toArray:=by
  rw [List.map_toArray]
  congr 1
  clear ho C ho'
  induction hx with
  | nil=>rfl
  | cons h _ ih=>rw [List.map_cons,h vs w hl hp,ih]
 have hrun:∀ w,(execOp (over a (cores.map (·.d)) vs).eval ⟨some c.d,.call ⟨.value (.func f),xs.toArray,tys⟩,ty,pos,after,gd⟩).run P w=.ok (.enter f us.toArray) w:=fun w=>by
  have h:=Vp hf hn hb us.toArray w
  simp only [execOp,resolve,hargs]
  simpa [Act.eval,Deferred.ofValue,invoke,go_sem] using h
 unfold Oper.wp
 rw [hrun w,Oper.upon_enter]
 refine (C w hbw).mono fun e w' ⟨he,hb⟩=>?_
 subst he
 exact hK.out u w' hb (by rw [hk];exact rfl) (fun h=>by rw [hk] at h;cases h)
end
theorem sx_call1 {d:Nat} {f:FuncId} {args:Array Value} {T:Value→World→Prop} {o:Oper} (F:Fr a N L df) (hr:Region.ready .any ops listed=[i]) (ho:ops[i]? = some o) (hg:o.guard=none) (hdst:o.dst=some d) (hd:Nat.blt d N=true)
  (hrun:(execOp a.eval o).run P w=.ok (.enter f args) w) (C:Calls P f args w fun e w'=>∃ u,e=.returned u∧T u w') (hS:∀ u w',T u w'→S w')
  (h:∀ a' w' u,T u w'→Fr a' N ((d,u)::L) df→wpAnyH P .any ops Q S fuel (listed.setIfInBounds i true) a' w'):wpAnyH P .any ops Q S (fuel+1) listed a w:=by
 refine Wh hr ho fun K hK=>Ub hg ?_
 unfold Oper.wp
 rw [hrun,Oper.upon_enter]
 refine C.mono fun e w' ⟨u,he,hT⟩=>?_
 subst he
 rw [hdst]
 exact hK.out _ _ (hS _ _ hT) (h _ _ _ hT (F.put u hd))
end
end Go.Proofs.Ytcbnmdkmfdjpiaa
