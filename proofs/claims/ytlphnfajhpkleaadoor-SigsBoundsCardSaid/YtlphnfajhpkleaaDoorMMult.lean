/-
 Function values among the operations of a region that draws its order;a call that writes one block that was there.
-/
import Derived.Laws.EntriesVeiled
import Derived.Test.YtlphnfajhpkleaaDoorMCell
import Derived.Test.YtlphnfajhpkleaaDoorMMod1
namespace Go.Proofs.YtlphnfajhpkleaaDoor
set_option maxRecDepth 100000
open Go.RowKit
set_option linter.unusedSimpArgs false
set_option linter.unusedVariables false
attribute [local go_sem ↓] Go.wp_at_zero Go.wp_at_succ

section
variable {P:Program} {ops:Array Oper} {Q:Exit→Act→World→Prop} {md:Region.Mode} {S:World→Prop} {a:Act} {W:World} {cores:List Core}
theorem run_value {f:FuncId} {fn:Func} {c:Code} (hf:P.funcs[f]? = some fn) (hname:(fn.name == "runtime.NumGoroutine")=false) (hb:fn.body=some c) (x:Operand) (xs:Array Operand) (tys:Array TypeId) (dst:Option Tmp) (ty:TypeId) (pos:String) (after:Array Edge) (gd:Option (Nat × Bool))
  (cap:Array Value) (ρ:Operand→Value) (hx:ρ x=.func (.func f) #[] cap) (w:World) :
  (execOp ρ ⟨dst,.call ⟨.value x,xs,tys⟩,ty,pos,after,gd⟩).run P w=.ok (.enter f (xs.map ρ++cap)) w:=by
 have h:=run_enter hf hname hb (xs.map ρ++cap) w
 simp only [execOp,resolve,hx]
 simpa [Deferred.ofValue,invoke,go_sem] using h
theorem core_callV (c:Core) (f:FuncId) (fn:Func) (code:Code) (x:Operand) (cap:Array Value) (xs:List Operand) (us:List Value) (tys:Array TypeId) (ty:TypeId) (pos:String) (after:Array Edge) (u:Value) (args:Array Value)
  (ho:ops[c.i]? = some ⟨some c.d,.call ⟨.value x,xs.toArray,tys⟩,ty,pos,after,none⟩) (hf:P.funcs[f]? = some fn) (hn:(fn.name == "runtime.NumGoroutine")=false) (hb:fn.body=some code)
  (hk:c.kind=Kind.val u) (hfx:Known a cores c.pre x (.func (.func f) #[] cap)) (hx:Args a cores c.pre xs us) (hall:us.toArray++cap=args)
  (C:∀ w,Below W.heap.size W w→Calls P f args w fun e w'=>e=.returned u∧Below w.heap.size w w'):StepOK P ops Q a W cores c:=by
 intro vs w hl hbw hp o ho' K hK
 rw [ho] at ho'
 obtain rfl:=Option.some.inj ho'
 refine want_none rfl ?_
 have hargs:xs.toArray.map (over a (cores.map (·.d)) vs).eval=us.toArray:=by
  rw [List.map_toArray]
  congr 1
  clear ho C ho' hall
  induction hx with
  | nil=>rfl
  | cons h _ ih=>rw [List.map_cons,h vs w hl hp,ih]
 have hrun:=run_value hf hn hb x xs.toArray tys (some c.d) ty pos after none cap (over a (cores.map (·.d)) vs).eval (hfx vs w hl hp) w
 rw [hargs,hall] at hrun
 unfold Oper.wp
 rw [hrun,Oper.upon_enter]
 refine (C w hbw).mono fun e w' ⟨he,hb⟩=>?_
 subst he
 exact hK.out u w' hb (by rw [hk];exact rfl) (fun h=>by rw [hk] at h;cases h)
/-- an operation that reads memory of which S tells -/
theorem core_held (c:Core) (op:Op) (ty:TypeId) (pos:String) (after:Array Edge) (u:Value) (x:Operand) (xv:Value)
  (ho:ops[c.i]? = some ⟨some c.d,op,ty,pos,after,none⟩) (hk:c.kind=Kind.val u) (hx:Known a cores c.pre x xv)
  (h:∀ (ρ:Operand→Value) (w:World),ρ x=xv→S w→(execOp ρ ⟨some c.d,op,ty,pos,after,none⟩).run P w=.ok (.value u) w):PureOK P ops S a W cores c:=by
 intro _
 refine ⟨by rw [hk];rfl,fun vs w hl _ hp o ho'=>?_⟩
 rw [ho] at ho'
 obtain rfl:=Option.some.inj ho'
 exact ⟨u,by rw [hk];exact rfl,Or.inl ⟨rfl,fun w' hS=>h _ w' (hx vs w hl hp) hS⟩⟩
end

/-- all that was there stays,but block g;the world may have grown -/
structure Kept (g:Nat) (w w':World):Prop where
 os:w'.os=w.os
 tape:w'.tape=w.tape
 output:w'.output=w.output
 size:w.heap.size≤w'.heap.size
 block:∀ k,k<w.heap.size→k≠g→w'.heap[k]? = w.heap[k]?
theorem Kept.ofBelow {g:Nat} {w w':World} (h:Below w.heap.size w w'):Kept g w w':=⟨h.os,h.tape,h.output,h.size,fun k hk _=>h.block k hk⟩
theorem Kept.trans {g:Nat} {a b c:World} (h:Kept g a b) (k:Kept g b c):Kept g a c:=
 ⟨k.os.trans h.os,k.tape.trans h.tape,k.output.trans h.output,Nat.le_trans h.size k.size,fun i hi hg=>(k.block i (Nat.lt_of_lt_of_le hi h.size) hg).trans (h.block i hi hg)⟩
theorem Kept.put4 (w:World) (g:Nat) (a b c d:Value):Kept g w (put4 w g a b c d):=by
 have one:∀ (w:World) (i:Nat) (v:Value),Kept g w (w.setCell ⟨g,i,none⟩ v):=fun w i v=>
  ⟨rfl,rfl,rfl,by simp [World.setCell],fun k hk hg=>by simp [World.setCell,Array.getElem?_modify,Ne.symm hg]⟩
 unfold Go.Proofs.YtlphnfajhpkleaaDoor.put4
 exact (((one w 0 a).trans (one _ 1 b)).trans (one _ 2 c)).trans (one _ 3 d)
theorem At.kept {w w':World} {g b:Nat} {t:TypeId} {cs:Array Value} (h:At w b t cs) (k:Kept g w w') (hne:b≠g):At w' b t cs:=(k.block b h.lt hne).trans h
theorem Below.kept {n g:Nat} {W w w':World} (h:Below n W w) (hn:n≤W.heap.size) (k:Kept g w w') (hg:n≤g):Below n W w':=
 ⟨k.os.trans h.os,k.tape.trans h.tape,k.output.trans h.output,Nat.le_trans h.size k.size,fun i hi=>(k.block i (Nat.lt_of_lt_of_le hi (Nat.le_trans hn h.size)) (by omega)).trans (h.block i hi)⟩
theorem At.put3 {w:World} {g:Nat} {t:TypeId} {a b c:Value} (h:At w g t #[a,b,c]) (a' b' c':Value):At (((w.setCell ⟨g,0,none⟩ a').setCell ⟨g,1,none⟩ b').setCell ⟨g,2,none⟩ c') g t #[a',b',c']:=by
 have:=((h.set 0 a').set 1 b').set 2 c'
 simpa using this
theorem At.far3 {w:World} {g p:Nat} {t:TypeId} {cs:Array Value} (h:At w g t cs) (hne:g≠p) (a' b' c':Value):At (((w.setCell ⟨p,0,none⟩ a').setCell ⟨p,1,none⟩ b').setCell ⟨p,2,none⟩ c') g t cs:=
 ((h.far (p:=⟨p,0,none⟩) hne.symm a').far (p:=⟨p,1,none⟩) hne.symm b').far (p:=⟨p,2,none⟩) hne.symm c'
theorem At.put8 {w:World} {g:Nat} {t:TypeId} {a b c d e f i j:Value} (h:At w g t #[a,b,c,d,e,f,i,j]) (a' b' c' d' e' f' i' j':Value) :
  At ((((((((w.setCell ⟨g,0,none⟩ a').setCell ⟨g,1,none⟩ b').setCell ⟨g,2,none⟩ c').setCell ⟨g,3,none⟩ d').setCell ⟨g,4,none⟩ e').setCell ⟨g,5,none⟩ f').setCell ⟨g,6,none⟩ i').setCell ⟨g,7,none⟩ j') g t #[a',b',c',d',e',f',i',j']:=by
 have:=(((((((h.set 0 a').set 1 b').set 2 c').set 3 d').set 4 e').set 5 f').set 6 i').set 7 j'
 simpa using this
theorem At.far8 {w:World} {g p:Nat} {t:TypeId} {cs:Array Value} (h:At w g t cs) (hne:g≠p) (a' b' c' d' e' f' i' j':Value) :
  At ((((((((w.setCell ⟨p,0,none⟩ a').setCell ⟨p,1,none⟩ b').setCell ⟨p,2,none⟩ c').setCell ⟨p,3,none⟩ d').setCell ⟨p,4,none⟩ e').setCell ⟨p,5,none⟩ f').setCell ⟨p,6,none⟩ i').setCell ⟨p,7,none⟩ j') g t cs:=
 (((((((h.far (p:=⟨p,0,none⟩) hne.symm a').far (p:=⟨p,1,none⟩) hne.symm b').far (p:=⟨p,2,none⟩) hne.symm c').far (p:=⟨p,3,none⟩) hne.symm d').far (p:=⟨p,4,none⟩) hne.symm e').far (p:=⟨p,5,none⟩) hne.symm f').far (p:=⟨p,6,none⟩) hne.symm i').far (p:=⟨p,7,none⟩) hne.symm j'
/-- a value that lies in one cell of a function's type is loaded -/
theorem loadF_run (dst:Option Tmp) (ty:TypeId) (pos:String) (after:Array Edge) (gd:Option (Nat × Bool)) (x:Operand) (ρ:Operand→Value) (w:World) (g k:Nat) (u:Value) (hx:ρ x=.pointer (some ⟨g,k,none⟩)) (h:w.cell? ⟨g,k,none⟩=some u) :
  (execOp ρ ⟨dst,.load 73 x,ty,pos,after,gd⟩).run Tryd.prog w=.ok (.value u) w:=by
 simp [execOp,hx,go_sem,h]
theorem loadF1_run (dst:Option Tmp) (ty:TypeId) (pos:String) (after:Array Edge) (gd:Option (Nat × Bool)) (x:Operand) (ρ:Operand→Value) (w:World) (g k:Nat) (u:Value) (hx:ρ x=.pointer (some ⟨g,k,none⟩)) (h:w.cell? ⟨g,k,none⟩=some u) :
  (execOp ρ ⟨dst,.load 51 x,ty,pos,after,gd⟩).run Tryd.prog w=.ok (.value u) w:=by
 simp [execOp,hx,go_sem,h]
theorem fieldWay0 (dst:Option Tmp) (ty:TypeId) (pos:String) (after:Array Edge) (gd:Option (Nat × Bool)) (x:Operand) (ρ:Operand→Value) (w:World) (g:Nat) (hx:ρ x=.pointer (some ⟨g,0,none⟩)) :
  (execOp ρ ⟨dst,.fieldAddr 75 x 0,ty,pos,after,gd⟩).run Tryd.prog w=.ok (.value (.pointer (some ⟨g,0,none⟩))) w:=by
 simp [execOp,hx,go_sem]
end Go.Proofs.YtlphnfajhpkleaaDoor

/-
 Blocks of mods.multiple,eight words: the same rules.
-/
namespace Go.Proofs.YtlphnfajhpkleaaDoor
set_option maxRecDepth 100000
open Go.RowKit
set_option linter.unusedSimpArgs false
set_option linter.unusedVariables false
attribute [local go_sem ↓] Go.wp_at_zero Go.wp_at_succ

def put8 (w:World) (g:Nat) (a b c d e f i j:Value):World:=((((((((w.setCell ⟨g,0,none⟩ a).setCell ⟨g,1,none⟩ b).setCell ⟨g,2,none⟩ c).setCell ⟨g,3,none⟩ d).setCell ⟨g,4,none⟩ e).setCell ⟨g,5,none⟩ f).setCell ⟨g,6,none⟩ i).setCell ⟨g,7,none⟩ j)
theorem put8_at {w:World} {g:Nat} {t:TypeId} {u0 u1 u2 u3 u4 u5 u6 u7:Value} (h:At w g t #[u0,u1,u2,u3,u4,u5,u6,u7]) (a b c d e f i j:Value):At (put8 w g a b c d e f i j) g t #[a,b,c,d,e,f,i,j]:=h.put8 _ _ _ _ _ _ _ _
theorem put8_far {w:World} {g g':Nat} {t:TypeId} {cs:Array Value} (h:At w g t cs) (hne:g≠g') (a b c d e f i j:Value):At (put8 w g' a b c d e f i j) g t cs:=h.far8 hne _ _ _ _ _ _ _ _
theorem put8_below {W w:World} {n g:Nat} (h:Below n W w) (hg:n≤g) (a b c d e f i j:Value):Below n W (put8 w g a b c d e f i j):=
 (((((((h.setCell hg _).setCell hg _).setCell hg _).setCell hg _).setCell hg _).setCell hg _).setCell hg _).setCell hg _
theorem store_runM (x y:Operand) (dst:Option Tmp) (ty:TypeId) (pos:String) (after:Array Edge) (guard:Option (Nat × Bool)) (ρ:Operand→Value) (w:World) (g:Nat) (u0 u1 u2 u3 u4 u5 u6 u7:Value) (a b c d e f i j:Int)
  (hx:ρ x=.pointer (some ⟨g,0,none⟩)) (hy:ρ y=.agg #[.int .u64 a,.int .u64 b,.int .u64 c,.int .u64 d,.int .u64 e,.int .u64 f,.int .u64 i,.int .u64 j]) (h:At w g 88 #[u0,u1,u2,u3,u4,u5,u6,u7]) :
  (execOp ρ ⟨dst,.store 88 x y,ty,pos,after,guard⟩).run Tryd.prog w=.ok .skip (put8 w g (.int .u64 a) (.int .u64 b) (.int .u64 c) (.int .u64 d) (.int .u64 e) (.int .u64 f) (.int .u64 i) (.int .u64 j)):=by
 have c0:w.cell? ⟨g,0,none⟩=some u0:=h.cell 0
 have c1:w.cell? ⟨g,1,none⟩=some u1:=h.cell 1
 have c2:w.cell? ⟨g,2,none⟩=some u2:=h.cell 2
 have c3:w.cell? ⟨g,3,none⟩=some u3:=h.cell 3
 have c4:w.cell? ⟨g,4,none⟩=some u4:=h.cell 4
 have c5:w.cell? ⟨g,5,none⟩=some u5:=h.cell 5
 have c6:w.cell? ⟨g,6,none⟩=some u6:=h.cell 6
 have c7:w.cell? ⟨g,7,none⟩=some u7:=h.cell 7
 have f0:w.frozen? ⟨g,0,none⟩=false:=h.frozen 0
 have f1:w.frozen? ⟨g,1,none⟩=false:=h.frozen 1
 have f2:w.frozen? ⟨g,2,none⟩=false:=h.frozen 2
 have f3:w.frozen? ⟨g,3,none⟩=false:=h.frozen 3
 have f4:w.frozen? ⟨g,4,none⟩=false:=h.frozen 4
 have f5:w.frozen? ⟨g,5,none⟩=false:=h.frozen 5
 have f6:w.frozen? ⟨g,6,none⟩=false:=h.frozen 6
 have f7:w.frozen? ⟨g,7,none⟩=false:=h.frozen 7
 unfold put8
 simp [execOp,hx,hy,go_sem,c0,c1,c2,c3,c4,c5,c6,c7,f0,f1,f2,f3,f4,f5,f6,f7]
theorem load_runM (x:Operand) (dst:Option Tmp) (ty:TypeId) (pos:String) (after:Array Edge) (guard:Option (Nat × Bool)) (ρ:Operand→Value) (w:World) (g:Nat) (u0 u1 u2 u3 u4 u5 u6 u7:Value)
  (hx:ρ x=.pointer (some ⟨g,0,none⟩)) (h:At w g 88 #[u0,u1,u2,u3,u4,u5,u6,u7]) :
  (execOp ρ ⟨dst,.load 88 x,ty,pos,after,guard⟩).run Tryd.prog w=.ok (.value (.agg #[u0,u1,u2,u3,u4,u5,u6,u7])) w:=by
 have c0:w.cell? ⟨g,0,none⟩=some u0:=h.cell 0
 have c1:w.cell? ⟨g,1,none⟩=some u1:=h.cell 1
 have c2:w.cell? ⟨g,2,none⟩=some u2:=h.cell 2
 have c3:w.cell? ⟨g,3,none⟩=some u3:=h.cell 3
 have c4:w.cell? ⟨g,4,none⟩=some u4:=h.cell 4
 have c5:w.cell? ⟨g,5,none⟩=some u5:=h.cell 5
 have c6:w.cell? ⟨g,6,none⟩=some u6:=h.cell 6
 have c7:w.cell? ⟨g,7,none⟩=some u7:=h.cell 7
 simp [execOp,hx,go_sem,c0,c1,c2,c3,c4,c5,c6,c7]
theorem alloc_runM (dst:Option Tmp) (ty:TypeId) (pos:String) (after:Array Edge) (guard:Option (Nat × Bool)) (ρ:Operand→Value) (w:World) :
  (execOp ρ ⟨dst,.alloc 88,ty,pos,after,guard⟩).run Tryd.prog w=.ok (.value (.pointer (some ⟨w.heap.size,0,none⟩))) (w.alloc (.cells #[.int .u64 0,.int .u64 0,.int .u64 0,.int .u64 0,.int .u64 0,.int .u64 0,.int .u64 0,.int .u64 0] 88)):=by
 simp [execOp,go_sem]
theorem fieldM0 (x:Operand) (dst:Option Tmp) (ty:TypeId) (pos:String) (after:Array Edge) (guard:Option (Nat × Bool)) (ρ:Operand→Value) (w:World) (g:Nat) (hx:ρ x=.pointer (some ⟨g,0,none⟩)) :
  (execOp ρ ⟨dst,.fieldAddr 88 x 0,ty,pos,after,guard⟩).run Tryd.prog w=.ok (.value (.pointer (some ⟨g,0,none⟩))) w:=by
 simp [execOp,hx,go_sem]
theorem loadM0 (x:Operand) (dst:Option Tmp) (ty:TypeId) (pos:String) (after:Array Edge) (guard:Option (Nat × Bool)) (ρ:Operand→Value) (w:World) (g:Nat) (u0 u1 u2 u3 u4 u5 u6 u7:Value) (hx:ρ x=.pointer (some ⟨g,0,none⟩)) (h:At w g 88 #[u0,u1,u2,u3,u4,u5,u6,u7]) :
  (execOp ρ ⟨dst,.load 24 x,ty,pos,after,guard⟩).run Tryd.prog w=.ok (.value (.agg #[u0,u1,u2,u3])) w:=by
 have c0:w.cell? ⟨g,0,none⟩=some u0:=h.cell 0
 have c1:w.cell? ⟨g,1,none⟩=some u1:=h.cell 1
 have c2:w.cell? ⟨g,2,none⟩=some u2:=h.cell 2
 have c3:w.cell? ⟨g,3,none⟩=some u3:=h.cell 3
 have c4:w.cell? ⟨g,4,none⟩=some u4:=h.cell 4
 have c5:w.cell? ⟨g,5,none⟩=some u5:=h.cell 5
 have c6:w.cell? ⟨g,6,none⟩=some u6:=h.cell 6
 have c7:w.cell? ⟨g,7,none⟩=some u7:=h.cell 7
 simp [execOp,hx,go_sem,c0,c1,c2,c3,c4,c5,c6,c7]
theorem build1 (x:Operand) (dst:Option Tmp) (ty:TypeId) (pos:String) (after:Array Edge) (guard:Option (Nat × Bool)) (ρ:Operand→Value) (w:World) (a b c d:Int) (hx:ρ x=.agg #[.int .u64 a,.int .u64 b,.int .u64 c,.int .u64 d]) :
  (execOp ρ ⟨dst,.build 88 #[(0,x)],ty,pos,after,guard⟩).run Tryd.prog w=.ok (.value (.agg #[.int .u64 a,.int .u64 b,.int .u64 c,.int .u64 d,.int .u64 0,.int .u64 0,.int .u64 0,.int .u64 0])) w:=by
 simp [execOp,hx,go_sem]
theorem build2 (x y:Operand) (dst:Option Tmp) (ty:TypeId) (pos:String) (after:Array Edge) (guard:Option (Nat × Bool)) (ρ:Operand→Value) (w:World) (a b c d e f i j:Int) (hx:ρ x=.agg #[.int .u64 a,.int .u64 b,.int .u64 c,.int .u64 d]) (hy:ρ y=.agg #[.int .u64 e,.int .u64 f,.int .u64 i,.int .u64 j]) :
  (execOp ρ ⟨dst,.build 88 #[(0,x),(1,y)],ty,pos,after,guard⟩).run Tryd.prog w=.ok (.value (.agg #[.int .u64 a,.int .u64 b,.int .u64 c,.int .u64 d,.int .u64 e,.int .u64 f,.int .u64 i,.int .u64 j])) w:=by
 simp [execOp,hx,hy,go_sem]
section
variable {P:Program} {ops:Array Oper} {Q:Exit→Act→World→Prop} {md:Region.Mode} {S:World→Prop} {a:Act} {W:World} {cores:List Core}
theorem core_loadM (c:Core) (x:Operand) (ty:TypeId) (pos:String) (after:Array Edge) (g:Nat) (u0 u1 u2 u3 u4 u5 u6 u7:Value)
  (ho:ops[c.i]? = some ⟨some c.d,.load 88 x,ty,pos,after,none⟩) (hk:c.kind=Kind.val (.agg #[u0,u1,u2,u3,u4,u5,u6,u7])) (hx:Known a cores c.pre x (.pointer (some ⟨g,0,none⟩)))
  (hg:At W g 88 #[u0,u1,u2,u3,u4,u5,u6,u7]):StepOK Tryd.prog ops Q a W cores c:=by
 intro vs w hl hb hp o ho' K hK
 rw [ho] at ho'
 obtain rfl:=Option.some.inj ho'
 refine want_none rfl (wp_of_run_value (load_runM x _ ty pos after none _ w g u0 u1 u2 u3 u4 u5 u6 u7 (hx vs w hl hp) (hg.on hb)) ?_)
 exact hK.out _ w (Below.refl _ _) (by rw [hk];exact rfl) (fun h=>by rw [hk] at h;cases h)
theorem core_allocM (c:Core) (n:Nat) (ty:TypeId) (pos:String) (after:Array Edge)
  (ho:ops[c.i]? = some ⟨some c.d,.alloc 88,ty,pos,after,none⟩) (hk:c.kind=Kind.cell n 88 #[.int .u64 0,.int .u64 0,.int .u64 0,.int .u64 0,.int .u64 0,.int .u64 0,.int .u64 0,.int .u64 0]) (hn:n≤W.heap.size):StepOK Tryd.prog ops Q a W cores c:=by
 intro vs w hl hb hp o ho' K hK
 rw [ho] at ho'
 obtain rfl:=Option.some.inj ho'
 refine want_none rfl (wp_of_run_value (alloc_runM _ ty pos after none _ w) ?_)
 exact hK.out _ _ (gr_alloc (Below.refl _ _) _) (by rw [hk];exact ⟨_,rfl,Nat.le_trans hn hb.size,At.new _ _ _⟩) (fun _=>⟨rfl,by simp⟩)
theorem store_oneM {fuel i:Nat} {listed:Array Bool} {b:Act} {w:World} (x y:Operand) (ty:TypeId) (pos:String) (after:Array Edge) (g:Nat) (u0 u1 u2 u3 u4 u5 u6 u7:Value) (k0 k1 k2 k3 k4 k5 k6 k7:Int)
  (hr:Region.ready md ops listed=[i]) (ho:ops[i]? = some ⟨none,.store 88 x y,ty,pos,after,none⟩) (hx:b.eval x=.pointer (some ⟨g,0,none⟩))
  (hy:b.eval y=.agg #[.int .u64 k0,.int .u64 k1,.int .u64 k2,.int .u64 k3,.int .u64 k4,.int .u64 k5,.int .u64 k6,.int .u64 k7]) (hg:At w g 88 #[u0,u1,u2,u3,u4,u5,u6,u7]) (hS:S (put8 w g (.int .u64 k0) (.int .u64 k1) (.int .u64 k2) (.int .u64 k3) (.int .u64 k4) (.int .u64 k5) (.int .u64 k6) (.int .u64 k7)))
  (h:wpAnyH Tryd.prog md ops Q S fuel (listed.setIfInBounds i true) b (put8 w g (.int .u64 k0) (.int .u64 k1) (.int .u64 k2) (.int .u64 k3) (.int .u64 k4) (.int .u64 k5) (.int .u64 k6) (.int .u64 k7))):wpAnyH Tryd.prog md ops Q S (fuel+1) listed b w:=
 wpAnyH_one hr ho fun K hK=>want_none rfl (wp_of_run_skip (store_runM x y _ ty pos after none _ w g u0 u1 u2 u3 u4 u5 u6 u7 k0 k1 k2 k3 k4 k5 k6 k7 hx hy hg) (hK.out _ _ hS h))
/-- an operation of two operands that reads memory of which S tells -/
theorem core_held2 (c:Core) (op:Op) (ty:TypeId) (pos:String) (after:Array Edge) (u:Value) (x y:Operand) (xv yv:Value)
  (ho:ops[c.i]? = some ⟨some c.d,op,ty,pos,after,none⟩) (hk:c.kind=Kind.val u) (hx:Known a cores c.pre x xv) (hy:Known a cores c.pre y yv)
  (h:∀ (ρ:Operand→Value) (w:World),ρ x=xv→ρ y=yv→S w→(execOp ρ ⟨some c.d,op,ty,pos,after,none⟩).run P w=.ok (.value u) w):PureOK P ops S a W cores c:=by
 intro _
 refine ⟨by rw [hk];rfl,fun vs w hl _ hp o ho'=>?_⟩
 rw [ho] at ho'
 obtain rfl:=Option.some.inj ho'
 exact ⟨u,by rw [hk];exact rfl,Or.inl ⟨rfl,fun w' hS=>h _ w' (hx vs w hl hp) (hy vs w hl hp) hS⟩⟩
end
end Go.Proofs.YtlphnfajhpkleaaDoor
