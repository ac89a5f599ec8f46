/-
 Function values,arrays of them,and reasons,one rule each.
-/
import Derived.Deep.Cut
import Derived.RangeFuncNested
import Derived.RangeFuncLeaves
import Derived.TacticsIn
import Derived.OwnWalkIn
import Derived.Test.YtlphnfajhpkleaaDoorMApp
import Derived.Test.YtlphnfajhpkleaaDoorMGInvT
import Derived.Test.YtlphnfajhpkleaaDoorMSmall
namespace Go.Proofs.YtlphnfajhpkleaaDoor
set_option maxRecDepth 100000
open Go.RowKit
set_option linter.unusedSimpArgs false
set_option linter.unusedVariables false
attribute [local go_sem ↓] Go.wp_at_zero Go.wp_at_succ

abbrev rcs (N Y:Nat) (s:Value):Array Value:=#[.int .u64 (wd N 0:Nat),.int .u64 (wd N 1:Nat),.int .u64 (wd N 2:Nat),.int .u64 (wd N 3:Nat),.int .u64 (wd Y 0:Nat),.int .u64 (wd Y 1:Nat),.int .u64 (wd Y 2:Nat),.int .u64 (wd Y 3:Nat),s]
theorem ex_thenE {Q:Exit→Act→World→Prop} {K:Act→World→Prop} {i:Nat} {a:Act} {w:World} (h:Q (.exit i) a w):Exit.then K Q (.exit i) a w:=h
theorem ex_blockE {Q:Exit→Act→World→Prop} {i:Nat} {a:Act} {w:World} (h:Q .normal a w):Exit.inBlock i Q (.exit i) a w:=by simp only [Exit.inBlock,if_true];exact h
section
variable {x y z:Operand} {dst:Option Tmp} {ty:TypeId} {pos:String} {after:Array Edge} {guard:Option (Nat × Bool)} {ρ:Operand→Value} {w:World} {g o:Nat} {P:Program}
theorem o_mk3 {f:FuncId} {u v t:Value} (hx:ρ x=u) (hy:ρ y=v) (hz:ρ z=t):(execOp ρ ⟨dst,.makeFunc (.func f) #[] #[x,y,z],ty,pos,after,guard⟩).run P w=.ok (.value (.func (.func f) #[] #[u,v,t])) w:=by simp [execOp,hx,hy,hz,go_sem]
theorem o_buildG {x0 x1 x2 x3:Operand} {P Q G H:Nat} (h0:ρ x0=num P) (h1:ρ x1=num Q) (h2:ρ x2=num G) (h3:ρ x3=num H):(execOp ρ ⟨dst,.build 26 #[(0,x0),(1,x1),(2,x2),(3,x3)],ty,pos,after,guard⟩).run Tryd.prog w=.ok (.value (grp P Q G H)) w:=by simp [execOp,h0,h1,h2,h3,go_sem]
end
end Go.Proofs.YtlphnfajhpkleaaDoor

/-
 The same rules inside a round of a range over a function.
-/
namespace Go.Proofs.YtlphnfajhpkleaaDoor
set_option maxRecDepth 100000
open Go.RowKit
set_option linter.unusedSimpArgs false
set_option linter.unusedVariables false

/-- the fence of a round -/
abbrev RW (l:Nat):Fence:=Fence.wide.inRound l
section
variable {P:Program} {ops:Array Oper} {Q:Exit→Act→World→Prop} {a:Act} {n0:Nat} {w w0:World} {rest:List Oper} {o:Oper} {N:Nat} {L:List (Nat × Value)} {df:List Deferred} {M:List (Nat × TypeId × Array Value)} {l n:Nat}
theorem lr_value {d:Nat} {v:Value} {w':World} (F:Fr a N L df) (hD:∀ c,o.op≠.defer c) (hw:Region.wanted o (yielded ops a.tmps)=true) (hdst:o.dst=some d) (hd:Nat.blt d N=true) (hr:(execOp a.eval o).run P w=.ok (.value v) w')
  (h:∀ a',Fr a' N ((d,v)::L) df→wpListIn (RW l) n P ops Q rest a' w'):wpListIn (RW l) n P ops Q (o::rest) a w:=by
 unfold wpListIn
 rw [if_pos hw]
 refine ⟨fun _ _=>trivial,?_⟩
 rw [Oper.semAt_eq _ _ _ hD,hr]
 show wpListIn (RW l) n P ops Q rest (a.put o.dst v) w'
 rw [hdst]
 exact h _ (F.put v hd)
theorem lr_new {d:Nat} {cs:Array Value} {t:TypeId} (F:Fr a N L df) (H:Mem n0 w0 w M) (hD:∀ c,o.op≠.defer c) (hw:Region.wanted o (yielded ops a.tmps)=true) (hdst:o.dst=some d) (hd:Nat.blt d N=true)
  (hr:(execOp a.eval o).run P w=.ok (.value (.pointer (some ⟨w.heap.size,0,none⟩))) (w.alloc (.cells cs t)))
  (h:∀ a' w' g,Fr a' N ((d,.pointer (some ⟨g,0,none⟩))::L) df→Mem n0 w0 w' ((g,t,cs)::M)→wpListIn (RW l) n P ops Q rest a' w'):wpListIn (RW l) n P ops Q (o::rest) a w:=
 lr_value F hD hw hdst hd hr fun a' F'=>h a' _ _ F' (H.new cs t)
theorem lr_store {k g i:Nat} {t:TypeId} {cs:Array Value} {vs:List Value} (F:Fr a N L df) (H:Mem n0 w0 w M) (hD:∀ c,o.op≠.defer c) (hw:Region.wanted o (yielded ops a.tmps)=true) (hdst:o.dst=none) (hk:M[k]? = some (g,t,cs))
  (hr:(execOp a.eval o).run P w=.ok .skip (puts w g i vs)) {M2:List (Nat × TypeId × Array Value)} (hM:M.set k (g,t,sets cs i vs)=M2)
  (h:∀ w',Mem n0 w0 w' M2→wpListIn (RW l) n P ops Q rest a w'):wpListIn (RW l) n P ops Q (o::rest) a w:=by
 subst hM
 unfold wpListIn
 rw [if_pos hw]
 refine ⟨fun _ _=>trivial,?_⟩
 rw [Oper.semAt_eq _ _ _ hD,hr]
 show wpListIn (RW l) n P ops Q rest (a.put o.dst undef) _
 rw [hdst]
 exact h _ (Mem.puts vs H hk i)
theorem lr_call {d:Nat} {f:FuncId} {args:Array Value} {u:Value} {T:World→Prop} (F:Fr a N L df) (hD:∀ c,o.op≠.defer c) (hw:Region.wanted o (yielded ops a.tmps)=true) (hdst:o.dst=some d) (hd:Nat.blt d N=true)
  (hr:(execOp a.eval o).run P w=.ok (.enter f args) w) (C:Calls P f args w fun e w'=>e=.returned u∧T w')
  (h:∀ a' w',T w'→Fr a' N ((d,u)::L) df→wpListIn (RW l) n P ops Q rest a' w'):wpListIn (RW l) n P ops Q (o::rest) a w:=by
 unfold wpListIn
 rw [if_pos hw]
 refine ⟨fun _ _=>trivial,?_⟩
 rw [Oper.semAt_eq _ _ _ hD,hr,Oper.uponIn_enter]
 refine ⟨fun h=>(by cases h),(CallsIn.inRound l (callsIn_wide.2 C)).mono fun e w' ⟨he,hT⟩=>?_⟩
 subst he
 show wpListIn (RW l) n P ops Q rest (a.put o.dst u) w'
 rw [hdst]
 exact h _ _ hT (F.put u hd)
theorem lr_nil (h:Q .normal a w):wpListIn (RW l) n P ops Q [] a w:=h
/-- a function's body that holds a range over a function -/
theorem sx_enterM {f:FuncId} {fn:Func} {c:Code} {args:List Value} {R:Ending→World→Prop} (hf:P.funcs[f]? = some fn) (hb:fn.body=some c) (hN:fn.ntmps=N) (hl:Nat.ble args.length N=true)
  (h:∀ a,Fr a N (idx 0 args) []→Mem w.heap.size w w []→c.wp P (bodyPostM Fence.wide 9 P fn R) a w):Calls P f args.toArray w R:=
 callsIn_wide.1 (callsIn_of_wp_marks (n:=9) hf hb trivial (wpIn_wide.2 (h _ (Fr.start args _ N hN hl) (Mem.start w))))
/-- blocks stay behind the turn of a block that is no cells -/
theorem Mem.grown {w':World} {row:Option Nat} (H:Mem n0 w0 w M) (hg:w.grownBy w' row) (hr:∀ r,row=some r→w0.heap.size≤r∧∃ o:Obj,w.heap[r]? = some o∧o.isCells=false):Mem n0 w0 w' M:=by
 have far:∀ k,k<w.heap.size→(∀ r,row=some r→k≠r)→w'.heap[k]? = w.heap[k]?:=fun k hk hn=>hg.block k hk (fun e=>hn k e.symm rfl)
 refine ⟨H.le,H.bel.grown hg (Nat.le_trans H.le H.bel.size) (fun r e=>Nat.le_trans H.le (hr r e).1),?_,fun x hx=>?_,H.own,H.nd⟩
 ·refine ⟨Nat.le_trans H.oth.size hg.size,fun k o hk ho=>?_⟩
  have hlt:=(Array.getElem?_eq_some_iff.1 hk).1
  have:=H.oth.same k o hk ho
  rw [far k (Array.getElem?_eq_some_iff.1 this).1 (fun r e=>by have:=(hr r e).1;omega)]
  exact this
 ·have h:=H.at_ x hx
  show w'.heap[x.1]? = _
  rw [far x.1 h.lt (fun r e hx=>?_)]
  ·exact h
  ·obtain ⟨_,o,ho,hc⟩:=hr r e
   have h':w.heap[r]? = some (.cells x.2.2 x.2.1 (0,0)):=by rw [← hx];exact h
   rw [h'] at ho;cases ho;cases hc
end
end Go.Proofs.YtlphnfajhpkleaaDoor

/-
 Further rules: arrays of four numbers,closures that take arguments,regions of steps alone;whole numbers.
-/
namespace Go.Proofs.YtlphnfajhpkleaaDoor
set_option maxRecDepth 100000
open Go.RowKit
set_option linter.unusedSimpArgs false
set_option linter.unusedVariables false
attribute [local go_sem ↓] Go.wp_at_zero Go.wp_at_succ

abbrev a4cs (X Y Z V:Nat):Array Value:=#[.int .u64 (wd X 0:Nat),.int .u64 (wd X 1:Nat),.int .u64 (wd X 2:Nat),.int .u64 (wd X 3:Nat),.int .u64 (wd Y 0:Nat),.int .u64 (wd Y 1:Nat),.int .u64 (wd Y 2:Nat),.int .u64 (wd Y 3:Nat),.int .u64 (wd Z 0:Nat),.int .u64 (wd Z 1:Nat),.int .u64 (wd Z 2:Nat),.int .u64 (wd Z 3:Nat),.int .u64 (wd V 0:Nat),.int .u64 (wd V 1:Nat),.int .u64 (wd V 2:Nat),.int .u64 (wd V 3:Nat)]
abbrev arr4 (X Y Z V:Nat):Value:=.agg #[.int .u64 (wd X 0:Nat),.int .u64 (wd X 1:Nat),.int .u64 (wd X 2:Nat),.int .u64 (wd X 3:Nat),.int .u64 (wd Y 0:Nat),.int .u64 (wd Y 1:Nat),.int .u64 (wd Y 2:Nat),.int .u64 (wd Y 3:Nat),.int .u64 (wd Z 0:Nat),.int .u64 (wd Z 1:Nat),.int .u64 (wd Z 2:Nat),.int .u64 (wd Z 3:Nat),.int .u64 (wd V 0:Nat),.int .u64 (wd V 1:Nat),.int .u64 (wd V 2:Nat),.int .u64 (wd V 3:Nat)]
section
variable {x y z:Operand} {dst:Option Tmp} {ty:TypeId} {pos:String} {after:Array Edge} {guard:Option (Nat × Bool)} {ρ:Operand→Value} {w:World} {g o:Nat} {P:Program}
theorem run_callVA {f:FuncId} {fn:Func} {c:Code} {a:Act} {cap:Array Value} (hf:P.funcs[f]? = some fn) (hname:(fn.name == "runtime.NumGoroutine")=false) (hb:fn.body=some c) {xs:List Operand} {vs:List Value} {tys:Array TypeId} (hx:a.eval x=.func (.func f) #[] cap) (hs:Evs a xs vs) (w:World) :
  (execOp a.eval ⟨dst,.call ⟨.value x,xs.toArray,tys⟩,ty,pos,after,guard⟩).run P w=.ok (.enter f (vs.toArray++cap)) w:=by
 have h:=run_enter hf hname hb (vs.toArray++cap) w
 simp only [execOp,resolve,hx,hs.map]
 simpa [Deferred.ofValue,invoke,go_sem] using h
/-- a number out of a block and an error,told -/
theorem res_NI {fn:Func} {a:Act} {N:Nat} {L:List (Nat × Value)} {df:List Deferred} {w:World} (F:Fr a N L df) {s t gs X:Nat} {e:Int} (hf:fn.results=#[.cell s 24,.tmp t]) (h1:lk L s=some (.pointer (some ⟨gs,0,none⟩))) (h2:lk L t=some (.int .i64 e))
  (A1:At w gs 24 (ncs X)):(results fn a.tmps).run Tryd.prog w=.ok (.tuple #[num X,.int .i64 e]) w:=by
 have e1:=F.get s _ h1
 have e2:=F.get t _ h2
 rw [Array.getD_eq_getD_getElem?] at e1 e2
 have c0:w.cell? ⟨gs,0,none⟩=some (.int .u64 (wd X 0:Nat)):=A1.cell 0
 have c1:w.cell? ⟨gs,1,none⟩=some (.int .u64 (wd X 1:Nat)):=A1.cell 1
 have c2:w.cell? ⟨gs,2,none⟩=some (.int .u64 (wd X 2:Nat)):=A1.cell 2
 have c3:w.cell? ⟨gs,3,none⟩=some (.int .u64 (wd X 3:Nat)):=A1.cell 3
 simp [results,hf,go_sem,e1,e2,c0,c1,c2,c3]
theorem res_N {fn:Func} {a:Act} {N:Nat} {L:List (Nat × Value)} {df:List Deferred} {w:World} (F:Fr a N L df) {s gs X:Nat} (hf:fn.results=#[.cell s 24]) (h1:lk L s=some (.pointer (some ⟨gs,0,none⟩)))
  (A1:At w gs 24 (ncs X)):(results fn a.tmps).run Tryd.prog w=.ok (num X) w:=by
 have e1:=F.get s _ h1
 rw [Array.getD_eq_getD_getElem?] at e1
 have c0:w.cell? ⟨gs,0,none⟩=some (.int .u64 (wd X 0:Nat)):=A1.cell 0
 have c1:w.cell? ⟨gs,1,none⟩=some (.int .u64 (wd X 1:Nat)):=A1.cell 1
 have c2:w.cell? ⟨gs,2,none⟩=some (.int .u64 (wd X 2:Nat)):=A1.cell 2
 have c3:w.cell? ⟨gs,3,none⟩=some (.int .u64 (wd X 3:Nat)):=A1.cell 3
 simp [results,hf,go_sem,e1,c0,c1,c2,c3]
end
section
variable {P:Program} {ops:Array Oper} {Q:Exit→Act→World→Prop} {a:Act} {n0:Nat} {w w0:World} {rest:List Oper} {o:Oper} {N:Nat} {L:List (Nat × Value)} {df:List Deferred} {M:List (Nat × TypeId × Array Value)}
variable {W:World} {cores:List Core}
end
end Go.Proofs.YtlphnfajhpkleaaDoor
