import Derived.Deep.Cut
import Derived.RangeFuncNested
import Derived.RangeFuncLeaves
import Derived.TacticsIn
import Derived.OwnWalkIn
import Derived.Test.YtcbnmdkmfdjpiaaPApp
import Derived.Test.YtcbnmdkmfdjpiaaPGCore
import Derived.Test.YtcbnmdkmfdjpiaaPShort
namespace Go.Proofs.Ytcbnmdkmfdjpiaa
set_option maxRecDepth 100000
open Go.RowKit
set_option linter.unusedSimpArgs false
set_option linter.unusedVariables false
attribute [local go_sem ↓] Go.wp_at_zero Go.wp_at_succ

abbrev rcs (N Y:Nat) (s:Value):Array Value:=#[.int .u64 (wd N 0),.int .u64 (wd N 1),.int .u64 (wd N 2),.int .u64 (wd N 3),.int .u64 (wd Y 0),.int .u64 (wd Y 1),.int .u64 (wd Y 2),.int .u64 (wd Y 3),s]
theorem Vu {Q:Exit→Act→World→Prop} {K:Act→World→Prop} {i:Nat} {a:Act} {w:World} (h:Q (.exit i) a w):Exit.then K Q (.exit i) a w:=h
theorem Vf {Q:Exit→Act→World→Prop} {i:Nat} {a:Act} {w:World} (h:Q .normal a w):Exit.inBlock i Q (.exit i) a w:=by simp only [Exit.inBlock,if_true];exact h
section
variable {x y z:Operand} {dst:Option Tmp} {ty:TypeId} {pos:String} {after:Array Edge} {guard:Option (Nat × Bool)} {ρ:Operand→Value} {w:World} {g o:Nat} {P:Program}
theorem o_buildG {x0 x1 x2 x3:Operand} {P Q G H:Nat} (h0:ρ x0=num P) (h1:ρ x1=num Q) (h2:ρ x2=num G) (h3:ρ x3=num H):(execOp ρ ⟨dst,.build 26 #[(0,x0),(1,x1),(2,x2),(3,x3)],ty,pos,after,guard⟩).run Try.prog w=.ok (.value (grp P Q G H)) w:=by simp [execOp,h0,h1,h2,h3,go_sem]
end
abbrev RW (l:Nat):Fence:=Fence.wide.inRound l
section
variable {P:Program} {ops:Array Oper} {Q:Exit→Act→World→Prop} {a:Act} {n0:Nat} {w w0:World} {rest:List Oper} {o:Oper} {N:Nat} {L:List (Nat × Value)} {df:List Deferred} {M:List (Nat × TypeId × Array Value)} {l n:Nat}
theorem Kr {d:Nat} {v:Value} {w':World} (F:Fr a N L df) (hD:∀ c,o.op≠.defer c) (hw:Region.wanted o (yielded ops a.tmps)=true) (hdst:o.dst=some d) (hd:Nat.blt d N=true) (hr:(execOp a.eval o).run P w=.ok (.value v) w')
  (h:∀ a',Fr a' N ((d,v)::L) df→wpListIn (RW l) n P ops Q rest a' w'):wpListIn (RW l) n P ops Q (o::rest) a w:=by
 unfold wpListIn
 rw [if_pos hw]
 refine ⟨fun _ _=>trivial,?_⟩
 rw [Oper.semAt_eq _ _ _ hD,hr]
 show wpListIn (RW l) n P ops Q rest (a.put o.dst v) w'
 rw [hdst]
 exact h _ (F.put v hd)
theorem Jey {d:Nat} {cs:Array Value} {t:TypeId} (F:Fr a N L df) (H:Mem n0 w0 w M) (hD:∀ c,o.op≠.defer c) (hw:Region.wanted o (yielded ops a.tmps)=true) (hdst:o.dst=some d) (hd:Nat.blt d N=true)
  (hr:(execOp a.eval o).run P w=.ok (.value (.pointer (some ⟨w.heap.size,0,none⟩))) (w.alloc (.cells cs t)))
  (h:∀ a' w' g,Fr a' N ((d,.pointer (some ⟨g,0,none⟩))::L) df→Mem n0 w0 w' ((g,t,cs)::M)→wpListIn (RW l) n P ops Q rest a' w'):wpListIn (RW l) n P ops Q (o::rest) a w:=
 Kr F hD hw hdst hd hr fun a' F'=>h a' _ _ F' (H.new cs t)
theorem Xp {k g i:Nat} {t:TypeId} {cs:Array Value} {vs:List Value} (F:Fr a N L df) (H:Mem n0 w0 w M) (hD:∀ c,o.op≠.defer c) (hw:Region.wanted o (yielded ops a.tmps)=true) (hdst:o.dst=none) (hk:M[k]? = some (g,t,cs))
  (hr:(execOp a.eval o).run P w=.ok .skip (puts w g i vs)) {M2:List (Nat × TypeId × Array Value)} (hM:M.set k (g,t,Jeh cs i vs)=M2)
  (h:∀ w',Mem n0 w0 w' M2→wpListIn (RW l) n P ops Q rest a w'):wpListIn (RW l) n P ops Q (o::rest) a w:=by
 subst hM
 unfold wpListIn
 rw [if_pos hw]
 refine ⟨fun _ _=>trivial,?_⟩
 rw [Oper.semAt_eq _ _ _ hD,hr]
 show wpListIn (RW l) n P ops Q rest (a.put o.dst undef) _
 rw [hdst]
 exact h _ (Mem.puts vs H hk i)
theorem Jem {d:Nat} {f:FuncId} {args:Array Value} {u:Value} {T:World→Prop} (F:Fr a N L df) (hD:∀ c,o.op≠.defer c) (hw:Region.wanted o (yielded ops a.tmps)=true) (hdst:o.dst=some d) (hd:Nat.blt d N=true)
  (hr:(execOp a.eval o).run P w=.ok (.enter f args) w) (C:Calls P f args w fun e w'=>e=.returned u∧T w')
  (h:∀ a' w',T w'→Fr a' N ((d,u)::L) df→wpListIn (RW l) n P ops Q rest a' w'):wpListIn (RW l) n P ops Q (o::rest) a w:=by
 unfold wpListIn
 rw [if_pos hw]
 refine ⟨fun _ _=>trivial,?_⟩
 rw [Oper.semAt_eq _ _ _ hD,hr,Oper.uponIn_enter]
 refine ⟨fun h=>(by cases h),(CallsIn.inRound l (callsIn_wide.2 C)).mono fun e w' ⟨he,hT⟩=>?_⟩
 subst he
 show wpListIn (RW l) n P ops Q rest (a.put o.dst u) w'
 rw [hdst]
 exact h _ _ hT (F.put u hd)
theorem Jbu (h:Q .normal a w):wpListIn (RW l) n P ops Q [] a w:=h
theorem Xb {f:FuncId} {fn:Func} {c:Code} {args:List Value} {R:Ending→World→Prop} (hf:P.funcs[f]? = some fn) (hb:fn.body=some c) (hN:fn.ntmps=N) (hl:Nat.ble args.length N=true)
  (h:∀ a,Fr a N (idx 0 args) []→Mem w.heap.size w w []→c.wp P (bodyPostM Fence.wide 9 P fn R) a w):Calls P f args.toArray w R:=
 callsIn_wide.1 (callsIn_of_wp_marks (n:=9) hf hb trivial (wpIn_wide.2 (h _ (Fr.start args _ N hN hl) (Mem.start w))))
theorem Mem.grown {w':World} {row:Option Nat} (H:Mem n0 w0 w M) (hg:w.grownBy w' row) (hr:∀ r,row=some r→w0.heap.size≤r∧∃ o:Obj,w.heap[r]? = some o∧o.isCells=false):Mem n0 w0 w' M:=by
 have far:∀ k,k<w.heap.size→(∀ r,row=some r→k≠r)→w'.heap[k]? = w.heap[k]?:=fun k hk hn=>hg.block k hk (fun e=>hn k e.symm rfl)
 refine ⟨H.le,H.bel.grown hg (Nat.le_trans H.le H.bel.size) (fun r e=>Nat.le_trans H.le (hr r e).1),?_,fun x hx=>?_,H.own,H.nd⟩
 ·refine ⟨Nat.le_trans H.oth.size hg.size,fun k o hk ho=>?_⟩
  have hlt:=(Array.getElem?_eq_some_iff.1 hk).1
  have:=H.oth.same k o hk ho
  rw [far k (Array.getElem?_eq_some_iff.1 this).1 (fun r e=>by have:=(hr r e).1;omega)]
  exact this
 ·have h:=H.at_ x hx
  show w'.heap[x.1]? = _
  rw [far x.1 h.lt (fun r e hx=>?_)]
  ·exact h
  ·obtain ⟨_,o,ho,hc⟩:=hr r e
   have h':w.heap[r]? = some (.cells x.2.2 x.2.1 (0,0)):=by rw [← hx];exact h
   rw [h'] at ho;cases ho;cases hc
end
abbrev a4cs (X Y Z V:Nat):Array Value:=#[.int .u64 (wd X 0),.int .u64 (wd X 1),.int .u64 (wd X 2),.int .u64 (wd X 3),.int .u64 (wd Y 0),.int .u64 (wd Y 1),.int .u64 (wd Y 2),.int .u64 (wd Y 3),.int .u64 (wd Z 0),.int .u64 (wd Z 1),.int .u64 (wd Z 2),.int .u64 (wd Z 3),.int .u64 (wd V 0),.int .u64 (wd V 1),.int .u64 (wd V 2),.int .u64 (wd V 3)]
abbrev arr4 (X Y Z V:Nat):Value:=.agg #[.int .u64 (wd X 0),.int .u64 (wd X 1),.int .u64 (wd X 2),.int .u64 (wd X 3),.int .u64 (wd Y 0),.int .u64 (wd Y 1),.int .u64 (wd Y 2),.int .u64 (wd Y 3),.int .u64 (wd Z 0),.int .u64 (wd Z 1),.int .u64 (wd Z 2),.int .u64 (wd Z 3),.int .u64 (wd V 0),.int .u64 (wd V 1),.int .u64 (wd V 2),.int .u64 (wd V 3)]
section
variable {x y z:Operand} {dst:Option Tmp} {ty:TypeId} {pos:String} {after:Array Edge} {guard:Option (Nat × Bool)} {ρ:Operand→Value} {w:World} {g o:Nat} {P:Program}
theorem Jfz {f:FuncId} {u v:Value} (hx:ρ x=u) (hy:ρ y=v):(execOp ρ ⟨dst,.makeFunc (.func f) #[] #[x,y],ty,pos,after,guard⟩).run P w=.ok (.value (.func (.func f) #[] #[u,v])) w:=by simp [execOp,hx,hy,go_sem]
theorem run_callVA {f:FuncId} {fn:Func} {c:Code} {a:Act} {cap:Array Value} (hf:P.funcs[f]? = some fn) (hname:(fn.name == "runtime.NumGoroutine")=false) (hb:fn.body=some c) {xs:List Operand} {vs:List Value} {tys:Array TypeId} (hx:a.eval x=.func (.func f) #[] cap) (hs:Evs a xs vs) (w:World) :
  (execOp a.eval ⟨dst,.call ⟨.value x,xs.toArray,tys⟩,ty,pos,after,guard⟩).run P w=.ok (.enter f (vs.toArray++cap)) w:=by
 have h:=Vp hf hname hb (vs.toArray++cap) w
 simp only [execOp,resolve,hx,hs.map]
 simpa [Deferred.ofValue,invoke,go_sem] using h
theorem o_convU {n:Int} {m:Nat} (hm:IntKind.u64.wrap n=(m:Nat)) (hx:ρ x=.int .i64 n):(execOp ρ ⟨dst,.convert 2 22 x,ty,pos,after,guard⟩).run Try.prog w=.ok (.value (.int .u64 (m:Nat))) w:=by
 simp [execOp,hx,go_sem,hm]
theorem o_negU {n m:Nat} (hm:IntKind.u64.wrap (-(n:Int))=(m:Nat)) (hx:ρ x=.int .u64 (n:Nat)):(execOp ρ ⟨dst,.unOp .neg 22 x,ty,pos,after,guard⟩).run Try.prog w=.ok (.value (.int .u64 (m:Nat))) w:=by
 simp [execOp,hx,go_sem,hm]
theorem Jcj {fn:Func} {a:Act} {N:Nat} {L:List (Nat × Value)} {df:List Deferred} {w:World} (F:Fr a N L df) {s t gs X:Nat} {e:Int} (hf:fn.results=#[.cell s 24,.tmp t]) (h1:lk L s=some (.pointer (some ⟨gs,0,none⟩))) (h2:lk L t=some (.int .i64 e))
  (A1:At w gs 24 (ncs X)):(results fn a.tmps).run Try.prog w=.ok (.tuple #[num X,.int .i64 e]) w:=by
 have e1:=F.get s _ h1
 have e2:=F.get t _ h2
 rw [Array.getD_eq_getD_getElem?] at e1 e2
 have c0:w.cell? ⟨gs,0,none⟩=some (.int .u64 (wd X 0)):=A1.cell 0
 have c1:w.cell? ⟨gs,1,none⟩=some (.int .u64 (wd X 1)):=A1.cell 1
 have c2:w.cell? ⟨gs,2,none⟩=some (.int .u64 (wd X 2)):=A1.cell 2
 have c3:w.cell? ⟨gs,3,none⟩=some (.int .u64 (wd X 3)):=A1.cell 3
 simp [results,hf,go_sem,e1,e2,c0,c1,c2,c3]
theorem Jfb {fn:Func} {a:Act} {N:Nat} {L:List (Nat × Value)} {df:List Deferred} {w:World} (F:Fr a N L df) {s gs X:Nat} (hf:fn.results=#[.cell s 24]) (h1:lk L s=some (.pointer (some ⟨gs,0,none⟩)))
  (A1:At w gs 24 (ncs X)):(results fn a.tmps).run Try.prog w=.ok (num X) w:=by
 have e1:=F.get s _ h1
 rw [Array.getD_eq_getD_getElem?] at e1
 have c0:w.cell? ⟨gs,0,none⟩=some (.int .u64 (wd X 0)):=A1.cell 0
 have c1:w.cell? ⟨gs,1,none⟩=some (.int .u64 (wd X 1)):=A1.cell 1
 have c2:w.cell? ⟨gs,2,none⟩=some (.int .u64 (wd X 2)):=A1.cell 2
 have c3:w.cell? ⟨gs,3,none⟩=some (.int .u64 (wd X 3)):=A1.cell 3
 simp [results,hf,go_sem,e1,c0,c1,c2,c3]
theorem Vt {fn:Func} {a:Act} (hf:fn.results=#[]):(results fn a.tmps).run P w=.ok (.tuple #[]) w:=by
 simp [results,hf,go_sem]
end
section
variable {P:Program} {ops:Array Oper} {Q:Exit→Act→World→Prop} {a:Act} {n0:Nat} {w w0:World} {rest:List Oper} {o:Oper} {N:Nat} {L:List (Nat × Value)} {df:List Deferred} {M:List (Nat × TypeId × Array Value)}
theorem Jat {f:FuncId} {fn:Func} {c:Code} {args:List Value} {R:Ending→World→Prop} (H:Mem n0 w0 w M) (hf:P.funcs[f]? = some fn) (hb:fn.body=some c) (hN:fn.ntmps=N) (hl:Nat.ble args.length N=true)
  (h:∀ a,Fr a N (idx 0 args) []→Mem n0 w0 w M→c.wp P (bodyPost P fn R) a w):Calls P f args.toArray w R:=
 calls_of_wp hf hb (h _ (Fr.start args _ N hN hl) H)
theorem sx_drawn0 (T:List VC) (fuel:Nat) {id:Nat} (F:Fr a N L df) (H:Mem n0 w0 w M) (hm:P.follows .mixedOrders=true)
  (hN:(T.map (·.d)).all (fun d=>Nat.ble (d+1) N)=true) (hfuel:fuel+T.length=ops.size)
  (hok:Jfy .any ops (Array.replicate ops.size false) (T.map (·.i)) (T.map (·.pre)) (T.map (·.pure))=true) (hnd:(T.map (·.d)).Nodup)
  (hops:∀ c∈T.map (VC.core w.heap.size),∃ o,ops[c.i]? = some o∧o.dst=some c.d) (hsel:Region.noSelect ops=true)
  (hpure:∀ c∈T.map (VC.core w.heap.size),Vg P ops (fun _=>True) a w (T.map (VC.core w.heap.size)) c)
  (Jdm:∀ c∈T.map (VC.core w.heap.size),c.pure=false→Ve P ops (NoPanic Q) a w (T.map (VC.core w.heap.size)) c)
  (hend:∀ gs rs a' w',gs.length=Wg T→rs.length=Kj T→Fr a' N (Uj T gs rs++L) df→Mem n0 w0 w' (Up T gs++M)→wpAnyH P .any ops (NoPanic Q) (fun _=>True) fuel (Jaz (Array.replicate ops.size false) (T.map (·.i)) (List.replicate T.length true)) a' w') :
  (Code.region id ops true).wp P Q a w:=by
 refine wp_region_noPanic ?_
 refine wp_region_held_drew (S:=fun _=>True) hm trivial (fun _=>?_)
 have c1:(T.map (VC.core w.heap.size)).map (·.i)=T.map (·.i):=by simp [VC.core]
 have c2:(T.map (VC.core w.heap.size)).map (·.d)=T.map (·.d):=by simp [VC.core]
 have c3:(T.map (VC.core w.heap.size)).map (·.pre)=T.map (·.pre):=by simp [VC.core]
 have c4:(T.map (VC.core w.heap.size)).map (·.pure)=T.map (·.pure):=by simp [VC.core]
 have hE:=Kf (P:=P) (md:=.any) (ops:=ops) (Q:=NoPanic Q) (S:=fun _=>True) (T.map (VC.core w.heap.size)) (Array.replicate ops.size false) a w w.drew fuel (by rw [c2];exact F.all hN) (by rw [c1,c3,c4];exact hok) (by rw [c2];exact hnd) hops
  (fun _ _=>trivial) (Below.refl _ _).drew hsel (fun _ _ _ _ _ h=>h) hpure Jdm ?_
 ·rw [List.length_map,hfuel] at hE
  exact hE
 ·intro vs w' hc
  rw [c1,c2,List.length_map]
  have hlay:=Jfm (b:=w.heap.size) (w:=w') T vs (by rw [hc.lv,List.length_map]) (fun k c hk=>hc.ok k (VC.core w.heap.size c) (by rw [List.getElem?_map,hk];rfl) (by rw [List.getElem?_replicate,if_pos (by simpa using (List.getElem?_eq_some_iff.1 hk).1)]))
   (fun k j c d hk hj hcn hdn hne=>hc.far k j (VC.core w.heap.size c) (VC.core w.heap.size d) (by rw [List.getElem?_map,hk];rfl) (by rw [List.getElem?_map,hj];rfl) hcn hdn hne (by rw [List.getElem?_replicate,if_pos (by simpa using (List.getElem?_eq_some_iff.1 hk).1)]) (by rw [List.getElem?_replicate,if_pos (by simpa using (List.getElem?_eq_some_iff.1 hj).1)]))
  obtain ⟨gs,rs,e1,e0,e2,e3,e4,e5,-⟩:=Xq T vs hlay
  have hM:=H.on hc.bel
  have hb:=Nat.le_trans H.le H.bel.size
  refine hend gs rs _ w' e1 e0 (F.over hnd hN (Uj T gs rs) (fun x hx=>?_) fun s v hs=>?_) ⟨hM.le,hM.bel,hM.oth,fun x hx=>?_,fun x hx=>?_,?_⟩
  ·obtain ⟨k,hk,rfl⟩:=List.getElem_of_mem hx
   refine ⟨k,?_,?_⟩
   ·rw [← Vo T gs rs,List.getElem?_map,List.getElem?_eq_getElem hk];rfl
   ·rw [e2,List.getElem?_map,List.getElem?_eq_getElem hk];rfl
  ·rcases Jfl _ _ _ _ hs with h | h
   ·exact Or.inl h
   ·right;rwa [Vo] at h
  ·rcases List.mem_append.1 hx with hx | hx
   ·exact e3 x hx
   ·exact hM.at_ x hx
  ·rcases List.mem_append.1 hx with hx | hx
   ·exact Nat.le_trans hb (e4 _ (Ux T gs x hx))
   ·exact hM.own x hx
  ·rw [List.map_append,List.nodup_append]
   refine ⟨Vy T gs e5,hM.nd,fun x hx y hy e=>?_⟩
   obtain ⟨z,hz,rfl⟩:=List.mem_map.1 hx
   obtain ⟨z',hz',rfl⟩:=List.mem_map.1 hy
   have h1:=e4 _ (Ux T gs z hz)
   have h2:=H.lt z' hz'
   omega
variable {W:World} {cores:List Core}
theorem Jbf (c:Core) (op:Op) (ty:TypeId) (pos:String) (after:Array Edge) (u:Value)
  (ho:ops[c.i]? = some ⟨some c.d,op,ty,pos,after,none⟩) (hk:c.kind=Kind.val u)
  (h:∀ (ρ:Operand→Value) (w:World),(∀ (x:Operand) (v:Value),Vc a cores c.pre x v→ρ x=v)→Below W.heap.size W w→(execOp ρ ⟨some c.d,op,ty,pos,after,none⟩).run P w=.ok (.value u) w):Ve P ops Q a W cores c:=by
 intro vs w hl hb hp o ho' K hK
 rw [ho] at ho'
 obtain rfl:=Option.some.inj ho'
 refine Ub rfl (Ko (h _ w (fun x v hx=>hx vs w hl hp) hb) ?_)
 exact hK.out _ _ (Below.refl _ _) (by rw [hk];exact rfl) (fun h=>by rw [hk] at h;cases h)
end
section
variable {P:Program} {ops:Array Oper} {Q:Exit→Act→World→Prop} {a:Act} {n0:Nat} {w w0:World} {rest:List Oper} {o:Oper} {N:Nat} {L:List (Nat × Value)} {df:List Deferred} {M:List (Nat × TypeId × Array Value)}
end
end Go.Proofs.Ytcbnmdkmfdjpiaa
