/-
  Further rules: arrays of four numbers, closures that take arguments, regions of steps alone; whole numbers.
-/
import Derived.Deep.Cut
import Derived.Test.YtodlpmepoakdlaaWShort
import Derived.Test.YtodlpmepoakdlaaWSxF
import Derived.Test.YtodlpmepoakdlaaWSxR
namespace Go.Proofs.Ytodlpmepoakdlaa
set_option maxRecDepth 100000
open Go.RowKit
set_option linter.unusedSimpArgs false
set_option linter.unusedVariables false
attribute [local go_sem ↓] Go.wp_at_zero Go.wp_at_succ

abbrev a4cs (X Y Z V : Nat) : Array Value := #[.int .u64 (wd X 0 : Nat), .int .u64 (wd X 1 : Nat), .int .u64 (wd X 2 : Nat), .int .u64 (wd X 3 : Nat), .int .u64 (wd Y 0 : Nat), .int .u64 (wd Y 1 : Nat), .int .u64 (wd Y 2 : Nat), .int .u64 (wd Y 3 : Nat), .int .u64 (wd Z 0 : Nat), .int .u64 (wd Z 1 : Nat), .int .u64 (wd Z 2 : Nat), .int .u64 (wd Z 3 : Nat), .int .u64 (wd V 0 : Nat), .int .u64 (wd V 1 : Nat), .int .u64 (wd V 2 : Nat), .int .u64 (wd V 3 : Nat)]
abbrev arr4 (X Y Z V : Nat) : Value := .agg #[.int .u64 (wd X 0 : Nat), .int .u64 (wd X 1 : Nat), .int .u64 (wd X 2 : Nat), .int .u64 (wd X 3 : Nat), .int .u64 (wd Y 0 : Nat), .int .u64 (wd Y 1 : Nat), .int .u64 (wd Y 2 : Nat), .int .u64 (wd Y 3 : Nat), .int .u64 (wd Z 0 : Nat), .int .u64 (wd Z 1 : Nat), .int .u64 (wd Z 2 : Nat), .int .u64 (wd Z 3 : Nat), .int .u64 (wd V 0 : Nat), .int .u64 (wd V 1 : Nat), .int .u64 (wd V 2 : Nat), .int .u64 (wd V 3 : Nat)]
section
variable {x y z : Operand} {dst : Option Tmp} {ty : TypeId} {pos : String} {after : Array Edge} {guard : Option (Nat × Bool)} {ρ : Operand → Value} {w : World} {g o : Nat} {P : Program}
theorem o_boxB {X Y Z V : Nat} (hx : ρ x = arr4 X Y Z V) : (execOp ρ ⟨dst, .box 47 x, ty, pos, after, guard⟩).run Try.prog w = .ok (.value (.pointer (some ⟨w.heap.size, 0, none⟩))) (w.alloc (.cells (a4cs X Y Z V) 47)) := by simp [execOp, hx, go_sem]
theorem o_idxB0 (hx : ρ x = .pointer (some ⟨g, 0, none⟩)) (hy : ρ y = .int .i64 0) : (execOp ρ ⟨dst, .indexAddr 47 x y, ty, pos, after, guard⟩).run Try.prog w = .ok (.value (.pointer (some ⟨g, 0, none⟩))) w := by simp [execOp, hx, hy, go_sem]
theorem o_loadB0 {X Y Z V : Nat} (hx : ρ x = .pointer (some ⟨g, 0, none⟩)) (h : At w g 47 (a4cs X Y Z V)) : (execOp ρ ⟨dst, .load 24 x, ty, pos, after, guard⟩).run Try.prog w = .ok (.value (num X)) w := by
  have c0 : w.cell? ⟨g, 0, none⟩ = some (.int .u64 (wd X 0 : Nat)) := h.cell 0
  have c1 : w.cell? ⟨g, 1, none⟩ = some (.int .u64 (wd X 1 : Nat)) := h.cell 1
  have c2 : w.cell? ⟨g, 2, none⟩ = some (.int .u64 (wd X 2 : Nat)) := h.cell 2
  have c3 : w.cell? ⟨g, 3, none⟩ = some (.int .u64 (wd X 3 : Nat)) := h.cell 3
  simp [execOp, hx, go_sem, c0, c1, c2, c3]
theorem o_idxB1 (hx : ρ x = .pointer (some ⟨g, 0, none⟩)) (hy : ρ y = .int .i64 1) : (execOp ρ ⟨dst, .indexAddr 47 x y, ty, pos, after, guard⟩).run Try.prog w = .ok (.value (.pointer (some ⟨g, 4, none⟩))) w := by simp [execOp, hx, hy, go_sem]
theorem o_loadB1 {X Y Z V : Nat} (hx : ρ x = .pointer (some ⟨g, 4, none⟩)) (h : At w g 47 (a4cs X Y Z V)) : (execOp ρ ⟨dst, .load 24 x, ty, pos, after, guard⟩).run Try.prog w = .ok (.value (num Y)) w := by
  have c0 : w.cell? ⟨g, 4, none⟩ = some (.int .u64 (wd Y 0 : Nat)) := h.cell 4
  have c1 : w.cell? ⟨g, 5, none⟩ = some (.int .u64 (wd Y 1 : Nat)) := h.cell 5
  have c2 : w.cell? ⟨g, 6, none⟩ = some (.int .u64 (wd Y 2 : Nat)) := h.cell 6
  have c3 : w.cell? ⟨g, 7, none⟩ = some (.int .u64 (wd Y 3 : Nat)) := h.cell 7
  simp [execOp, hx, go_sem, c0, c1, c2, c3]
theorem o_idxB2 (hx : ρ x = .pointer (some ⟨g, 0, none⟩)) (hy : ρ y = .int .i64 2) : (execOp ρ ⟨dst, .indexAddr 47 x y, ty, pos, after, guard⟩).run Try.prog w = .ok (.value (.pointer (some ⟨g, 8, none⟩))) w := by simp [execOp, hx, hy, go_sem]
theorem o_loadB2 {X Y Z V : Nat} (hx : ρ x = .pointer (some ⟨g, 8, none⟩)) (h : At w g 47 (a4cs X Y Z V)) : (execOp ρ ⟨dst, .load 24 x, ty, pos, after, guard⟩).run Try.prog w = .ok (.value (num Z)) w := by
  have c0 : w.cell? ⟨g, 8, none⟩ = some (.int .u64 (wd Z 0 : Nat)) := h.cell 8
  have c1 : w.cell? ⟨g, 9, none⟩ = some (.int .u64 (wd Z 1 : Nat)) := h.cell 9
  have c2 : w.cell? ⟨g, 10, none⟩ = some (.int .u64 (wd Z 2 : Nat)) := h.cell 10
  have c3 : w.cell? ⟨g, 11, none⟩ = some (.int .u64 (wd Z 3 : Nat)) := h.cell 11
  simp [execOp, hx, go_sem, c0, c1, c2, c3]
theorem o_idxB3 (hx : ρ x = .pointer (some ⟨g, 0, none⟩)) (hy : ρ y = .int .i64 3) : (execOp ρ ⟨dst, .indexAddr 47 x y, ty, pos, after, guard⟩).run Try.prog w = .ok (.value (.pointer (some ⟨g, 12, none⟩))) w := by simp [execOp, hx, hy, go_sem]
theorem o_loadB3 {X Y Z V : Nat} (hx : ρ x = .pointer (some ⟨g, 12, none⟩)) (h : At w g 47 (a4cs X Y Z V)) : (execOp ρ ⟨dst, .load 24 x, ty, pos, after, guard⟩).run Try.prog w = .ok (.value (num V)) w := by
  have c0 : w.cell? ⟨g, 12, none⟩ = some (.int .u64 (wd V 0 : Nat)) := h.cell 12
  have c1 : w.cell? ⟨g, 13, none⟩ = some (.int .u64 (wd V 1 : Nat)) := h.cell 13
  have c2 : w.cell? ⟨g, 14, none⟩ = some (.int .u64 (wd V 2 : Nat)) := h.cell 14
  have c3 : w.cell? ⟨g, 15, none⟩ = some (.int .u64 (wd V 3 : Nat)) := h.cell 15
  simp [execOp, hx, go_sem, c0, c1, c2, c3]
theorem o_mk2 {f : FuncId} {u v : Value} (hx : ρ x = u) (hy : ρ y = v) : (execOp ρ ⟨dst, .makeFunc (.func f) #[] #[x, y], ty, pos, after, guard⟩).run P w = .ok (.value (.func (.func f) #[] #[u, v])) w := by simp [execOp, hx, hy, go_sem]
theorem run_callVA {f : FuncId} {fn : Func} {c : Code} {a : Act} {cap : Array Value} (hf : P.funcs[f]? = some fn) (hname : (fn.name == "runtime.NumGoroutine") = false) (hb : fn.body = some c) {xs : List Operand} {vs : List Value} {tys : Array TypeId} (hx : a.eval x = .func (.func f) #[] cap) (hs : Evs a xs vs) (w : World) :
    (execOp a.eval ⟨dst, .call ⟨.value x, xs.toArray, tys⟩, ty, pos, after, guard⟩).run P w = .ok (.enter f (vs.toArray ++ cap)) w := by
  have h := run_enter hf hname hb (vs.toArray ++ cap) w
  simp only [execOp, resolve, hx, hs.map]
  simpa [Deferred.ofValue, invoke, go_sem] using h
theorem o_buildG2 {x0 x1 : Operand} {P Q : Nat} (h0 : ρ x0 = num P) (h1 : ρ x1 = num Q) : (execOp ρ ⟨dst, .build 35 #[(0, x0), (1, x1)], ty, pos, after, guard⟩).run Try.prog w = .ok (.value (grp P Q 0 0)) w := by
  have h : (execOp ρ ⟨dst, .build 35 #[(0, x0), (1, x1)], ty, pos, after, guard⟩).run Try.prog w = .ok (.value (.agg #[.int .u64 (wd P 0 : Nat), .int .u64 (wd P 1 : Nat), .int .u64 (wd P 2 : Nat), .int .u64 (wd P 3 : Nat), .int .u64 (wd Q 0 : Nat), .int .u64 (wd Q 1 : Nat), .int .u64 (wd Q 2 : Nat), .int .u64 (wd Q 3 : Nat), .int .u64 0, .int .u64 0, .int .u64 0, .int .u64 0, .int .u64 0, .int .u64 0, .int .u64 0, .int .u64 0])) w := by simp [execOp, h0, h1, go_sem]
  exact h
theorem o_buildG0 : (execOp ρ ⟨dst, .build 35 #[], ty, pos, after, guard⟩).run Try.prog w = .ok (.value (grp 0 0 0 0)) w := by
  have h : (execOp ρ ⟨dst, .build 35 #[], ty, pos, after, guard⟩).run Try.prog w = .ok (.value (.agg #[.int .u64 0, .int .u64 0, .int .u64 0, .int .u64 0, .int .u64 0, .int .u64 0, .int .u64 0, .int .u64 0, .int .u64 0, .int .u64 0, .int .u64 0, .int .u64 0, .int .u64 0, .int .u64 0, .int .u64 0, .int .u64 0])) w := by simp [execOp, go_sem]
  exact h
theorem o_convU {n : Int} {m : Nat} (hm : IntKind.u64.wrap n = (m : Nat)) (hx : ρ x = .int .i64 n) : (execOp ρ ⟨dst, .convert 2 22 x, ty, pos, after, guard⟩).run Try.prog w = .ok (.value (.int .u64 (m : Nat))) w := by
  simp [execOp, hx, go_sem, hm]
theorem o_negU {n m : Nat} (hm : IntKind.u64.wrap (-(n : Int)) = (m : Nat)) (hx : ρ x = .int .u64 (n : Nat)) : (execOp ρ ⟨dst, .unOp .neg 22 x, ty, pos, after, guard⟩).run Try.prog w = .ok (.value (.int .u64 (m : Nat))) w := by
  simp [execOp, hx, go_sem, hm]
theorem o_negI {n m : Int} (hm : IntKind.i64.wrap (-n) = m) (hx : ρ x = .int .i64 n) : (execOp ρ ⟨dst, .unOp .neg 2 x, ty, pos, after, guard⟩).run Try.prog w = .ok (.value (.int .i64 m)) w := by
  simp [execOp, hx, go_sem, hm]
theorem o_bin2 {b : BinOp} {T T2 : TypeId} {n m k : Int} (h : ∀ ρ : Operand → Value, ρ x = .int .i64 n → ρ y = .int .i64 m → (execOp ρ ⟨dst, .binOp b T x y T2, ty, pos, after, guard⟩).run P w = .ok (.value (.int .i64 k)) w) (hx : ρ x = .int .i64 n) (hy : ρ y = .int .i64 m) : (execOp ρ ⟨dst, .binOp b T x y T2, ty, pos, after, guard⟩).run P w = .ok (.value (.int .i64 k)) w := h ρ hx hy
/-- a number out of a block and an error, told -/
theorem res_NI {fn : Func} {a : Act} {N : Nat} {L : List (Nat × Value)} {df : List Deferred} {w : World} (F : Fr a N L df) {s t gs X : Nat} {e : Int} (hf : fn.results = #[.cell s 24, .tmp t]) (h1 : lk L s = some (.pointer (some ⟨gs, 0, none⟩))) (h2 : lk L t = some (.int .i64 e))
    (A1 : At w gs 24 (ncs X)) : (results fn a.tmps).run Try.prog w = .ok (.tuple #[num X, .int .i64 e]) w := by
  have e1 := F.get s _ h1
  have e2 := F.get t _ h2
  rw [Array.getD_eq_getD_getElem?] at e1 e2
  have c0 : w.cell? ⟨gs, 0, none⟩ = some (.int .u64 (wd X 0 : Nat)) := A1.cell 0
  have c1 : w.cell? ⟨gs, 1, none⟩ = some (.int .u64 (wd X 1 : Nat)) := A1.cell 1
  have c2 : w.cell? ⟨gs, 2, none⟩ = some (.int .u64 (wd X 2 : Nat)) := A1.cell 2
  have c3 : w.cell? ⟨gs, 3, none⟩ = some (.int .u64 (wd X 3 : Nat)) := A1.cell 3
  simp [results, hf, go_sem, e1, e2, c0, c1, c2, c3]
theorem res_N {fn : Func} {a : Act} {N : Nat} {L : List (Nat × Value)} {df : List Deferred} {w : World} (F : Fr a N L df) {s gs X : Nat} (hf : fn.results = #[.cell s 24]) (h1 : lk L s = some (.pointer (some ⟨gs, 0, none⟩)))
    (A1 : At w gs 24 (ncs X)) : (results fn a.tmps).run Try.prog w = .ok (num X) w := by
  have e1 := F.get s _ h1
  rw [Array.getD_eq_getD_getElem?] at e1
  have c0 : w.cell? ⟨gs, 0, none⟩ = some (.int .u64 (wd X 0 : Nat)) := A1.cell 0
  have c1 : w.cell? ⟨gs, 1, none⟩ = some (.int .u64 (wd X 1 : Nat)) := A1.cell 1
  have c2 : w.cell? ⟨gs, 2, none⟩ = some (.int .u64 (wd X 2 : Nat)) := A1.cell 2
  have c3 : w.cell? ⟨gs, 3, none⟩ = some (.int .u64 (wd X 3 : Nat)) := A1.cell 3
  simp [results, hf, go_sem, e1, c0, c1, c2, c3]
theorem res_none {fn : Func} {a : Act} (hf : fn.results = #[]) : (results fn a.tmps).run P w = .ok (.tuple #[]) w := by
  simp [results, hf, go_sem]
end
section
variable {P : Program} {ops : Array Oper} {Q : Exit → Act → World → Prop} {a : Act} {n0 : Nat} {w w0 : World} {rest : List Oper} {o : Oper} {N : Nat} {L : List (Nat × Value)} {df : List Deferred} {M : List (Nat × TypeId × Array Value)}
/-- a body entered with blocks of the caller's in sight -/
theorem sx_enterW {f : FuncId} {fn : Func} {c : Code} {args : List Value} {R : Ending → World → Prop} (H : Mem n0 w0 w M) (hf : P.funcs[f]? = some fn) (hb : fn.body = some c) (hN : fn.ntmps = N) (hl : Nat.ble args.length N = true)
    (h : ∀ a, Fr a N (idx 0 args) [] → Mem n0 w0 w M → c.wp P (bodyPost P fn R) a w) : Calls P f args.toArray w R :=
  calls_of_wp hf hb (h _ (Fr.start args _ N hN hl) H)
/-- all operations of T, each of them a step, in whatever order -/
theorem sx_drawn0 (T : List VC) (fuel : Nat) {id : Nat} (F : Fr a N L df) (H : Mem n0 w0 w M) (hm : P.follows .mixedOrders = true)
    (hN : (T.map (·.d)).all (fun d => Nat.ble (d + 1) N) = true) (hfuel : fuel + T.length = ops.size)
    (hok : okAll .any ops (Array.replicate ops.size false) (T.map (·.i)) (T.map (·.pre)) (T.map (·.pure)) = true) (hnd : (T.map (·.d)).Nodup)
    (hops : ∀ c ∈ T.map (VC.core w.heap.size), ∃ o, ops[c.i]? = some o ∧ o.dst = some c.d) (hsel : Region.noSelect ops = true)
    (hpure : ∀ c ∈ T.map (VC.core w.heap.size), PureOK P ops (fun _ => True) a w (T.map (VC.core w.heap.size)) c)
    (hstep : ∀ c ∈ T.map (VC.core w.heap.size), c.pure = false → StepOK P ops (NoPanic Q) a w (T.map (VC.core w.heap.size)) c)
    (hend : ∀ gs rs a' w', gs.length = cellsOfT T → rs.length = rowsOfT T → Fr a' N (slots T gs rs ++ L) df → Mem n0 w0 w' (blocks T gs ++ M) → wpAnyH P .any ops (NoPanic Q) (fun _ => True) fuel (mark (Array.replicate ops.size false) (T.map (·.i)) (List.replicate T.length true)) a' w') :
    (Code.region id ops true).wp P Q a w := by
  refine wp_region_noPanic ?_
  refine wp_region_held_drew (S := fun _ => True) hm trivial (fun _ => ?_)
  have c1 : (T.map (VC.core w.heap.size)).map (·.i) = T.map (·.i) := by simp [VC.core]
  have c2 : (T.map (VC.core w.heap.size)).map (·.d) = T.map (·.d) := by simp [VC.core]
  have c3 : (T.map (VC.core w.heap.size)).map (·.pre) = T.map (·.pre) := by simp [VC.core]
  have c4 : (T.map (VC.core w.heap.size)).map (·.pure) = T.map (·.pure) := by simp [VC.core]
  have hE := wpAnyH_cores (P := P) (md := .any) (ops := ops) (Q := NoPanic Q) (S := fun _ => True) (T.map (VC.core w.heap.size)) (Array.replicate ops.size false) a w w.drew fuel (by rw [c2]; exact F.all hN) (by rw [c1, c3, c4]; exact hok) (by rw [c2]; exact hnd) hops
    (fun _ _ => trivial) (Below.refl _ _).drew hsel (fun _ _ _ _ _ h => h) hpure hstep ?_
  · rw [List.length_map, hfuel] at hE
    exact hE
  · intro vs w' hc
    rw [c1, c2, List.length_map]
    have hlay := lay_of (b := w.heap.size) (w := w') T vs (by rw [hc.lv, List.length_map]) (fun k c hk => hc.ok k (VC.core w.heap.size c) (by rw [List.getElem?_map, hk]; rfl) (by rw [List.getElem?_replicate, if_pos (by simpa using (List.getElem?_eq_some_iff.1 hk).1)]))
      (fun k j c d hk hj hcn hdn hne => hc.far k j (VC.core w.heap.size c) (VC.core w.heap.size d) (by rw [List.getElem?_map, hk]; rfl) (by rw [List.getElem?_map, hj]; rfl) hcn hdn hne (by rw [List.getElem?_replicate, if_pos (by simpa using (List.getElem?_eq_some_iff.1 hk).1)]) (by rw [List.getElem?_replicate, if_pos (by simpa using (List.getElem?_eq_some_iff.1 hj).1)]))
    obtain ⟨gs, rs, e1, e0, e2, e3, e4, e5, -⟩ := lay_open T vs hlay
    have hM := H.on hc.bel
    have hb := Nat.le_trans H.le H.bel.size
    refine hend gs rs _ w' e1 e0 (F.over hnd hN (slots T gs rs) (fun x hx => ?_) fun s v hs => ?_) ⟨hM.le, hM.bel, hM.oth, fun x hx => ?_, fun x hx => ?_, ?_⟩
    · obtain ⟨k, hk, rfl⟩ := List.getElem_of_mem hx
      refine ⟨k, ?_, ?_⟩
      · rw [← slots_d T gs rs, List.getElem?_map, List.getElem?_eq_getElem hk]; rfl
      · rw [e2, List.getElem?_map, List.getElem?_eq_getElem hk]; rfl
    · rcases lk_app _ _ _ _ hs with h | h
      · exact Or.inl h
      · right; rwa [slots_d] at h
    · rcases List.mem_append.1 hx with hx | hx
      · exact e3 x hx
      · exact hM.at_ x hx
    · rcases List.mem_append.1 hx with hx | hx
      · exact Nat.le_trans hb (e4 _ (blocks_in T gs x hx))
      · exact hM.own x hx
    · rw [List.map_append, List.nodup_append]
      refine ⟨blocks_nd T gs e5, hM.nd, fun x hx y hy e => ?_⟩
      obtain ⟨z, hz, rfl⟩ := List.mem_map.1 hx
      obtain ⟨z', hz', rfl⟩ := List.mem_map.1 hy
      have h1 := e4 _ (blocks_in T gs z hz)
      have h2 := H.lt z' hz'
      omega
variable {W : World} {cores : List Core}
/-- an operation that reads what was there ahead of the region, as a step -/
theorem coreB (c : Core) (op : Op) (ty : TypeId) (pos : String) (after : Array Edge) (u : Value)
    (ho : ops[c.i]? = some ⟨some c.d, op, ty, pos, after, none⟩) (hk : c.kind = Kind.val u)
    (h : ∀ (ρ : Operand → Value) (w : World), (∀ (x : Operand) (v : Value), Known a cores c.pre x v → ρ x = v) → Below W.heap.size W w → (execOp ρ ⟨some c.d, op, ty, pos, after, none⟩).run P w = .ok (.value u) w) : StepOK P ops Q a W cores c := by
  intro vs w hl hb hp o ho' K hK
  rw [ho] at ho'
  obtain rfl := Option.some.inj ho'
  refine want_none rfl (wp_of_run_value (h _ w (fun x v hx => hx vs w hl hp) hb) ?_)
  exact hK.out _ _ (Below.refl _ _) (by rw [hk]; exact rfl) (fun h => by rw [hk] at h; cases h)
end
end Go.Proofs.Ytodlpmepoakdlaa
