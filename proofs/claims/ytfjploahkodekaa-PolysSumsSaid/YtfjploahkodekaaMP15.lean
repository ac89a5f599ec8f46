/-
  PolysSums: walked.
-/
import Derived.Test.YtfjploahkodekaaMP11
import Derived.Test.YtfjploahkodekaaMShort
import Derived.Deep.Cut
namespace Go.Proofs.Ytfjploahkodekaa
set_option maxRecDepth 100000
open Go.RowKit
set_option linter.unusedSimpArgs false
set_option linter.unusedVariables false
attribute [local go_sem ↓] Go.wp_at_zero Go.wp_at_succ

theorem LieAt.of_rn2 {n0 : Nat} {w : World} {g o n cap : Nat} {xs : List Nat} (r : RN n0 w (some ⟨g, o, none⟩) n cap xs) : LieAt w g o xs := fun i x hx => by
  obtain ⟨hi, rfl⟩ := List.getElem?_eq_some_iff.1 hx
  obtain ⟨g', o', e, _, _, hc⟩ := r.get (show i < n by rw [← r.1]; exact hi)
  cases e
  exact hc w (Below.refl _ _)
theorem run_app02 (a : Option Addr) (c : Nat) (ty : TypeId) (w : World) : (Builtin.append_ #[27, 27] ty #[.slice none 0 0, .slice a 0 c]).run Try.prog w = .ok (.slice none 0 0) w := by
  obtain ⟨i0, hi, hz0, hz1, hz2⟩ := info_parts Try.infoNum
  cases a with
  | none => simp [Builtin.append_, run_underlying Try.underlying27, sizeOf, typeInfo, hi, Builtin.lenOf, Builtin.firstCells]
  | some a =>
    have hl : (loadCells a 0).run Try.prog w = .ok #[] w := run_loadCells_list (P := Try.prog) w a [] (by simp)
    simp [Builtin.append_, run_underlying Try.underlying27, sizeOf, typeInfo, hi, Builtin.lenOf, Builtin.firstCells, hl]
abbrev s2cs (s u : Value) : Array Value := #[s, u]
section
variable {x y : Operand} {dst : Option Tmp} {ty : TypeId} {pos : String} {after : Array Edge} {guard : Option (Nat × Bool)} {ρ : Operand → Value} {w : World} {g : Nat}
theorem o_boxS {s u : Value} (hx : ρ x = .agg #[s, u]) : (execOp ρ ⟨dst, .box 36 x, ty, pos, after, guard⟩).run Try.prog w = .ok (.value (.pointer (some ⟨w.heap.size, 0, none⟩))) (w.alloc (.cells (s2cs s u) 36)) := by simp [execOp, hx, go_sem]
theorem o_idxS0 (hx : ρ x = .pointer (some ⟨g, 0, none⟩)) (hy : ρ y = .int .i64 0) : (execOp ρ ⟨dst, .indexAddr 36 x y, ty, pos, after, guard⟩).run Try.prog w = .ok (.value (.pointer (some ⟨g, 0, none⟩))) w := by simp [execOp, hx, hy, go_sem]
theorem o_loadS0 {s u : Value} (hx : ρ x = .pointer (some ⟨g, 0, none⟩)) (h : At w g 36 (s2cs s u)) : (execOp ρ ⟨dst, .load 27 x, ty, pos, after, guard⟩).run Try.prog w = .ok (.value s) w := by
  have c : w.cell? ⟨g, 0, none⟩ = some s := h.cell 0
  simp [execOp, hx, go_sem, c]
theorem o_idxS1 (hx : ρ x = .pointer (some ⟨g, 0, none⟩)) (hy : ρ y = .int .i64 1) : (execOp ρ ⟨dst, .indexAddr 36 x y, ty, pos, after, guard⟩).run Try.prog w = .ok (.value (.pointer (some ⟨g, 1, none⟩))) w := by simp [execOp, hx, hy, go_sem]
theorem o_loadS1 {s u : Value} (hx : ρ x = .pointer (some ⟨g, 1, none⟩)) (h : At w g 36 (s2cs s u)) : (execOp ρ ⟨dst, .load 27 x, ty, pos, after, guard⟩).run Try.prog w = .ok (.value u) w := by
  have c : w.cell? ⟨g, 1, none⟩ = some u := h.cell 1
  simp [execOp, hx, go_sem, c]
end
/-- a copy of a slice, in a row of one's own; the other lists stay -/
theorem copyR2 {n0 : Nat} {w0 w : World} {A R : List (Nat × TypeId × Array Value)} {dst : Option Tmp} {ρ : Operand → Value} {xs : List Nat} {a : Option Addr} {n c : Nat} {x : Operand} {ty : TypeId} {pos : String} {after : Array Edge} {gd : Option (Nat × Bool)} (H : Mem n0 w0 w (A ++ R)) (r : RN w.heap.size w a n c xs) (hs : ρ (.const (.slice none 0 0)) = .slice none 0 0) (hx : ρ x = .slice a n c) (hb : n ≤ 1000) :
    ∃ v' w', (execOp ρ ⟨dst, .call { callee := .builtin .append, args := #[.const (.slice none 0 0), x], argTypes := #[27, 27] }, ty, pos, after, gd⟩).run Try.prog w = .ok (.value v') w' ∧ ∃ R', Mem n0 w0 w' (A ++ R') ∧ LR R' v' xs ∧ ∀ v1 zs, LR R v1 zs → LR R' v1 zs ∧ Dj v' v1 := by
  by_cases h0 : xs = []
  · subst h0
    obtain rfl : n = 0 := r.1.symm
    have hr := run_app02 a c ty w
    refine ⟨_, w, ?_, R, H, LR.nil R, fun v1 zs h => ⟨h, dj_nil _⟩⟩
    unfold execOp
    simp only [resolve, invoke, builtin, Sem.run_bind, Sem.run_pure, Result.andThen_ok, List.map_toArray, List.map_cons, List.map_nil, hs, hx, hr]
  · obtain ⟨g, o, rfl, _⟩ := r.get (i := 0) (by rw [← r.1]; exact List.length_pos_iff.2 h0)
    obtain ⟨v', w', hrun, R', HM, l, k⟩ := appR (dst := dst) (ty := ty) (pos := pos) (after := after) (gd := gd) H (LR.nil R) hs hx r.1 (LieAt.of_rn2 r) (by simpa using h0) (by simp; omega)
    exact ⟨v', w', hrun, R', HM, by simpa using l, fun v1 zs h => k v1 zs h (dj_nil _)⟩
section
variable {P : Program} {ops : Array Oper} {Q : Exit → Act → World → Prop} {a : Act} {w : World} {N : Nat} {L : List (Nat × Value)} {df : List Deferred} {S : World → Prop} {md : Region.Mode} {fuel n : Nat} {listed : Array Bool}
/-- a step that may come up next -/
def Stp (P : Program) (md : Region.Mode) (ops : Array Oper) (Q : Exit → Act → World → Prop) (S : World → Prop) (fuel : Nat) (listed : Array Bool) (a : Act) (w : World) (i : Nat) (o : Oper) : Prop :=
  ∀ K' : Act → World → Prop, Shut (∀ a w, S w → (S w → wpAnyH P md ops Q S fuel (listed.setIfInBounds i true) a w) → K' a w) → if Region.wanted o (yielded ops a.tmps) = true then Oper.wp P o a w K' Q else K' (a.put o.dst undef) w
theorem stp_val {i d : Nat} {o : Oper} {v : Value} {w' : World} (F : Fr a N L df) (hg : o.guard = none) (hdst : o.dst = some d) (hd : Nat.blt d N = true) (hrun : (execOp a.eval o).run P w = .ok (.value v) w') (hS : S w')
    (h : ∀ a', Fr a' N ((d, v) :: L) df → wpAnyH P md ops Q S fuel (listed.setIfInBounds i true) a' w') : Stp P md ops Q S fuel listed a w i o := fun K hK => want_none hg (wp_of_run_value hrun (by
    rw [hdst]
    exact hK.out _ _ hS fun _ => h _ (F.put v hd)))
theorem sx_ready1 {i : Nat} {oi : Oper} (hr : Region.ready md ops listed = [i]) (hi : ops[i]? = some oi) (h1 : Stp P md ops Q S fuel listed a w i oi) : wpAnyH P md ops Q S (fuel + 1) listed a w :=
  wpAnyH_ready hr (by simp) (.cons hi h1 .nil)
theorem sx_ready2 {i j : Nat} {oi oj : Oper} (hr : Region.ready md ops listed = [i, j]) (hi : ops[i]? = some oi) (hj : ops[j]? = some oj) (h1 : Stp P md ops Q S fuel listed a w i oi) (h2 : Stp P md ops Q S fuel listed a w j oj) : wpAnyH P md ops Q S (fuel + 1) listed a w :=
  wpAnyH_ready hr (by simp) (.cons hi h1 (.cons hj h2 .nil))
theorem sx_ready3 {i j k : Nat} {oi oj ok : Oper} (hr : Region.ready md ops listed = [i, j, k]) (hi : ops[i]? = some oi) (hj : ops[j]? = some oj) (hk : ops[k]? = some ok) (h1 : Stp P md ops Q S fuel listed a w i oi) (h2 : Stp P md ops Q S fuel listed a w j oj) (h3 : Stp P md ops Q S fuel listed a w k ok) : wpAnyH P md ops Q S (fuel + 1) listed a w :=
  wpAnyH_ready hr (by simp) (.cons hi h1 (.cons hj h2 (.cons hk h3 .nil)))
theorem fork_have {n : Nat} {D : Array Bool → Act → World → Prop} (fuel : Nat) (h1 : ∀ l a w, D l a w → wpAnyH P md ops Q S fuel l a w) (h2 : (∀ l a w, D l a w → wpAnyH P md ops Q S fuel l a w) → wpAnyH P md ops Q S n listed a w) : wpAnyH P md ops Q S n listed a w := h2 h1
end
theorem evZ_sum {Q : Nat} (x : Int) : ∀ (ps qs : List Nat), ps.length = qs.length → Cg Q (evZ (zs (List.zipWith (fun u v => (u + v) % Q) ps qs)) x) (evZ (zs ps) x + evZ (zs qs) x)
  | [], [], _ => Cg.of_eq (by simp [zs, evZ])
  | a :: p, b :: q, h => by
    have ih := evZ_sum (Q := Q) x p q (by simpa using h)
    have m1 : Cg Q (((a + b) % Q : Nat) : Int) ((a : Int) + (b : Int)) := by rw [Int.natCast_emod, Int.natCast_add]; exact Cg.emod Q _
    have h3 := m1.add ((Cg.refl Q x).mul ih)
    simp only [List.zipWith_cons_cons, zs, List.map_cons, evZ] at h3 ⊢
    exact h3.trans (Cg.of_eq (by grind))
theorem evZ_times {Q : Nat} (Y : Nat) (x : Int) : ∀ (ps : List Nat), Cg Q (evZ (zs (ps.map fun u => u * Y % Q)) x) (evZ (zs ps) x * (Y : Int))
  | [] => Cg.of_eq (by simp [zs, evZ])
  | a :: p => by
    have ih := evZ_times (Q := Q) Y x p
    have m1 : Cg Q ((a * Y % Q : Nat) : Int) ((a : Int) * (Y : Int)) := by rw [Int.natCast_emod, Int.natCast_mul]; exact Cg.emod Q _
    have h3 := m1.add ((Cg.refl Q x).mul ih)
    simp only [zs, List.map_cons, evZ] at h3 ⊢
    exact h3.trans (Cg.of_eq (by grind))
theorem sum_val {Q X : Nat} {ps qs : List Nat} (h1 : 1 < Q) (h : ps.length = qs.length) : sofN Q (evZ (zs (List.zipWith (fun u v => (u + v) % Q) ps qs)) (X : Int)) = (sofN Q (evZ (zs ps) X) + sofN Q (evZ (zs qs) X)) % Q := by
  rw [sof_add h1]
  exact sof_of_cg h1 (evZ_sum _ _ _ h)
theorem times_val {Q X Y : Nat} {ps : List Nat} (h1 : 1 < Q) (hY : Y < Q) : sofN Q (evZ (zs (ps.map fun u => u * Y % Q)) (X : Int)) = sofN Q (evZ (zs ps) X) * Y % Q := by
  have h := sof_mul h1 (evZ (zs ps) X) (Y : Int)
  rw [sof_self hY h1] at h
  rw [h]
  exact sof_of_cg h1 (evZ_times _ _ _)
theorem grown_val {Q X Y : Nat} {ps : List Nat} (h1 : 1 < Q) (hY : Y < Q) : sofN Q (evZ (zs (ps ++ [Y])) (X : Int)) = (sofN Q (evZ (zs ps) X) + Y * sofN Q ((X : Int) ^ ps.length) % Q) % Q := by
  have h := sof_mul h1 (Y : Int) ((X : Int) ^ ps.length)
  rw [sof_self hY h1] at h
  rw [h, sof_add h1]
  have e : evZ (zs (ps ++ [Y])) (X : Int) = evZ (zs ps) X + (Y : Int) * (X : Int) ^ ps.length := by
    have e1 : zs (ps ++ [Y]) = zs ps ++ zs [Y] := by simp [zs]
    rw [e1, evZ_app, zs_len]
    simp only [zs, List.map_cons, List.map_nil, evZ]
    grind
  rw [e]
theorem power_val {Q X : Nat} {i : Nat} (h1 : 1 < Q) (hX : X < Q) : sofN Q ((X : Int) ^ i) * X % Q = sofN Q ((X : Int) ^ (i + 1)) := by
  have h := sof_mul h1 ((X : Int) ^ i) (X : Int)
  rw [sof_self hX h1] at h
  rw [h, Int.pow_succ]
set_option maxRecDepth 100000 in
set_option maxHeartbeats 800000 in
theorem psm_l (P Q G H k cap m capb X Y : Nat) (pa pb : Option Addr) (ps qs : List Nat) (w0 : World) (hQ : Q < 2 ^ 256) (hX : X < 2 ^ 256) (hY : Y < 2 ^ 256) (rp : RN w0.heap.size w0 pa k cap ps) (rq : RN w0.heap.size w0 pb m capb qs) (hk : 20 < k) : Calls Try.prog 5 #[grp P Q G H, .agg #[.slice pa k cap, .slice pb m capb], arr2 X Y] w0 fun e w' => e = .returned (.bool true) ∧ Below w0.heap.size w0 w' := by
  refine sx_enter (args := [grp P Q G H, .agg #[.slice pa k cap, .slice pb m capb], arr2 X Y]) Try.func5 rfl Try.ntmps5 (by rfl) fun a F HM => ?_
  repeat (first | refine ex_then ?_ | refine ex_block ?_ | refine wp_seq ?_ | refine wp_block ?_ | refine wp_skip ?_)
  refine wp_region_lit ?_
  refine lx_new F HM (wanted_none rfl _) rfl (by rfl) (o_boxG (F.ev rfl)) fun a w gg F HM => ?_
  refine lx_new F HM (wanted_none rfl _) rfl (by rfl) (o_boxS (F.ev rfl)) fun a w gz F HM => ?_
  refine lx_new F HM (wanted_none rfl _) rfl (by rfl) (o_boxA (F.ev rfl)) fun a w gn F HM => ?_
  refine lx_value (v := .bool false) F (wanted_none rfl _) rfl (by rfl) (o_assign rfl) fun a F => ?_
  refine lx_nil ?_
  repeat (first | refine ex_then ?_ | refine ex_block ?_ | refine wp_seq ?_ | refine wp_block ?_ | refine wp_skip ?_)
  refine wp_region_lit ?_
  refine lx_call F (wanted_none rfl _) rfl (by rfl) (run_callF Try.func7 (by kernel_rfl) (by rfl) .nil _) (alive10_any _) fun a w z F => ?_
  replace HM := HM.on z
  clear z
  refine lx_value (v := .bool false) F (wanted_none rfl _) rfl (by rfl) (o_not (b := true) (r := false) (F.ev rfl) rfl) fun a F => ?_
  refine lx_value (v := .bool false) F (wanted_none rfl _) rfl (by rfl) (o_move (F.ev rfl)) fun a F => ?_
  refine lx_value (v := .pointer (some ⟨gz, 0, none⟩)) F (F.want (t := 35) (c := false) rfl rfl rfl (by rfl) rfl) rfl (by rfl) (o_idxS0 (F.ev rfl) rfl) fun a F => ?_
  refine lx_value (v := .slice pa k cap) F (F.want (t := 35) (c := false) rfl rfl rfl (by rfl) rfl) rfl (by rfl) (o_loadS0 (F.ev rfl) (HM.get 1 rfl)) fun a F => ?_
  refine lx_value (v := .int .i64 (k : Nat)) F (F.want (t := 35) (c := false) rfl rfl rfl (by rfl) rfl) rfl (by rfl) (o_len (F.ev rfl)) fun a F => ?_
  refine lx_value (v := .bool true) F (F.want (t := 35) (c := false) rfl rfl rfl (by rfl) rfl) rfl (by rfl) (o_bin (u := .int .i64 (k : Nat)) (v := .int .i64 20) (fun ρ hx hy => by simp only [execOp, hx, hy]; simp [go_sem]; omega) (F.ev rfl) rfl) fun a F => ?_
  refine lx_value (v := .bool true) F (wanted_none rfl _) rfl (by rfl) (o_pick (b := false) (r := .bool true) (F.ev rfl) rfl (F.ev rfl) rfl) fun a F => ?_
  refine lx_value (v := .bool true) F (wanted_none rfl _) rfl (by rfl) (o_move (F.ev rfl)) fun a F => ?_
  refine lx_pass F (F.want (t := 41) (c := true) rfl rfl rfl (by rfl) rfl) rfl (by rfl) fun a F => ?_
  refine lx_pass F (F.want (t := 41) (c := true) rfl rfl rfl (by rfl) rfl) rfl (by rfl) fun a F => ?_
  refine lx_pass F (F.want (t := 41) (c := true) rfl rfl rfl (by rfl) rfl) rfl (by rfl) fun a F => ?_
  refine lx_pass F (F.want (t := 41) (c := true) rfl rfl rfl (by rfl) rfl) rfl (by rfl) fun a F => ?_
  refine lx_pass F (F.want (t := 41) (c := true) rfl rfl rfl (by rfl) rfl) rfl (by rfl) fun a F => ?_
  refine lx_pass F (F.want (t := 41) (c := true) rfl rfl rfl (by rfl) rfl) rfl (by rfl) fun a F => ?_
  refine lx_pass F (F.want (t := 41) (c := true) rfl rfl rfl (by rfl) rfl) rfl (by rfl) fun a F => ?_
  refine lx_value (v := .bool true) F (wanted_none rfl _) rfl (by rfl) (o_pick (b := true) (r := .bool true) (F.ev rfl) rfl (F.ev rfl) rfl) fun a F => ?_
  refine lx_nil ?_
  repeat (first | refine ex_then ?_ | refine ex_block ?_ | refine wp_seq ?_ | refine wp_block ?_ | refine wp_skip ?_)
  refine wp_cond_true (F.ev rfl) ?_
  repeat (first | refine ex_then ?_ | refine ex_block ?_ | refine wp_seq ?_ | refine wp_block ?_ | refine wp_skip ?_)
  refine wp_region_lit ?_
  refine lx_call F (wanted_none rfl _) rfl (by rfl) (run_callF Try.func7 (by kernel_rfl) (by rfl) .nil _) (alive10_any _) fun a w z F => ?_
  replace HM := HM.on z
  clear z
  refine lx_value (v := .bool true) F (wanted_none rfl _) rfl (by rfl) (o_assign (F.ev rfl)) fun a F => ?_
  refine lx_nil ?_
  repeat (first | refine ex_then ?_ | refine ex_block ?_ | refine wp_seq ?_ | refine wp_block ?_ | refine wp_skip ?_)
  refine wp_ret ?_
  repeat (first | refine ex_thenR ?_ | refine ex_blockR ?_)
  exact sx_ret F HM (res_tmp F rfl (s := 6) rfl)

set_option maxRecDepth 100000 in
set_option maxHeartbeats 800000 in
theorem psm_d (P Q G H k cap m capb X Y : Nat) (pa pb : Option Addr) (ps qs : List Nat) (w0 : World) (hQ : Q < 2 ^ 256) (hX : X < 2 ^ 256) (hY : Y < 2 ^ 256) (rp : RN w0.heap.size w0 pa k cap ps) (rq : RN w0.heap.size w0 pb m capb qs) (hk : ¬ 20 < k) (hm : k ≠ m) : Calls Try.prog 5 #[grp P Q G H, .agg #[.slice pa k cap, .slice pb m capb], arr2 X Y] w0 fun e w' => e = .returned (.bool true) ∧ Below w0.heap.size w0 w' := by
  refine sx_enter (args := [grp P Q G H, .agg #[.slice pa k cap, .slice pb m capb], arr2 X Y]) Try.func5 rfl Try.ntmps5 (by rfl) fun a F HM => ?_
  repeat (first | refine ex_then ?_ | refine ex_block ?_ | refine wp_seq ?_ | refine wp_block ?_ | refine wp_skip ?_)
  refine wp_region_lit ?_
  refine lx_new F HM (wanted_none rfl _) rfl (by rfl) (o_boxG (F.ev rfl)) fun a w gg F HM => ?_
  refine lx_new F HM (wanted_none rfl _) rfl (by rfl) (o_boxS (F.ev rfl)) fun a w gz F HM => ?_
  refine lx_new F HM (wanted_none rfl _) rfl (by rfl) (o_boxA (F.ev rfl)) fun a w gn F HM => ?_
  refine lx_value (v := .bool false) F (wanted_none rfl _) rfl (by rfl) (o_assign rfl) fun a F => ?_
  refine lx_nil ?_
  repeat (first | refine ex_then ?_ | refine ex_block ?_ | refine wp_seq ?_ | refine wp_block ?_ | refine wp_skip ?_)
  refine wp_region_lit ?_
  refine lx_call F (wanted_none rfl _) rfl (by rfl) (run_callF Try.func7 (by kernel_rfl) (by rfl) .nil _) (alive10_any _) fun a w z F => ?_
  replace HM := HM.on z
  clear z
  refine lx_value (v := .bool false) F (wanted_none rfl _) rfl (by rfl) (o_not (b := true) (r := false) (F.ev rfl) rfl) fun a F => ?_
  refine lx_value (v := .bool false) F (wanted_none rfl _) rfl (by rfl) (o_move (F.ev rfl)) fun a F => ?_
  refine lx_value (v := .pointer (some ⟨gz, 0, none⟩)) F (F.want (t := 35) (c := false) rfl rfl rfl (by rfl) rfl) rfl (by rfl) (o_idxS0 (F.ev rfl) rfl) fun a F => ?_
  refine lx_value (v := .slice pa k cap) F (F.want (t := 35) (c := false) rfl rfl rfl (by rfl) rfl) rfl (by rfl) (o_loadS0 (F.ev rfl) (HM.get 1 rfl)) fun a F => ?_
  refine lx_value (v := .int .i64 (k : Nat)) F (F.want (t := 35) (c := false) rfl rfl rfl (by rfl) rfl) rfl (by rfl) (o_len (F.ev rfl)) fun a F => ?_
  refine lx_value (v := .bool false) F (F.want (t := 35) (c := false) rfl rfl rfl (by rfl) rfl) rfl (by rfl) (o_bin (u := .int .i64 (k : Nat)) (v := .int .i64 20) (fun ρ hx hy => by simp only [execOp, hx, hy]; simp [go_sem]; omega) (F.ev rfl) rfl) fun a F => ?_
  refine lx_value (v := .bool false) F (wanted_none rfl _) rfl (by rfl) (o_pick (b := false) (r := .bool false) (F.ev rfl) rfl (F.ev rfl) rfl) fun a F => ?_
  refine lx_value (v := .bool false) F (wanted_none rfl _) rfl (by rfl) (o_move (F.ev rfl)) fun a F => ?_
  refine lx_value (v := .pointer (some ⟨gz, 0, none⟩)) F (F.want (t := 41) (c := false) rfl rfl rfl (by rfl) rfl) rfl (by rfl) (o_idxS0 (F.ev rfl) rfl) fun a F => ?_
  refine lx_value (v := .slice pa k cap) F (F.want (t := 41) (c := false) rfl rfl rfl (by rfl) rfl) rfl (by rfl) (o_loadS0 (F.ev rfl) (HM.get 1 rfl)) fun a F => ?_
  refine lx_value (v := .int .i64 (k : Nat)) F (F.want (t := 41) (c := false) rfl rfl rfl (by rfl) rfl) rfl (by rfl) (o_len (F.ev rfl)) fun a F => ?_
  refine lx_value (v := .pointer (some ⟨gz, 1, none⟩)) F (F.want (t := 41) (c := false) rfl rfl rfl (by rfl) rfl) rfl (by rfl) (o_idxS1 (F.ev rfl) rfl) fun a F => ?_
  refine lx_value (v := .slice pb m capb) F (F.want (t := 41) (c := false) rfl rfl rfl (by rfl) rfl) rfl (by rfl) (o_loadS1 (F.ev rfl) (HM.get 1 rfl)) fun a F => ?_
  refine lx_value (v := .int .i64 (m : Nat)) F (F.want (t := 41) (c := false) rfl rfl rfl (by rfl) rfl) rfl (by rfl) (o_len (F.ev rfl)) fun a F => ?_
  refine lx_value (v := .bool true) F (F.want (t := 41) (c := false) rfl rfl rfl (by rfl) rfl) rfl (by rfl) (o_neqI (b := false) (decide_eq_false (by omega)) (F.ev rfl) (F.ev rfl) rfl) fun a F => ?_
  refine lx_value (v := .bool true) F (wanted_none rfl _) rfl (by rfl) (o_pick (b := false) (r := .bool true) (F.ev rfl) rfl (F.ev rfl) rfl) fun a F => ?_
  refine lx_nil ?_
  repeat (first | refine ex_then ?_ | refine ex_block ?_ | refine wp_seq ?_ | refine wp_block ?_ | refine wp_skip ?_)
  refine wp_cond_true (F.ev rfl) ?_
  repeat (first | refine ex_then ?_ | refine ex_block ?_ | refine wp_seq ?_ | refine wp_block ?_ | refine wp_skip ?_)
  refine wp_region_lit ?_
  refine lx_call F (wanted_none rfl _) rfl (by rfl) (run_callF Try.func7 (by kernel_rfl) (by rfl) .nil _) (alive10_any _) fun a w z F => ?_
  replace HM := HM.on z
  clear z
  refine lx_value (v := .bool true) F (wanted_none rfl _) rfl (by rfl) (o_assign (F.ev rfl)) fun a F => ?_
  refine lx_nil ?_
  repeat (first | refine ex_then ?_ | refine ex_block ?_ | refine wp_seq ?_ | refine wp_block ?_ | refine wp_skip ?_)
  refine wp_ret ?_
  repeat (first | refine ex_thenR ?_ | refine ex_blockR ?_)
  exact sx_ret F HM (res_tmp F rfl (s := 6) rfl)

set_option maxRecDepth 100000 in
set_option maxHeartbeats 800000 in
theorem psm_e1 (P Q G H k cap capb X Y : Nat) (pa pb : Option Addr) (ps qs : List Nat) (w0 : World) (hQ : Q < 2 ^ 256) (hX : X < 2 ^ 256) (hY : Y < 2 ^ 256) (rp : RN w0.heap.size w0 pa k cap ps) (rq : RN w0.heap.size w0 pb k capb qs) (hk : ¬ 20 < k) (hA : atB Q X ps = false) (hB : atB Q X qs = false) : Calls Try.prog 5 #[grp P Q G H, .agg #[.slice pa k cap, .slice pb k capb], arr2 X Y] w0 fun e w' => e = .returned (.bool true) ∧ Below w0.heap.size w0 w' := by
  refine sx_enter (args := [grp P Q G H, .agg #[.slice pa k cap, .slice pb k capb], arr2 X Y]) Try.func5 rfl Try.ntmps5 (by rfl) fun a F HM => ?_
  repeat (first | refine ex_then ?_ | refine ex_block ?_ | refine wp_seq ?_ | refine wp_block ?_ | refine wp_skip ?_)
  refine wp_region_lit ?_
  refine lx_new F HM (wanted_none rfl _) rfl (by rfl) (o_boxG (F.ev rfl)) fun a w gg F HM => ?_
  refine lx_new F HM (wanted_none rfl _) rfl (by rfl) (o_boxS (F.ev rfl)) fun a w gz F HM => ?_
  refine lx_new F HM (wanted_none rfl _) rfl (by rfl) (o_boxA (F.ev rfl)) fun a w gn F HM => ?_
  refine lx_value (v := .bool false) F (wanted_none rfl _) rfl (by rfl) (o_assign rfl) fun a F => ?_
  refine lx_nil ?_
  repeat (first | refine ex_then ?_ | refine ex_block ?_ | refine wp_seq ?_ | refine wp_block ?_ | refine wp_skip ?_)
  refine wp_region_lit ?_
  refine lx_call F (wanted_none rfl _) rfl (by rfl) (run_callF Try.func7 (by kernel_rfl) (by rfl) .nil _) (alive10_any _) fun a w z F => ?_
  replace HM := HM.on z
  clear z
  refine lx_value (v := .bool false) F (wanted_none rfl _) rfl (by rfl) (o_not (b := true) (r := false) (F.ev rfl) rfl) fun a F => ?_
  refine lx_value (v := .bool false) F (wanted_none rfl _) rfl (by rfl) (o_move (F.ev rfl)) fun a F => ?_
  refine lx_value (v := .pointer (some ⟨gz, 0, none⟩)) F (F.want (t := 35) (c := false) rfl rfl rfl (by rfl) rfl) rfl (by rfl) (o_idxS0 (F.ev rfl) rfl) fun a F => ?_
  refine lx_value (v := .slice pa k cap) F (F.want (t := 35) (c := false) rfl rfl rfl (by rfl) rfl) rfl (by rfl) (o_loadS0 (F.ev rfl) (HM.get 1 rfl)) fun a F => ?_
  refine lx_value (v := .int .i64 (k : Nat)) F (F.want (t := 35) (c := false) rfl rfl rfl (by rfl) rfl) rfl (by rfl) (o_len (F.ev rfl)) fun a F => ?_
  refine lx_value (v := .bool false) F (F.want (t := 35) (c := false) rfl rfl rfl (by rfl) rfl) rfl (by rfl) (o_bin (u := .int .i64 (k : Nat)) (v := .int .i64 20) (fun ρ hx hy => by simp only [execOp, hx, hy]; simp [go_sem]; omega) (F.ev rfl) rfl) fun a F => ?_
  refine lx_value (v := .bool false) F (wanted_none rfl _) rfl (by rfl) (o_pick (b := false) (r := .bool false) (F.ev rfl) rfl (F.ev rfl) rfl) fun a F => ?_
  refine lx_value (v := .bool false) F (wanted_none rfl _) rfl (by rfl) (o_move (F.ev rfl)) fun a F => ?_
  refine lx_value (v := .pointer (some ⟨gz, 0, none⟩)) F (F.want (t := 41) (c := false) rfl rfl rfl (by rfl) rfl) rfl (by rfl) (o_idxS0 (F.ev rfl) rfl) fun a F => ?_
  refine lx_value (v := .slice pa k cap) F (F.want (t := 41) (c := false) rfl rfl rfl (by rfl) rfl) rfl (by rfl) (o_loadS0 (F.ev rfl) (HM.get 1 rfl)) fun a F => ?_
  refine lx_value (v := .int .i64 (k : Nat)) F (F.want (t := 41) (c := false) rfl rfl rfl (by rfl) rfl) rfl (by rfl) (o_len (F.ev rfl)) fun a F => ?_
  refine lx_value (v := .pointer (some ⟨gz, 1, none⟩)) F (F.want (t := 41) (c := false) rfl rfl rfl (by rfl) rfl) rfl (by rfl) (o_idxS1 (F.ev rfl) rfl) fun a F => ?_
  refine lx_value (v := .slice pb k capb) F (F.want (t := 41) (c := false) rfl rfl rfl (by rfl) rfl) rfl (by rfl) (o_loadS1 (F.ev rfl) (HM.get 1 rfl)) fun a F => ?_
  refine lx_value (v := .int .i64 (k : Nat)) F (F.want (t := 41) (c := false) rfl rfl rfl (by rfl) rfl) rfl (by rfl) (o_len (F.ev rfl)) fun a F => ?_
  refine lx_value (v := .bool false) F (F.want (t := 41) (c := false) rfl rfl rfl (by rfl) rfl) rfl (by rfl) (o_neqI (b := true) (decide_eq_true (by omega)) (F.ev rfl) (F.ev rfl) rfl) fun a F => ?_
  refine lx_value (v := .bool false) F (wanted_none rfl _) rfl (by rfl) (o_pick (b := false) (r := .bool false) (F.ev rfl) rfl (F.ev rfl) rfl) fun a F => ?_
  refine lx_nil ?_
  repeat (first | refine ex_then ?_ | refine ex_block ?_ | refine wp_seq ?_ | refine wp_block ?_ | refine wp_skip ?_)
  refine wp_cond_false (F.ev rfl) ?_
  repeat (first | refine ex_then ?_ | refine ex_block ?_ | refine wp_seq ?_ | refine wp_block ?_ | refine wp_skip ?_)
  refine wp_region_lit ?_
  refine lx_value (v := grp P Q G H) F (wanted_none rfl _) rfl (by rfl) (o_loadG (F.ev rfl) (HM.get 2 rfl)) fun a F => ?_
  refine lx_value (v := .pointer (some ⟨gz, 0, none⟩)) F (wanted_none rfl _) rfl (by rfl) (o_idxS0 (F.ev rfl) rfl) fun a F => ?_
  refine lx_value (v := .slice pa k cap) F (wanted_none rfl _) rfl (by rfl) (o_loadS0 (F.ev rfl) (HM.get 1 rfl)) fun a F => ?_
  refine lx_value (v := .pointer (some ⟨gn, 0, none⟩)) F (wanted_none rfl _) rfl (by rfl) (o_idxA0 (F.ev rfl) rfl) fun a F => ?_
  refine lx_value (v := num X) F (wanted_none rfl _) rfl (by rfl) (o_loadA0 (F.ev rfl) (HM.get 0 rfl)) fun a F => ?_
  refine lx_call F (wanted_none rfl _) rfl (by rfl) (run_callF Try.func9 (by kernel_rfl) (by rfl) (.cons (F.ev rfl) (.cons (F.ev rfl) (.cons (F.ev rfl) .nil))) _) (at_no P Q G H X k cap pa ps _ hQ hX hA (rp.call HM.bel HM.bel.size)) fun a w z F => ?_
  replace HM := HM.on z
  clear z
  refine lx_value (v := .tuple #[num 0, .int .i64 1]) F (wanted_none rfl _) rfl (by rfl) (o_move (F.ev rfl)) fun a F => ?_
  refine lx_value (v := num 0) F (wanted_none rfl _) rfl (by rfl) (o_extract (F.ev rfl) rfl) fun a F => ?_
  refine lx_value (v := .int .i64 1) F (wanted_none rfl _) rfl (by rfl) (o_extract (F.ev rfl) rfl) fun a F => ?_
  refine lx_new F HM (wanted_none rfl _) rfl (by rfl) (o_allocN) fun a w ga F HM => ?_
  refine lx_store F HM (wanted_none rfl _) rfl (k := 0) rfl (o_storeN (F.ev rfl) (F.ev rfl) (HM.get 0 rfl)) (M2 := [(ga, 24, ncs 0), (gn, 37, acs X Y), (gz, 36, s2cs (.slice pa k cap) (.slice pb k capb)), (gg, 26, gcs P Q G H)]) (rfl) fun w HM => ?_
  refine lx_value (v := .int .i64 1) F (wanted_none rfl _) rfl (by rfl) (o_assign (F.ev rfl)) fun a F => ?_
  refine lx_nil ?_
  repeat (first | refine ex_then ?_ | refine ex_block ?_ | refine wp_seq ?_ | refine wp_block ?_ | refine wp_skip ?_)
  refine wp_region_lit ?_
  refine lx_value (v := grp P Q G H) F (wanted_none rfl _) rfl (by rfl) (o_loadG (F.ev rfl) (HM.get 3 rfl)) fun a F => ?_
  refine lx_value (v := .pointer (some ⟨gz, 1, none⟩)) F (wanted_none rfl _) rfl (by rfl) (o_idxS1 (F.ev rfl) rfl) fun a F => ?_
  refine lx_value (v := .slice pb k capb) F (wanted_none rfl _) rfl (by rfl) (o_loadS1 (F.ev rfl) (HM.get 2 rfl)) fun a F => ?_
  refine lx_value (v := .pointer (some ⟨gn, 0, none⟩)) F (wanted_none rfl _) rfl (by rfl) (o_idxA0 (F.ev rfl) rfl) fun a F => ?_
  refine lx_value (v := num X) F (wanted_none rfl _) rfl (by rfl) (o_loadA0 (F.ev rfl) (HM.get 1 rfl)) fun a F => ?_
  refine lx_call F (wanted_none rfl _) rfl (by rfl) (run_callF Try.func9 (by kernel_rfl) (by rfl) (.cons (F.ev rfl) (.cons (F.ev rfl) (.cons (F.ev rfl) .nil))) _) (at_no P Q G H X k capb pb qs _ hQ hX hB (rq.call HM.bel HM.bel.size)) fun a w z F => ?_
  replace HM := HM.on z
  clear z
  refine lx_value (v := .tuple #[num 0, .int .i64 1]) F (wanted_none rfl _) rfl (by rfl) (o_move (F.ev rfl)) fun a F => ?_
  refine lx_value (v := num 0) F (wanted_none rfl _) rfl (by rfl) (o_extract (F.ev rfl) rfl) fun a F => ?_
  refine lx_value (v := .int .i64 1) F (wanted_none rfl _) rfl (by rfl) (o_extract (F.ev rfl) rfl) fun a F => ?_
  refine lx_new F HM (wanted_none rfl _) rfl (by rfl) (o_allocN) fun a w gb F HM => ?_
  refine lx_store F HM (wanted_none rfl _) rfl (k := 0) rfl (o_storeN (F.ev rfl) (F.ev rfl) (HM.get 0 rfl)) (M2 := [(gb, 24, ncs 0), (ga, 24, ncs 0), (gn, 37, acs X Y), (gz, 36, s2cs (.slice pa k cap) (.slice pb k capb)), (gg, 26, gcs P Q G H)]) (rfl) fun w HM => ?_
  refine lx_value (v := .int .i64 1) F (wanted_none rfl _) rfl (by rfl) (o_assign (F.ev rfl)) fun a F => ?_
  refine lx_nil ?_
  repeat (first | refine ex_then ?_ | refine ex_block ?_ | refine wp_seq ?_ | refine wp_block ?_ | refine wp_skip ?_)
  refine wp_region_lit ?_
  refine lx_value (v := .int .i64 1) F (wanted_none rfl _) rfl (by rfl) (o_move (F.ev rfl)) fun a F => ?_
  refine lx_value (v := .bool true) F (wanted_none rfl _) rfl (by rfl) (o_bin (u := .int .i64 1) (v := .int .i64 0) (fun ρ hx hy => by simp only [execOp, hx, hy]; simp [go_sem]) (F.ev rfl) rfl) fun a F => ?_
  refine lx_value (v := .bool true) F (wanted_none rfl _) rfl (by rfl) (o_move (F.ev rfl)) fun a F => ?_
  refine lx_pass F (F.want (t := 71) (c := true) rfl rfl rfl (by rfl) rfl) rfl (by rfl) fun a F => ?_
  refine lx_pass F (F.want (t := 71) (c := true) rfl rfl rfl (by rfl) rfl) rfl (by rfl) fun a F => ?_
  refine lx_value (v := .bool true) F (wanted_none rfl _) rfl (by rfl) (o_pick (b := true) (r := .bool true) (F.ev rfl) rfl (F.ev rfl) rfl) fun a F => ?_
  refine lx_nil ?_
  repeat (first | refine ex_then ?_ | refine ex_block ?_ | refine wp_seq ?_ | refine wp_block ?_ | refine wp_skip ?_)
  refine wp_cond_true (F.ev rfl) ?_
  repeat (first | refine ex_then ?_ | refine ex_block ?_ | refine wp_seq ?_ | refine wp_block ?_ | refine wp_skip ?_)
  refine wp_region_lit ?_
  refine lx_value (v := .int .i64 1) F (wanted_none rfl _) rfl (by rfl) (o_move (F.ev rfl)) fun a F => ?_
  refine lx_value (v := .bool true) F (wanted_none rfl _) rfl (by rfl) (o_bin (u := .int .i64 1) (v := .int .i64 7) (fun ρ hx hy => by simp only [execOp, hx, hy]; simp [go_sem]) (F.ev rfl) rfl) fun a F => ?_
  refine lx_value (v := .bool true) F (wanted_none rfl _) rfl (by rfl) (o_move (F.ev rfl)) fun a F => ?_
  refine lx_value (v := .int .i64 1) F (F.want (t := 77) (c := true) rfl rfl rfl (by rfl) rfl) rfl (by rfl) (o_move (F.ev rfl)) fun a F => ?_
  refine lx_value (v := .bool true) F (F.want (t := 77) (c := true) rfl rfl rfl (by rfl) rfl) rfl (by rfl) (o_bin (u := .int .i64 1) (v := .int .i64 7) (fun ρ hx hy => by simp only [execOp, hx, hy]; simp [go_sem]) (F.ev rfl) rfl) fun a F => ?_
  refine lx_value (v := .bool true) F (wanted_none rfl _) rfl (by rfl) (o_pick (b := true) (r := .bool true) (F.ev rfl) (F.ev rfl) rfl rfl) fun a F => ?_
  refine lx_value (v := .bool true) F (wanted_none rfl _) rfl (by rfl) (o_assign (F.ev rfl)) fun a F => ?_
  refine lx_nil ?_
  repeat (first | refine ex_then ?_ | refine ex_block ?_ | refine wp_seq ?_ | refine wp_block ?_ | refine wp_skip ?_)
  refine wp_ret ?_
  repeat (first | refine ex_thenR ?_ | refine ex_blockR ?_)
  exact sx_ret F HM (res_tmp F rfl (s := 6) rfl)

set_option maxRecDepth 100000 in
set_option maxHeartbeats 800000 in
theorem psm_e2 (P Q G H k cap capb X Y : Nat) (pa pb : Option Addr) (ps qs : List Nat) (w0 : World) (hQ : Q < 2 ^ 256) (hX : X < 2 ^ 256) (hY : Y < 2 ^ 256) (rp : RN w0.heap.size w0 pa k cap ps) (rq : RN w0.heap.size w0 pb k capb qs) (hk : ¬ 20 < k) (hA : atB Q X ps = false) (hB : atB Q X qs = true) : Calls Try.prog 5 #[grp P Q G H, .agg #[.slice pa k cap, .slice pb k capb], arr2 X Y] w0 fun e w' => e = .returned (.bool true) ∧ Below w0.heap.size w0 w' := by
  refine sx_enter (args := [grp P Q G H, .agg #[.slice pa k cap, .slice pb k capb], arr2 X Y]) Try.func5 rfl Try.ntmps5 (by rfl) fun a F HM => ?_
  repeat (first | refine ex_then ?_ | refine ex_block ?_ | refine wp_seq ?_ | refine wp_block ?_ | refine wp_skip ?_)
  refine wp_region_lit ?_
  refine lx_new F HM (wanted_none rfl _) rfl (by rfl) (o_boxG (F.ev rfl)) fun a w gg F HM => ?_
  refine lx_new F HM (wanted_none rfl _) rfl (by rfl) (o_boxS (F.ev rfl)) fun a w gz F HM => ?_
  refine lx_new F HM (wanted_none rfl _) rfl (by rfl) (o_boxA (F.ev rfl)) fun a w gn F HM => ?_
  refine lx_value (v := .bool false) F (wanted_none rfl _) rfl (by rfl) (o_assign rfl) fun a F => ?_
  refine lx_nil ?_
  repeat (first | refine ex_then ?_ | refine ex_block ?_ | refine wp_seq ?_ | refine wp_block ?_ | refine wp_skip ?_)
  refine wp_region_lit ?_
  refine lx_call F (wanted_none rfl _) rfl (by rfl) (run_callF Try.func7 (by kernel_rfl) (by rfl) .nil _) (alive10_any _) fun a w z F => ?_
  replace HM := HM.on z
  clear z
  refine lx_value (v := .bool false) F (wanted_none rfl _) rfl (by rfl) (o_not (b := true) (r := false) (F.ev rfl) rfl) fun a F => ?_
  refine lx_value (v := .bool false) F (wanted_none rfl _) rfl (by rfl) (o_move (F.ev rfl)) fun a F => ?_
  refine lx_value (v := .pointer (some ⟨gz, 0, none⟩)) F (F.want (t := 35) (c := false) rfl rfl rfl (by rfl) rfl) rfl (by rfl) (o_idxS0 (F.ev rfl) rfl) fun a F => ?_
  refine lx_value (v := .slice pa k cap) F (F.want (t := 35) (c := false) rfl rfl rfl (by rfl) rfl) rfl (by rfl) (o_loadS0 (F.ev rfl) (HM.get 1 rfl)) fun a F => ?_
  refine lx_value (v := .int .i64 (k : Nat)) F (F.want (t := 35) (c := false) rfl rfl rfl (by rfl) rfl) rfl (by rfl) (o_len (F.ev rfl)) fun a F => ?_
  refine lx_value (v := .bool false) F (F.want (t := 35) (c := false) rfl rfl rfl (by rfl) rfl) rfl (by rfl) (o_bin (u := .int .i64 (k : Nat)) (v := .int .i64 20) (fun ρ hx hy => by simp only [execOp, hx, hy]; simp [go_sem]; omega) (F.ev rfl) rfl) fun a F => ?_
  refine lx_value (v := .bool false) F (wanted_none rfl _) rfl (by rfl) (o_pick (b := false) (r := .bool false) (F.ev rfl) rfl (F.ev rfl) rfl) fun a F => ?_
  refine lx_value (v := .bool false) F (wanted_none rfl _) rfl (by rfl) (o_move (F.ev rfl)) fun a F => ?_
  refine lx_value (v := .pointer (some ⟨gz, 0, none⟩)) F (F.want (t := 41) (c := false) rfl rfl rfl (by rfl) rfl) rfl (by rfl) (o_idxS0 (F.ev rfl) rfl) fun a F => ?_
  refine lx_value (v := .slice pa k cap) F (F.want (t := 41) (c := false) rfl rfl rfl (by rfl) rfl) rfl (by rfl) (o_loadS0 (F.ev rfl) (HM.get 1 rfl)) fun a F => ?_
  refine lx_value (v := .int .i64 (k : Nat)) F (F.want (t := 41) (c := false) rfl rfl rfl (by rfl) rfl) rfl (by rfl) (o_len (F.ev rfl)) fun a F => ?_
  refine lx_value (v := .pointer (some ⟨gz, 1, none⟩)) F (F.want (t := 41) (c := false) rfl rfl rfl (by rfl) rfl) rfl (by rfl) (o_idxS1 (F.ev rfl) rfl) fun a F => ?_
  refine lx_value (v := .slice pb k capb) F (F.want (t := 41) (c := false) rfl rfl rfl (by rfl) rfl) rfl (by rfl) (o_loadS1 (F.ev rfl) (HM.get 1 rfl)) fun a F => ?_
  refine lx_value (v := .int .i64 (k : Nat)) F (F.want (t := 41) (c := false) rfl rfl rfl (by rfl) rfl) rfl (by rfl) (o_len (F.ev rfl)) fun a F => ?_
  refine lx_value (v := .bool false) F (F.want (t := 41) (c := false) rfl rfl rfl (by rfl) rfl) rfl (by rfl) (o_neqI (b := true) (decide_eq_true (by omega)) (F.ev rfl) (F.ev rfl) rfl) fun a F => ?_
  refine lx_value (v := .bool false) F (wanted_none rfl _) rfl (by rfl) (o_pick (b := false) (r := .bool false) (F.ev rfl) rfl (F.ev rfl) rfl) fun a F => ?_
  refine lx_nil ?_
  repeat (first | refine ex_then ?_ | refine ex_block ?_ | refine wp_seq ?_ | refine wp_block ?_ | refine wp_skip ?_)
  refine wp_cond_false (F.ev rfl) ?_
  repeat (first | refine ex_then ?_ | refine ex_block ?_ | refine wp_seq ?_ | refine wp_block ?_ | refine wp_skip ?_)
  refine wp_region_lit ?_
  refine lx_value (v := grp P Q G H) F (wanted_none rfl _) rfl (by rfl) (o_loadG (F.ev rfl) (HM.get 2 rfl)) fun a F => ?_
  refine lx_value (v := .pointer (some ⟨gz, 0, none⟩)) F (wanted_none rfl _) rfl (by rfl) (o_idxS0 (F.ev rfl) rfl) fun a F => ?_
  refine lx_value (v := .slice pa k cap) F (wanted_none rfl _) rfl (by rfl) (o_loadS0 (F.ev rfl) (HM.get 1 rfl)) fun a F => ?_
  refine lx_value (v := .pointer (some ⟨gn, 0, none⟩)) F (wanted_none rfl _) rfl (by rfl) (o_idxA0 (F.ev rfl) rfl) fun a F => ?_
  refine lx_value (v := num X) F (wanted_none rfl _) rfl (by rfl) (o_loadA0 (F.ev rfl) (HM.get 0 rfl)) fun a F => ?_
  refine lx_call F (wanted_none rfl _) rfl (by rfl) (run_callF Try.func9 (by kernel_rfl) (by rfl) (.cons (F.ev rfl) (.cons (F.ev rfl) (.cons (F.ev rfl) .nil))) _) (at_no P Q G H X k cap pa ps _ hQ hX hA (rp.call HM.bel HM.bel.size)) fun a w z F => ?_
  replace HM := HM.on z
  clear z
  refine lx_value (v := .tuple #[num 0, .int .i64 1]) F (wanted_none rfl _) rfl (by rfl) (o_move (F.ev rfl)) fun a F => ?_
  refine lx_value (v := num 0) F (wanted_none rfl _) rfl (by rfl) (o_extract (F.ev rfl) rfl) fun a F => ?_
  refine lx_value (v := .int .i64 1) F (wanted_none rfl _) rfl (by rfl) (o_extract (F.ev rfl) rfl) fun a F => ?_
  refine lx_new F HM (wanted_none rfl _) rfl (by rfl) (o_allocN) fun a w ga F HM => ?_
  refine lx_store F HM (wanted_none rfl _) rfl (k := 0) rfl (o_storeN (F.ev rfl) (F.ev rfl) (HM.get 0 rfl)) (M2 := [(ga, 24, ncs 0), (gn, 37, acs X Y), (gz, 36, s2cs (.slice pa k cap) (.slice pb k capb)), (gg, 26, gcs P Q G H)]) (rfl) fun w HM => ?_
  refine lx_value (v := .int .i64 1) F (wanted_none rfl _) rfl (by rfl) (o_assign (F.ev rfl)) fun a F => ?_
  refine lx_nil ?_
  repeat (first | refine ex_then ?_ | refine ex_block ?_ | refine wp_seq ?_ | refine wp_block ?_ | refine wp_skip ?_)
  refine wp_region_lit ?_
  refine lx_value (v := grp P Q G H) F (wanted_none rfl _) rfl (by rfl) (o_loadG (F.ev rfl) (HM.get 3 rfl)) fun a F => ?_
  refine lx_value (v := .pointer (some ⟨gz, 1, none⟩)) F (wanted_none rfl _) rfl (by rfl) (o_idxS1 (F.ev rfl) rfl) fun a F => ?_
  refine lx_value (v := .slice pb k capb) F (wanted_none rfl _) rfl (by rfl) (o_loadS1 (F.ev rfl) (HM.get 2 rfl)) fun a F => ?_
  refine lx_value (v := .pointer (some ⟨gn, 0, none⟩)) F (wanted_none rfl _) rfl (by rfl) (o_idxA0 (F.ev rfl) rfl) fun a F => ?_
  refine lx_value (v := num X) F (wanted_none rfl _) rfl (by rfl) (o_loadA0 (F.ev rfl) (HM.get 1 rfl)) fun a F => ?_
  refine lx_call F (wanted_none rfl _) rfl (by rfl) (run_callF Try.func9 (by kernel_rfl) (by rfl) (.cons (F.ev rfl) (.cons (F.ev rfl) (.cons (F.ev rfl) .nil))) _) (at_yes P Q G H X k capb pb qs _ hQ hB (rq.call HM.bel HM.bel.size)) fun a w z F => ?_
  replace HM := HM.on z
  clear z
  refine lx_value (v := .tuple #[num ((sofN Q (evZ (zs qs) X))), .int .i64 0]) F (wanted_none rfl _) rfl (by rfl) (o_move (F.ev rfl)) fun a F => ?_
  refine lx_value (v := num ((sofN Q (evZ (zs qs) X)))) F (wanted_none rfl _) rfl (by rfl) (o_extract (F.ev rfl) rfl) fun a F => ?_
  refine lx_value (v := .int .i64 0) F (wanted_none rfl _) rfl (by rfl) (o_extract (F.ev rfl) rfl) fun a F => ?_
  refine lx_new F HM (wanted_none rfl _) rfl (by rfl) (o_allocN) fun a w gb F HM => ?_
  refine lx_store F HM (wanted_none rfl _) rfl (k := 0) rfl (o_storeN (F.ev rfl) (F.ev rfl) (HM.get 0 rfl)) (M2 := [(gb, 24, ncs ((sofN Q (evZ (zs qs) X)))), (ga, 24, ncs 0), (gn, 37, acs X Y), (gz, 36, s2cs (.slice pa k cap) (.slice pb k capb)), (gg, 26, gcs P Q G H)]) (rfl) fun w HM => ?_
  refine lx_value (v := .int .i64 0) F (wanted_none rfl _) rfl (by rfl) (o_assign (F.ev rfl)) fun a F => ?_
  refine lx_nil ?_
  repeat (first | refine ex_then ?_ | refine ex_block ?_ | refine wp_seq ?_ | refine wp_block ?_ | refine wp_skip ?_)
  refine wp_region_lit ?_
  refine lx_value (v := .int .i64 1) F (wanted_none rfl _) rfl (by rfl) (o_move (F.ev rfl)) fun a F => ?_
  refine lx_value (v := .bool true) F (wanted_none rfl _) rfl (by rfl) (o_bin (u := .int .i64 1) (v := .int .i64 0) (fun ρ hx hy => by simp only [execOp, hx, hy]; simp [go_sem]) (F.ev rfl) rfl) fun a F => ?_
  refine lx_value (v := .bool true) F (wanted_none rfl _) rfl (by rfl) (o_move (F.ev rfl)) fun a F => ?_
  refine lx_pass F (F.want (t := 71) (c := true) rfl rfl rfl (by rfl) rfl) rfl (by rfl) fun a F => ?_
  refine lx_pass F (F.want (t := 71) (c := true) rfl rfl rfl (by rfl) rfl) rfl (by rfl) fun a F => ?_
  refine lx_value (v := .bool true) F (wanted_none rfl _) rfl (by rfl) (o_pick (b := true) (r := .bool true) (F.ev rfl) rfl (F.ev rfl) rfl) fun a F => ?_
  refine lx_nil ?_
  repeat (first | refine ex_then ?_ | refine ex_block ?_ | refine wp_seq ?_ | refine wp_block ?_ | refine wp_skip ?_)
  refine wp_cond_true (F.ev rfl) ?_
  repeat (first | refine ex_then ?_ | refine ex_block ?_ | refine wp_seq ?_ | refine wp_block ?_ | refine wp_skip ?_)
  refine wp_region_lit ?_
  refine lx_value (v := .int .i64 1) F (wanted_none rfl _) rfl (by rfl) (o_move (F.ev rfl)) fun a F => ?_
  refine lx_value (v := .bool true) F (wanted_none rfl _) rfl (by rfl) (o_bin (u := .int .i64 1) (v := .int .i64 7) (fun ρ hx hy => by simp only [execOp, hx, hy]; simp [go_sem]) (F.ev rfl) rfl) fun a F => ?_
  refine lx_value (v := .bool true) F (wanted_none rfl _) rfl (by rfl) (o_move (F.ev rfl)) fun a F => ?_
  refine lx_value (v := .int .i64 0) F (F.want (t := 77) (c := true) rfl rfl rfl (by rfl) rfl) rfl (by rfl) (o_move (F.ev rfl)) fun a F => ?_
  refine lx_value (v := .bool true) F (F.want (t := 77) (c := true) rfl rfl rfl (by rfl) rfl) rfl (by rfl) (o_bin (u := .int .i64 0) (v := .int .i64 7) (fun ρ hx hy => by simp only [execOp, hx, hy]; simp [go_sem]) (F.ev rfl) rfl) fun a F => ?_
  refine lx_value (v := .bool true) F (wanted_none rfl _) rfl (by rfl) (o_pick (b := true) (r := .bool true) (F.ev rfl) (F.ev rfl) rfl rfl) fun a F => ?_
  refine lx_value (v := .bool true) F (wanted_none rfl _) rfl (by rfl) (o_assign (F.ev rfl)) fun a F => ?_
  refine lx_nil ?_
  repeat (first | refine ex_then ?_ | refine ex_block ?_ | refine wp_seq ?_ | refine wp_block ?_ | refine wp_skip ?_)
  refine wp_ret ?_
  repeat (first | refine ex_thenR ?_ | refine ex_blockR ?_)
  exact sx_ret F HM (res_tmp F rfl (s := 6) rfl)

set_option maxRecDepth 100000 in
set_option maxHeartbeats 800000 in
theorem psm_e3 (P Q G H k cap capb X Y : Nat) (pa pb : Option Addr) (ps qs : List Nat) (w0 : World) (hQ : Q < 2 ^ 256) (hX : X < 2 ^ 256) (hY : Y < 2 ^ 256) (rp : RN w0.heap.size w0 pa k cap ps) (rq : RN w0.heap.size w0 pb k capb qs) (hk : ¬ 20 < k) (hA : atB Q X ps = true) (hB : atB Q X qs = false) : Calls Try.prog 5 #[grp P Q G H, .agg #[.slice pa k cap, .slice pb k capb], arr2 X Y] w0 fun e w' => e = .returned (.bool true) ∧ Below w0.heap.size w0 w' := by
  refine sx_enter (args := [grp P Q G H, .agg #[.slice pa k cap, .slice pb k capb], arr2 X Y]) Try.func5 rfl Try.ntmps5 (by rfl) fun a F HM => ?_
  repeat (first | refine ex_then ?_ | refine ex_block ?_ | refine wp_seq ?_ | refine wp_block ?_ | refine wp_skip ?_)
  refine wp_region_lit ?_
  refine lx_new F HM (wanted_none rfl _) rfl (by rfl) (o_boxG (F.ev rfl)) fun a w gg F HM => ?_
  refine lx_new F HM (wanted_none rfl _) rfl (by rfl) (o_boxS (F.ev rfl)) fun a w gz F HM => ?_
  refine lx_new F HM (wanted_none rfl _) rfl (by rfl) (o_boxA (F.ev rfl)) fun a w gn F HM => ?_
  refine lx_value (v := .bool false) F (wanted_none rfl _) rfl (by rfl) (o_assign rfl) fun a F => ?_
  refine lx_nil ?_
  repeat (first | refine ex_then ?_ | refine ex_block ?_ | refine wp_seq ?_ | refine wp_block ?_ | refine wp_skip ?_)
  refine wp_region_lit ?_
  refine lx_call F (wanted_none rfl _) rfl (by rfl) (run_callF Try.func7 (by kernel_rfl) (by rfl) .nil _) (alive10_any _) fun a w z F => ?_
  replace HM := HM.on z
  clear z
  refine lx_value (v := .bool false) F (wanted_none rfl _) rfl (by rfl) (o_not (b := true) (r := false) (F.ev rfl) rfl) fun a F => ?_
  refine lx_value (v := .bool false) F (wanted_none rfl _) rfl (by rfl) (o_move (F.ev rfl)) fun a F => ?_
  refine lx_value (v := .pointer (some ⟨gz, 0, none⟩)) F (F.want (t := 35) (c := false) rfl rfl rfl (by rfl) rfl) rfl (by rfl) (o_idxS0 (F.ev rfl) rfl) fun a F => ?_
  refine lx_value (v := .slice pa k cap) F (F.want (t := 35) (c := false) rfl rfl rfl (by rfl) rfl) rfl (by rfl) (o_loadS0 (F.ev rfl) (HM.get 1 rfl)) fun a F => ?_
  refine lx_value (v := .int .i64 (k : Nat)) F (F.want (t := 35) (c := false) rfl rfl rfl (by rfl) rfl) rfl (by rfl) (o_len (F.ev rfl)) fun a F => ?_
  refine lx_value (v := .bool false) F (F.want (t := 35) (c := false) rfl rfl rfl (by rfl) rfl) rfl (by rfl) (o_bin (u := .int .i64 (k : Nat)) (v := .int .i64 20) (fun ρ hx hy => by simp only [execOp, hx, hy]; simp [go_sem]; omega) (F.ev rfl) rfl) fun a F => ?_
  refine lx_value (v := .bool false) F (wanted_none rfl _) rfl (by rfl) (o_pick (b := false) (r := .bool false) (F.ev rfl) rfl (F.ev rfl) rfl) fun a F => ?_
  refine lx_value (v := .bool false) F (wanted_none rfl _) rfl (by rfl) (o_move (F.ev rfl)) fun a F => ?_
  refine lx_value (v := .pointer (some ⟨gz, 0, none⟩)) F (F.want (t := 41) (c := false) rfl rfl rfl (by rfl) rfl) rfl (by rfl) (o_idxS0 (F.ev rfl) rfl) fun a F => ?_
  refine lx_value (v := .slice pa k cap) F (F.want (t := 41) (c := false) rfl rfl rfl (by rfl) rfl) rfl (by rfl) (o_loadS0 (F.ev rfl) (HM.get 1 rfl)) fun a F => ?_
  refine lx_value (v := .int .i64 (k : Nat)) F (F.want (t := 41) (c := false) rfl rfl rfl (by rfl) rfl) rfl (by rfl) (o_len (F.ev rfl)) fun a F => ?_
  refine lx_value (v := .pointer (some ⟨gz, 1, none⟩)) F (F.want (t := 41) (c := false) rfl rfl rfl (by rfl) rfl) rfl (by rfl) (o_idxS1 (F.ev rfl) rfl) fun a F => ?_
  refine lx_value (v := .slice pb k capb) F (F.want (t := 41) (c := false) rfl rfl rfl (by rfl) rfl) rfl (by rfl) (o_loadS1 (F.ev rfl) (HM.get 1 rfl)) fun a F => ?_
  refine lx_value (v := .int .i64 (k : Nat)) F (F.want (t := 41) (c := false) rfl rfl rfl (by rfl) rfl) rfl (by rfl) (o_len (F.ev rfl)) fun a F => ?_
  refine lx_value (v := .bool false) F (F.want (t := 41) (c := false) rfl rfl rfl (by rfl) rfl) rfl (by rfl) (o_neqI (b := true) (decide_eq_true (by omega)) (F.ev rfl) (F.ev rfl) rfl) fun a F => ?_
  refine lx_value (v := .bool false) F (wanted_none rfl _) rfl (by rfl) (o_pick (b := false) (r := .bool false) (F.ev rfl) rfl (F.ev rfl) rfl) fun a F => ?_
  refine lx_nil ?_
  repeat (first | refine ex_then ?_ | refine ex_block ?_ | refine wp_seq ?_ | refine wp_block ?_ | refine wp_skip ?_)
  refine wp_cond_false (F.ev rfl) ?_
  repeat (first | refine ex_then ?_ | refine ex_block ?_ | refine wp_seq ?_ | refine wp_block ?_ | refine wp_skip ?_)
  refine wp_region_lit ?_
  refine lx_value (v := grp P Q G H) F (wanted_none rfl _) rfl (by rfl) (o_loadG (F.ev rfl) (HM.get 2 rfl)) fun a F => ?_
  refine lx_value (v := .pointer (some ⟨gz, 0, none⟩)) F (wanted_none rfl _) rfl (by rfl) (o_idxS0 (F.ev rfl) rfl) fun a F => ?_
  refine lx_value (v := .slice pa k cap) F (wanted_none rfl _) rfl (by rfl) (o_loadS0 (F.ev rfl) (HM.get 1 rfl)) fun a F => ?_
  refine lx_value (v := .pointer (some ⟨gn, 0, none⟩)) F (wanted_none rfl _) rfl (by rfl) (o_idxA0 (F.ev rfl) rfl) fun a F => ?_
  refine lx_value (v := num X) F (wanted_none rfl _) rfl (by rfl) (o_loadA0 (F.ev rfl) (HM.get 0 rfl)) fun a F => ?_
  refine lx_call F (wanted_none rfl _) rfl (by rfl) (run_callF Try.func9 (by kernel_rfl) (by rfl) (.cons (F.ev rfl) (.cons (F.ev rfl) (.cons (F.ev rfl) .nil))) _) (at_yes P Q G H X k cap pa ps _ hQ hA (rp.call HM.bel HM.bel.size)) fun a w z F => ?_
  replace HM := HM.on z
  clear z
  refine lx_value (v := .tuple #[num ((sofN Q (evZ (zs ps) X))), .int .i64 0]) F (wanted_none rfl _) rfl (by rfl) (o_move (F.ev rfl)) fun a F => ?_
  refine lx_value (v := num ((sofN Q (evZ (zs ps) X)))) F (wanted_none rfl _) rfl (by rfl) (o_extract (F.ev rfl) rfl) fun a F => ?_
  refine lx_value (v := .int .i64 0) F (wanted_none rfl _) rfl (by rfl) (o_extract (F.ev rfl) rfl) fun a F => ?_
  refine lx_new F HM (wanted_none rfl _) rfl (by rfl) (o_allocN) fun a w ga F HM => ?_
  refine lx_store F HM (wanted_none rfl _) rfl (k := 0) rfl (o_storeN (F.ev rfl) (F.ev rfl) (HM.get 0 rfl)) (M2 := [(ga, 24, ncs ((sofN Q (evZ (zs ps) X)))), (gn, 37, acs X Y), (gz, 36, s2cs (.slice pa k cap) (.slice pb k capb)), (gg, 26, gcs P Q G H)]) (rfl) fun w HM => ?_
  refine lx_value (v := .int .i64 0) F (wanted_none rfl _) rfl (by rfl) (o_assign (F.ev rfl)) fun a F => ?_
  refine lx_nil ?_
  repeat (first | refine ex_then ?_ | refine ex_block ?_ | refine wp_seq ?_ | refine wp_block ?_ | refine wp_skip ?_)
  refine wp_region_lit ?_
  refine lx_value (v := grp P Q G H) F (wanted_none rfl _) rfl (by rfl) (o_loadG (F.ev rfl) (HM.get 3 rfl)) fun a F => ?_
  refine lx_value (v := .pointer (some ⟨gz, 1, none⟩)) F (wanted_none rfl _) rfl (by rfl) (o_idxS1 (F.ev rfl) rfl) fun a F => ?_
  refine lx_value (v := .slice pb k capb) F (wanted_none rfl _) rfl (by rfl) (o_loadS1 (F.ev rfl) (HM.get 2 rfl)) fun a F => ?_
  refine lx_value (v := .pointer (some ⟨gn, 0, none⟩)) F (wanted_none rfl _) rfl (by rfl) (o_idxA0 (F.ev rfl) rfl) fun a F => ?_
  refine lx_value (v := num X) F (wanted_none rfl _) rfl (by rfl) (o_loadA0 (F.ev rfl) (HM.get 1 rfl)) fun a F => ?_
  refine lx_call F (wanted_none rfl _) rfl (by rfl) (run_callF Try.func9 (by kernel_rfl) (by rfl) (.cons (F.ev rfl) (.cons (F.ev rfl) (.cons (F.ev rfl) .nil))) _) (at_no P Q G H X k capb pb qs _ hQ hX hB (rq.call HM.bel HM.bel.size)) fun a w z F => ?_
  replace HM := HM.on z
  clear z
  refine lx_value (v := .tuple #[num 0, .int .i64 1]) F (wanted_none rfl _) rfl (by rfl) (o_move (F.ev rfl)) fun a F => ?_
  refine lx_value (v := num 0) F (wanted_none rfl _) rfl (by rfl) (o_extract (F.ev rfl) rfl) fun a F => ?_
  refine lx_value (v := .int .i64 1) F (wanted_none rfl _) rfl (by rfl) (o_extract (F.ev rfl) rfl) fun a F => ?_
  refine lx_new F HM (wanted_none rfl _) rfl (by rfl) (o_allocN) fun a w gb F HM => ?_
  refine lx_store F HM (wanted_none rfl _) rfl (k := 0) rfl (o_storeN (F.ev rfl) (F.ev rfl) (HM.get 0 rfl)) (M2 := [(gb, 24, ncs 0), (ga, 24, ncs ((sofN Q (evZ (zs ps) X)))), (gn, 37, acs X Y), (gz, 36, s2cs (.slice pa k cap) (.slice pb k capb)), (gg, 26, gcs P Q G H)]) (rfl) fun w HM => ?_
  refine lx_value (v := .int .i64 1) F (wanted_none rfl _) rfl (by rfl) (o_assign (F.ev rfl)) fun a F => ?_
  refine lx_nil ?_
  repeat (first | refine ex_then ?_ | refine ex_block ?_ | refine wp_seq ?_ | refine wp_block ?_ | refine wp_skip ?_)
  refine wp_region_lit ?_
  refine lx_value (v := .int .i64 0) F (wanted_none rfl _) rfl (by rfl) (o_move (F.ev rfl)) fun a F => ?_
  refine lx_value (v := .bool false) F (wanted_none rfl _) rfl (by rfl) (o_bin (u := .int .i64 0) (v := .int .i64 0) (fun ρ hx hy => by simp only [execOp, hx, hy]; simp [go_sem]) (F.ev rfl) rfl) fun a F => ?_
  refine lx_value (v := .bool false) F (wanted_none rfl _) rfl (by rfl) (o_move (F.ev rfl)) fun a F => ?_
  refine lx_value (v := .int .i64 1) F (F.want (t := 71) (c := false) rfl rfl rfl (by rfl) rfl) rfl (by rfl) (o_move (F.ev rfl)) fun a F => ?_
  refine lx_value (v := .bool true) F (F.want (t := 71) (c := false) rfl rfl rfl (by rfl) rfl) rfl (by rfl) (o_bin (u := .int .i64 1) (v := .int .i64 0) (fun ρ hx hy => by simp only [execOp, hx, hy]; simp [go_sem]) (F.ev rfl) rfl) fun a F => ?_
  refine lx_value (v := .bool true) F (wanted_none rfl _) rfl (by rfl) (o_pick (b := false) (r := .bool true) (F.ev rfl) rfl (F.ev rfl) rfl) fun a F => ?_
  refine lx_nil ?_
  repeat (first | refine ex_then ?_ | refine ex_block ?_ | refine wp_seq ?_ | refine wp_block ?_ | refine wp_skip ?_)
  refine wp_cond_true (F.ev rfl) ?_
  repeat (first | refine ex_then ?_ | refine ex_block ?_ | refine wp_seq ?_ | refine wp_block ?_ | refine wp_skip ?_)
  refine wp_region_lit ?_
  refine lx_value (v := .int .i64 0) F (wanted_none rfl _) rfl (by rfl) (o_move (F.ev rfl)) fun a F => ?_
  refine lx_value (v := .bool true) F (wanted_none rfl _) rfl (by rfl) (o_bin (u := .int .i64 0) (v := .int .i64 7) (fun ρ hx hy => by simp only [execOp, hx, hy]; simp [go_sem]) (F.ev rfl) rfl) fun a F => ?_
  refine lx_value (v := .bool true) F (wanted_none rfl _) rfl (by rfl) (o_move (F.ev rfl)) fun a F => ?_
  refine lx_value (v := .int .i64 1) F (F.want (t := 77) (c := true) rfl rfl rfl (by rfl) rfl) rfl (by rfl) (o_move (F.ev rfl)) fun a F => ?_
  refine lx_value (v := .bool true) F (F.want (t := 77) (c := true) rfl rfl rfl (by rfl) rfl) rfl (by rfl) (o_bin (u := .int .i64 1) (v := .int .i64 7) (fun ρ hx hy => by simp only [execOp, hx, hy]; simp [go_sem]) (F.ev rfl) rfl) fun a F => ?_
  refine lx_value (v := .bool true) F (wanted_none rfl _) rfl (by rfl) (o_pick (b := true) (r := .bool true) (F.ev rfl) (F.ev rfl) rfl rfl) fun a F => ?_
  refine lx_value (v := .bool true) F (wanted_none rfl _) rfl (by rfl) (o_assign (F.ev rfl)) fun a F => ?_
  refine lx_nil ?_
  repeat (first | refine ex_then ?_ | refine ex_block ?_ | refine wp_seq ?_ | refine wp_block ?_ | refine wp_skip ?_)
  refine wp_ret ?_
  repeat (first | refine ex_thenR ?_ | refine ex_blockR ?_)
  exact sx_ret F HM (res_tmp F rfl (s := 6) rfl)

set_option maxRecDepth 100000 in
set_option maxHeartbeats 800000 in
theorem psm_ok (P Q G H k cap capb X Y : Nat) (pa pb : Option Addr) (ps qs : List Nat) (w0 : World) (hQ : Q < 2 ^ 256) (hX : X < 2 ^ 256) (hY : Y < 2 ^ 256) (rp : RN w0.heap.size w0 pa k cap ps) (rq : RN w0.heap.size w0 pb k capb qs) (hk : ¬ 20 < k) (hA : atB Q X ps = true) (hB : atB Q X qs = true) : Calls Try.prog 5 #[grp P Q G H, .agg #[.slice pa k cap, .slice pb k capb], arr2 X Y] w0 fun e w' => e = .returned (.bool true) ∧ Below w0.heap.size w0 w' := by
  refine sx_enter (args := [grp P Q G H, .agg #[.slice pa k cap, .slice pb k capb], arr2 X Y]) Try.func5 rfl Try.ntmps5 (by rfl) fun a F HM => ?_
  repeat (first | refine ex_then ?_ | refine ex_block ?_ | refine wp_seq ?_ | refine wp_block ?_ | refine wp_skip ?_)
  refine wp_region_lit ?_
  refine lx_new F HM (wanted_none rfl _) rfl (by rfl) (o_boxG (F.ev rfl)) fun a w gg F HM => ?_
  refine lx_new F HM (wanted_none rfl _) rfl (by rfl) (o_boxS (F.ev rfl)) fun a w gz F HM => ?_
  refine lx_new F HM (wanted_none rfl _) rfl (by rfl) (o_boxA (F.ev rfl)) fun a w gn F HM => ?_
  refine lx_value (v := .bool false) F (wanted_none rfl _) rfl (by rfl) (o_assign rfl) fun a F => ?_
  refine lx_nil ?_
  repeat (first | refine ex_then ?_ | refine ex_block ?_ | refine wp_seq ?_ | refine wp_block ?_ | refine wp_skip ?_)
  refine wp_region_lit ?_
  refine lx_call F (wanted_none rfl _) rfl (by rfl) (run_callF Try.func7 (by kernel_rfl) (by rfl) .nil _) (alive10_any _) fun a w z F => ?_
  replace HM := HM.on z
  clear z
  refine lx_value (v := .bool false) F (wanted_none rfl _) rfl (by rfl) (o_not (b := true) (r := false) (F.ev rfl) rfl) fun a F => ?_
  refine lx_value (v := .bool false) F (wanted_none rfl _) rfl (by rfl) (o_move (F.ev rfl)) fun a F => ?_
  refine lx_value (v := .pointer (some ⟨gz, 0, none⟩)) F (F.want (t := 35) (c := false) rfl rfl rfl (by rfl) rfl) rfl (by rfl) (o_idxS0 (F.ev rfl) rfl) fun a F => ?_
  refine lx_value (v := .slice pa k cap) F (F.want (t := 35) (c := false) rfl rfl rfl (by rfl) rfl) rfl (by rfl) (o_loadS0 (F.ev rfl) (HM.get 1 rfl)) fun a F => ?_
  refine lx_value (v := .int .i64 (k : Nat)) F (F.want (t := 35) (c := false) rfl rfl rfl (by rfl) rfl) rfl (by rfl) (o_len (F.ev rfl)) fun a F => ?_
  refine lx_value (v := .bool false) F (F.want (t := 35) (c := false) rfl rfl rfl (by rfl) rfl) rfl (by rfl) (o_bin (u := .int .i64 (k : Nat)) (v := .int .i64 20) (fun ρ hx hy => by simp only [execOp, hx, hy]; simp [go_sem]; omega) (F.ev rfl) rfl) fun a F => ?_
  refine lx_value (v := .bool false) F (wanted_none rfl _) rfl (by rfl) (o_pick (b := false) (r := .bool false) (F.ev rfl) rfl (F.ev rfl) rfl) fun a F => ?_
  refine lx_value (v := .bool false) F (wanted_none rfl _) rfl (by rfl) (o_move (F.ev rfl)) fun a F => ?_
  refine lx_value (v := .pointer (some ⟨gz, 0, none⟩)) F (F.want (t := 41) (c := false) rfl rfl rfl (by rfl) rfl) rfl (by rfl) (o_idxS0 (F.ev rfl) rfl) fun a F => ?_
  refine lx_value (v := .slice pa k cap) F (F.want (t := 41) (c := false) rfl rfl rfl (by rfl) rfl) rfl (by rfl) (o_loadS0 (F.ev rfl) (HM.get 1 rfl)) fun a F => ?_
  refine lx_value (v := .int .i64 (k : Nat)) F (F.want (t := 41) (c := false) rfl rfl rfl (by rfl) rfl) rfl (by rfl) (o_len (F.ev rfl)) fun a F => ?_
  refine lx_value (v := .pointer (some ⟨gz, 1, none⟩)) F (F.want (t := 41) (c := false) rfl rfl rfl (by rfl) rfl) rfl (by rfl) (o_idxS1 (F.ev rfl) rfl) fun a F => ?_
  refine lx_value (v := .slice pb k capb) F (F.want (t := 41) (c := false) rfl rfl rfl (by rfl) rfl) rfl (by rfl) (o_loadS1 (F.ev rfl) (HM.get 1 rfl)) fun a F => ?_
  refine lx_value (v := .int .i64 (k : Nat)) F (F.want (t := 41) (c := false) rfl rfl rfl (by rfl) rfl) rfl (by rfl) (o_len (F.ev rfl)) fun a F => ?_
  refine lx_value (v := .bool false) F (F.want (t := 41) (c := false) rfl rfl rfl (by rfl) rfl) rfl (by rfl) (o_neqI (b := true) (decide_eq_true (by omega)) (F.ev rfl) (F.ev rfl) rfl) fun a F => ?_
  refine lx_value (v := .bool false) F (wanted_none rfl _) rfl (by rfl) (o_pick (b := false) (r := .bool false) (F.ev rfl) rfl (F.ev rfl) rfl) fun a F => ?_
  refine lx_nil ?_
  repeat (first | refine ex_then ?_ | refine ex_block ?_ | refine wp_seq ?_ | refine wp_block ?_ | refine wp_skip ?_)
  refine wp_cond_false (F.ev rfl) ?_
  repeat (first | refine ex_then ?_ | refine ex_block ?_ | refine wp_seq ?_ | refine wp_block ?_ | refine wp_skip ?_)
  refine wp_region_lit ?_
  refine lx_value (v := grp P Q G H) F (wanted_none rfl _) rfl (by rfl) (o_loadG (F.ev rfl) (HM.get 2 rfl)) fun a F => ?_
  refine lx_value (v := .pointer (some ⟨gz, 0, none⟩)) F (wanted_none rfl _) rfl (by rfl) (o_idxS0 (F.ev rfl) rfl) fun a F => ?_
  refine lx_value (v := .slice pa k cap) F (wanted_none rfl _) rfl (by rfl) (o_loadS0 (F.ev rfl) (HM.get 1 rfl)) fun a F => ?_
  refine lx_value (v := .pointer (some ⟨gn, 0, none⟩)) F (wanted_none rfl _) rfl (by rfl) (o_idxA0 (F.ev rfl) rfl) fun a F => ?_
  refine lx_value (v := num X) F (wanted_none rfl _) rfl (by rfl) (o_loadA0 (F.ev rfl) (HM.get 0 rfl)) fun a F => ?_
  refine lx_call F (wanted_none rfl _) rfl (by rfl) (run_callF Try.func9 (by kernel_rfl) (by rfl) (.cons (F.ev rfl) (.cons (F.ev rfl) (.cons (F.ev rfl) .nil))) _) (at_yes P Q G H X k cap pa ps _ hQ hA (rp.call HM.bel HM.bel.size)) fun a w z F => ?_
  replace HM := HM.on z
  clear z
  refine lx_value (v := .tuple #[num ((sofN Q (evZ (zs ps) X))), .int .i64 0]) F (wanted_none rfl _) rfl (by rfl) (o_move (F.ev rfl)) fun a F => ?_
  refine lx_value (v := num ((sofN Q (evZ (zs ps) X)))) F (wanted_none rfl _) rfl (by rfl) (o_extract (F.ev rfl) rfl) fun a F => ?_
  refine lx_value (v := .int .i64 0) F (wanted_none rfl _) rfl (by rfl) (o_extract (F.ev rfl) rfl) fun a F => ?_
  refine lx_new F HM (wanted_none rfl _) rfl (by rfl) (o_allocN) fun a w ga F HM => ?_
  refine lx_store F HM (wanted_none rfl _) rfl (k := 0) rfl (o_storeN (F.ev rfl) (F.ev rfl) (HM.get 0 rfl)) (M2 := [(ga, 24, ncs ((sofN Q (evZ (zs ps) X)))), (gn, 37, acs X Y), (gz, 36, s2cs (.slice pa k cap) (.slice pb k capb)), (gg, 26, gcs P Q G H)]) (rfl) fun w HM => ?_
  refine lx_value (v := .int .i64 0) F (wanted_none rfl _) rfl (by rfl) (o_assign (F.ev rfl)) fun a F => ?_
  refine lx_nil ?_
  repeat (first | refine ex_then ?_ | refine ex_block ?_ | refine wp_seq ?_ | refine wp_block ?_ | refine wp_skip ?_)
  refine wp_region_lit ?_
  refine lx_value (v := grp P Q G H) F (wanted_none rfl _) rfl (by rfl) (o_loadG (F.ev rfl) (HM.get 3 rfl)) fun a F => ?_
  refine lx_value (v := .pointer (some ⟨gz, 1, none⟩)) F (wanted_none rfl _) rfl (by rfl) (o_idxS1 (F.ev rfl) rfl) fun a F => ?_
  refine lx_value (v := .slice pb k capb) F (wanted_none rfl _) rfl (by rfl) (o_loadS1 (F.ev rfl) (HM.get 2 rfl)) fun a F => ?_
  refine lx_value (v := .pointer (some ⟨gn, 0, none⟩)) F (wanted_none rfl _) rfl (by rfl) (o_idxA0 (F.ev rfl) rfl) fun a F => ?_
  refine lx_value (v := num X) F (wanted_none rfl _) rfl (by rfl) (o_loadA0 (F.ev rfl) (HM.get 1 rfl)) fun a F => ?_
  refine lx_call F (wanted_none rfl _) rfl (by rfl) (run_callF Try.func9 (by kernel_rfl) (by rfl) (.cons (F.ev rfl) (.cons (F.ev rfl) (.cons (F.ev rfl) .nil))) _) (at_yes P Q G H X k capb pb qs _ hQ hB (rq.call HM.bel HM.bel.size)) fun a w z F => ?_
  replace HM := HM.on z
  clear z
  refine lx_value (v := .tuple #[num ((sofN Q (evZ (zs qs) X))), .int .i64 0]) F (wanted_none rfl _) rfl (by rfl) (o_move (F.ev rfl)) fun a F => ?_
  refine lx_value (v := num ((sofN Q (evZ (zs qs) X)))) F (wanted_none rfl _) rfl (by rfl) (o_extract (F.ev rfl) rfl) fun a F => ?_
  refine lx_value (v := .int .i64 0) F (wanted_none rfl _) rfl (by rfl) (o_extract (F.ev rfl) rfl) fun a F => ?_
  refine lx_new F HM (wanted_none rfl _) rfl (by rfl) (o_allocN) fun a w gb F HM => ?_
  refine lx_store F HM (wanted_none rfl _) rfl (k := 0) rfl (o_storeN (F.ev rfl) (F.ev rfl) (HM.get 0 rfl)) (M2 := [(gb, 24, ncs ((sofN Q (evZ (zs qs) X)))), (ga, 24, ncs ((sofN Q (evZ (zs ps) X)))), (gn, 37, acs X Y), (gz, 36, s2cs (.slice pa k cap) (.slice pb k capb)), (gg, 26, gcs P Q G H)]) (rfl) fun w HM => ?_
  refine lx_value (v := .int .i64 0) F (wanted_none rfl _) rfl (by rfl) (o_assign (F.ev rfl)) fun a F => ?_
  refine lx_nil ?_
  repeat (first | refine ex_then ?_ | refine ex_block ?_ | refine wp_seq ?_ | refine wp_block ?_ | refine wp_skip ?_)
  refine wp_region_lit ?_
  refine lx_value (v := .int .i64 0) F (wanted_none rfl _) rfl (by rfl) (o_move (F.ev rfl)) fun a F => ?_
  refine lx_value (v := .bool false) F (wanted_none rfl _) rfl (by rfl) (o_bin (u := .int .i64 0) (v := .int .i64 0) (fun ρ hx hy => by simp only [execOp, hx, hy]; simp [go_sem]) (F.ev rfl) rfl) fun a F => ?_
  refine lx_value (v := .bool false) F (wanted_none rfl _) rfl (by rfl) (o_move (F.ev rfl)) fun a F => ?_
  refine lx_value (v := .int .i64 0) F (F.want (t := 71) (c := false) rfl rfl rfl (by rfl) rfl) rfl (by rfl) (o_move (F.ev rfl)) fun a F => ?_
  refine lx_value (v := .bool false) F (F.want (t := 71) (c := false) rfl rfl rfl (by rfl) rfl) rfl (by rfl) (o_bin (u := .int .i64 0) (v := .int .i64 0) (fun ρ hx hy => by simp only [execOp, hx, hy]; simp [go_sem]) (F.ev rfl) rfl) fun a F => ?_
  refine lx_value (v := .bool false) F (wanted_none rfl _) rfl (by rfl) (o_pick (b := false) (r := .bool false) (F.ev rfl) rfl (F.ev rfl) rfl) fun a F => ?_
  refine lx_nil ?_
  repeat (first | refine ex_then ?_ | refine ex_block ?_ | refine wp_seq ?_ | refine wp_block ?_ | refine wp_skip ?_)
  refine wp_cond_false (F.ev rfl) ?_
  obtain ⟨h1, hXQ, hps⟩ := atB_iff.1 hA
  have hqs := (atB_iff.1 hB).2.2
  have hVA := sof_lt h1 (evZ (zs ps) X)
  have hVB := sof_lt h1 (evZ (zs qs) X)
  have hCV := sum_val (X := X) h1 (rp.1.trans rq.1.symm)
  have hTV := @times_val Q X Y ps h1
  have hDV := @grown_val Q X Y ps h1
  obtain ⟨pw, hpw, hpw2⟩ : ∃ pw, pw = sofN Q 1 ∧ pw = sofN Q ((X : Int) ^ 0) := ⟨_, rfl, by rw [Int.pow_zero]⟩
  have hof : ∀ w, Calls Try.prog 11 #[grp P Q G H, .int .i64 1] w fun e w' => e = .returned (num pw) ∧ Below w.heap.size w w' := fun w => by rw [hpw]; exact sof_any P Q G H 1 hQ (by decide) (by decide) w
  obtain ⟨va, hva⟩ : ∃ va, va = sofN Q (evZ (zs ps) X) := ⟨_, rfl⟩
  obtain ⟨vb, hvb⟩ : ∃ vb, vb = sofN Q (evZ (zs qs) X) := ⟨_, rfl⟩
  rw [← hva] at HM hVA hCV hTV hDV
  rw [← hvb] at HM hVB hCV
  clear hva hvb
  repeat (first | refine ex_then ?_ | refine ex_block ?_ | refine wp_seq ?_ | refine wp_block ?_ | refine wp_skip ?_)
  refine wp_region_lit ?_
  refine lx_value (v := .slice none 0 0) F (wanted_none rfl _) rfl (by rfl) (o_assign rfl) fun a F => ?_
  refine lx_value (v := .slice none 0 0) F (wanted_none rfl _) rfl (by rfl) (o_assign rfl) fun a F => ?_
  refine lx_nil ?_
  repeat (first | refine ex_then ?_ | refine ex_block ?_ | refine wp_seq ?_ | refine wp_block ?_ | refine wp_skip ?_)
  refine wp_region_lit ?_
  refine lx_value (v := grp P Q G H) F (wanted_none rfl _) rfl (by rfl) (o_loadG (F.ev rfl) (HM.get 4 rfl)) fun a F => ?_
  refine lx_call F (wanted_none rfl _) rfl (by rfl) (run_callF Try.func11 (by kernel_rfl) (by rfl) (.cons (F.ev rfl) (.cons rfl .nil)) _) (hof _) fun a w z F => ?_
  replace HM := HM.on z
  clear z
  refine lx_new F HM (wanted_none rfl _) rfl (by rfl) (o_allocN) fun a w gp F HM => ?_
  refine lx_store F HM (wanted_none rfl _) rfl (k := 0) rfl (o_storeN (F.ev rfl) (F.ev rfl) (HM.get 0 rfl)) (M2 := [(gp, 24, ncs pw), (gb, 24, ncs vb), (ga, 24, ncs va), (gn, 37, acs X Y), (gz, 36, s2cs (.slice pa k cap) (.slice pb k capb)), (gg, 26, gcs P Q G H)]) (rfl) fun w HM => ?_
  refine lx_nil ?_
  repeat (first | refine ex_then ?_ | refine ex_block ?_ | refine wp_seq ?_ | refine wp_block ?_ | refine wp_skip ?_)
  refine wp_region_lit ?_
  refine lx_value (v := .int .i64 0) F (wanted_none rfl _) rfl (by rfl) (o_assign rfl) fun a F => ?_
  refine lx_nil ?_
  repeat (first | refine ex_then ?_ | refine ex_block ?_ | refine wp_seq ?_ | refine wp_block ?_ | refine wp_skip ?_)
  refine wp_loop (fun a w => ∃ (i pw : Nat) (v v1 : Value) (R : List (Nat × TypeId × Array Value)), i ≤ k ∧ pw = sofN Q ((X : Int) ^ i) ∧ LR R v ((List.zipWith (fun u v => (u + v) % Q) ps qs).take i) ∧ LR R v1 ((ps.map fun u => u * Y % Q).take i) ∧ Dj v v1 ∧ Fr a 244 [(14, .int .i64 (i : Nat)), (11, v), (12, v1), (3, .pointer (some ⟨gg, 0, none⟩)), (4, .pointer (some ⟨gz, 0, none⟩)), (5, .pointer (some ⟨gn, 0, none⟩)), (7, .pointer (some ⟨ga, 0, none⟩)), (9, .pointer (some ⟨gb, 0, none⟩)), (13, .pointer (some ⟨gp, 0, none⟩))] [] ∧ Mem w0.heap.size w0 w ((gp, 24, ncs pw) :: (gb, 24, ncs vb) :: (ga, 24, ncs va) :: (gn, 37, acs X Y) :: (gz, 36, s2cs (.slice pa k cap) (.slice pb k capb)) :: (gg, 26, gcs P Q G H) :: R)) (fun a _ => k - (intOf (a.tmps.getD 14 undef)).toNat) ⟨0, pw, _, _, [], Nat.zero_le _, hpw2, LR.nil _, LR.nil _, dj_nil _, F.sub [14, 11, 12, 3, 4, 5, 7, 9, 13], HM⟩ ?_
  clear F HM hof hpw hpw2
  rintro aS wS ⟨i, pw, v, v1, R, hi, hpw, lv, lu, dd, FS, HM⟩
  have F := FS
  have hpQ : pw < Q := by rw [hpw]; exact sof_lt h1 _
  by_cases hlt : i < k
  · repeat (first | refine ex_then ?_ | refine ex_block ?_ | refine wp_seq ?_ | refine wp_block ?_ | refine wp_skip ?_)
    refine wp_region_lit ?_
    refine lx_value (v := .int .i64 (i : Nat)) F (wanted_none rfl _) rfl (by rfl) (o_move (F.ev rfl)) fun a F => ?_
    refine lx_value (v := .pointer (some ⟨gz, 0, none⟩)) F (wanted_none rfl _) rfl (by rfl) (o_idxS0 (F.ev rfl) rfl) fun a F => ?_
    refine lx_value (v := .slice pa k cap) F (wanted_none rfl _) rfl (by rfl) (o_loadS0 (F.ev rfl) (HM.get 4 rfl)) fun a F => ?_
    refine lx_value (v := .int .i64 (k : Nat)) F (wanted_none rfl _) rfl (by rfl) (o_len (F.ev rfl)) fun a F => ?_
    refine lx_value (v := .bool true) F (wanted_none rfl _) rfl (by rfl) (o_bin (u := .int .i64 (i : Nat)) (v := .int .i64 (k : Nat)) (fun ρ hx hy => by simp only [execOp, hx, hy]; simp [go_sem]; omega) (F.ev rfl) (F.ev rfl)) fun a F => ?_
    refine lx_nil ?_
    repeat (first | refine ex_then ?_ | refine ex_block ?_ | refine wp_seq ?_ | refine wp_block ?_ | refine wp_skip ?_)
    refine wp_cond_true (F.ev rfl) ?_
    have hwr := rp.room hlt
    obtain ⟨gl, ol, hpa, hil, hxb, hc⟩ := rp.get hlt
    obtain ⟨gm, om, hpb, him, hyb, hd⟩ := rq.get hlt
    have hxQ := hps _ (List.getElem_mem hil)
    have hyQ := hqs _ (List.getElem_mem him)
    have tk1 : (List.zipWith (fun u v => (u + v) % Q) ps qs).take (i + 1) = (List.zipWith (fun u v => (u + v) % Q) ps qs).take i ++ [(ps[i] + qs[i]) % Q] := by rw [List.take_succ_eq_append_getElem (by simp; omega)]; simp
    have tk2 : (ps.map fun u => u * Y % Q).take (i + 1) = (ps.map fun u => u * Y % Q).take i ++ [ps[i] * Y % Q] := by rw [List.take_succ_eq_append_getElem (by simpa using hil)]; simp
    generalize ps[i] = x at *
    generalize qs[i] = y at *
    have hl1 : ((List.zipWith (fun u v => (u + v) % Q) ps qs).take i).length = i := by simp; omega
    have hl2 : ((ps.map fun u => u * Y % Q).take i).length = i := by simp; omega
    repeat (first | refine ex_then ?_ | refine ex_block ?_ | refine wp_seq ?_ | refine wp_block ?_ | refine wp_skip ?_)
    refine sx_enterR (S := fun w' => Mem _ _ w' ((gp, 24, ncs pw) :: (gb, 24, ncs vb) :: (ga, 24, ncs va) :: (gn, 37, acs X Y) :: (gz, 36, s2cs (.slice pa k cap) (.slice pb k capb)) :: (gg, 26, gcs P Q G H) :: R)) HM (fun _ h => h) (by kernel_rfl) fun w HM HBW => ?_
    clear HBW
    try simp only [List.append_eq, List.cons_append, List.nil_append]
    refine sx_batch [⟨0, 91, [], .val (grp P Q G H), true⟩,
      ⟨1, 92, [0], .val (.pointer (some ⟨gz, 0, none⟩)), true⟩,
      ⟨2, 93, [1], .val (.slice pa k cap), true⟩,
      ⟨3, 94, [2], .val (.int .i64 (i : Nat)), true⟩,
      ⟨4, 95, [2, 3], .val (.pointer (some ⟨gl, ol + i * 4, none⟩)), true⟩,
      ⟨5, 96, [4], .val (num x), true⟩,
      ⟨6, 97, [5], .val (.pointer (some ⟨gz, 1, none⟩)), true⟩,
      ⟨7, 98, [6], .val (.slice pb k capb), true⟩,
      ⟨8, 99, [7], .val (.int .i64 (i : Nat)), true⟩,
      ⟨9, 100, [7, 8], .val (.pointer (some ⟨gm, om + i * 4, none⟩)), true⟩,
      ⟨10, 101, [9], .val (num y), true⟩,
      ⟨15, 15, [], .cell 24 (ncs 0), false⟩,
      ⟨11, 102, [0, 5, 10], .val (.tuple #[num (((x + y) % Q)), .int .i64 0]), false⟩,
      ⟨12, 90, [12], .val (.tuple #[num (((x + y) % Q)), .int .i64 0]), true⟩,
      ⟨13, 103, [13], .val (num (((x + y) % Q))), true⟩,
      ⟨14, 104, [13, 14], .val (.int .i64 0), true⟩] 2 _ F HM (fun _ h => h.subl (by first | exact List.Sublist.refl _ | (repeat (first | exact List.Sublist.refl _ | refine List.Sublist.cons_cons _ ?_ | refine List.Sublist.cons _ ?_)))) (by kernel_rfl) (by rfl) ?_ ?_ ?_ ?_ ?_ ?_ ?_
    · kernel_rfl
    · exact of_decide_eq_true (by kernel_rfl)
    · exact all_cons ⟨_, by rfl, by rfl⟩ (all_cons ⟨_, by rfl, by rfl⟩ (all_cons ⟨_, by rfl, by rfl⟩ (all_cons ⟨_, by rfl, by rfl⟩ (all_cons ⟨_, by rfl, by rfl⟩ (all_cons ⟨_, by rfl, by rfl⟩ (all_cons ⟨_, by rfl, by rfl⟩ (all_cons ⟨_, by rfl, by rfl⟩ (all_cons ⟨_, by rfl, by rfl⟩ (all_cons ⟨_, by rfl, by rfl⟩ (all_cons ⟨_, by rfl, by rfl⟩ (all_cons ⟨_, by rfl, by rfl⟩ (all_cons ⟨_, by rfl, by rfl⟩ (all_cons ⟨_, by rfl, by rfl⟩ (all_cons ⟨_, by rfl, by rfl⟩ (all_cons ⟨_, by rfl, by rfl⟩ (all_nil))))))))))))))))
    · kernel_rfl
    · refine all_cons ?_ (all_cons ?_ (all_cons ?_ (all_cons ?_ (all_cons ?_ (all_cons ?_ (all_cons ?_ (all_cons ?_ (all_cons ?_ (all_cons ?_ (all_cons ?_ (all_cons ?_ (all_cons ?_ (all_cons ?_ (all_cons ?_ (all_cons ?_ (all_nil))))))))))))))))
      · exact coreS _ _ _ _ _ _ _ (by rfl) (by rfl) (wants_none) (fun ρ w kn hs => o_loadG (kn _ _ (F.old (by rfl) rfl)) (hs.get 5 rfl))
      · exact coreS _ _ _ _ _ _ _ (by rfl) (by rfl) (wants_none) (fun ρ w kn hs => o_idxS0 (kn _ _ (F.old (by rfl) rfl)) (kn _ _ (known_const _)))
      · exact coreS _ _ _ _ _ _ _ (by rfl) (by rfl) (wants_none) (fun ρ w kn hs => o_loadS0 (kn _ _ (known_core 1 92 _ _ (of_decide_eq_true (by rfl)) (by rfl) (by rfl) (by rfl))) (hs.get 4 rfl))
      · exact coreS _ _ _ _ _ _ _ (by rfl) (by rfl) (wants_none) (fun ρ w kn hs => o_move (kn _ _ (F.old (by rfl) rfl)))
      · exact coreS _ _ _ _ _ _ _ (by rfl) (by rfl) (wants_none) (fun ρ w kn hs => o_idxN hlt (by rw [← hpa]; exact (kn _ _ (known_core 2 93 _ _ (of_decide_eq_true (by rfl)) (by rfl) (by rfl) (by rfl)))) (kn _ _ (known_core 3 94 _ _ (of_decide_eq_true (by rfl)) (by rfl) (by rfl) (by rfl))))
      · exact coreS _ _ _ _ _ _ _ (by rfl) (by rfl) (wants_none) (fun ρ w kn hs => o_loadC (kn _ _ (known_core 4 95 _ _ (of_decide_eq_true (by rfl)) (by rfl) (by rfl) (by rfl))) (hc _ hs.bel))
      · exact coreS _ _ _ _ _ _ _ (by rfl) (by rfl) (wants_none) (fun ρ w kn hs => o_idxS1 (kn _ _ (F.old (by rfl) rfl)) (kn _ _ (known_const _)))
      · exact coreS _ _ _ _ _ _ _ (by rfl) (by rfl) (wants_none) (fun ρ w kn hs => o_loadS1 (kn _ _ (known_core 6 97 _ _ (of_decide_eq_true (by rfl)) (by rfl) (by rfl) (by rfl))) (hs.get 4 rfl))
      · exact coreS _ _ _ _ _ _ _ (by rfl) (by rfl) (wants_none) (fun ρ w kn hs => o_move (kn _ _ (F.old (by rfl) rfl)))
      · exact coreS _ _ _ _ _ _ _ (by rfl) (by rfl) (wants_none) (fun ρ w kn hs => o_idxN hlt (by rw [← hpb]; exact (kn _ _ (known_core 7 98 _ _ (of_decide_eq_true (by rfl)) (by rfl) (by rfl) (by rfl)))) (kn _ _ (known_core 8 99 _ _ (of_decide_eq_true (by rfl)) (by rfl) (by rfl) (by rfl))))
      · exact coreS _ _ _ _ _ _ _ (by rfl) (by rfl) (wants_none) (fun ρ w kn hs => o_loadC (kn _ _ (known_core 9 100 _ _ (of_decide_eq_true (by rfl)) (by rfl) (by rfl) (by rfl))) (hd _ hs.bel))
      · exact core_pureAs _ (by rfl)
      · exact core_pureAs _ (by rfl)
      · exact coreS _ _ _ _ _ _ _ (by rfl) (by rfl) (wants_none) (fun ρ w kn hs => o_move (kn _ _ (known_core 12 102 _ _ (of_decide_eq_true (by rfl)) (by rfl) (by rfl) (by rfl))))
      · exact coreS _ _ _ _ _ _ _ (by rfl) (by rfl) (wants_none) (fun ρ w kn hs => o_extract (kn _ _ (known_core 13 90 _ _ (of_decide_eq_true (by rfl)) (by rfl) (by rfl) (by rfl))) rfl)
      · exact coreS _ _ _ _ _ _ _ (by rfl) (by rfl) (wants_none) (fun ρ w kn hs => o_extract (kn _ _ (known_core 13 90 _ _ (of_decide_eq_true (by rfl)) (by rfl) (by rfl) (by rfl))) rfl)
    · refine all_cons ?_ (all_cons ?_ (all_cons ?_ (all_cons ?_ (all_cons ?_ (all_cons ?_ (all_cons ?_ (all_cons ?_ (all_cons ?_ (all_cons ?_ (all_cons ?_ (all_cons ?_ (all_cons ?_ (all_cons ?_ (all_cons ?_ (all_cons ?_ (all_nil))))))))))))))))
      · exact core_stepAs _ (by rfl)
      · exact core_stepAs _ (by rfl)
      · exact core_stepAs _ (by rfl)
      · exact core_stepAs _ (by rfl)
      · exact core_stepAs _ (by rfl)
      · exact core_stepAs _ (by rfl)
      · exact core_stepAs _ (by rfl)
      · exact core_stepAs _ (by rfl)
      · exact core_stepAs _ (by rfl)
      · exact core_stepAs _ (by rfl)
      · exact core_stepAs _ (by rfl)
      · exact fun _ => core_new _ _ _ _ _ _ _ _ (by rfl) (by rfl) (Nat.le_refl _) (fun ρ w => o_allocN)
      · exact fun _ => coreG_call _ 12 _ _ [.tmp 91, .tmp 96, .tmp 101] _ _ _ _ _ _ _ (by rfl) Try.func12 (by kernel_rfl) (by rfl) (by rfl) (wants_none) (.cons (known_core 0 91 _ _ (of_decide_eq_true (by rfl)) (by rfl) (by rfl) (by rfl)) (.cons (known_core 5 96 _ _ (of_decide_eq_true (by rfl)) (by rfl) (by rfl) (by rfl)) (.cons (known_core 10 101 _ _ (of_decide_eq_true (by rfl)) (by rfl) (by rfl) (by rfl)) .nil))) ((sadd_yes P Q G H x y hQ h1 hxQ hyQ))
      · exact core_stepAs _ (by rfl)
      · exact core_stepAs _ (by rfl)
      · exact core_stepAs _ (by rfl)
    intro gs rs a w hgs hrs F HM HBW HR HO HT
    obtain rfl := nl0 rs hrs
    obtain ⟨gx, rfl⟩ := nl1 gs hgs
    clear hrs hgs HR HBW HO
    clear HT
    refine sx_store (i := 16) HM (by kernel_rfl) (by rfl) rfl rfl (k := 0) rfl (o_storeN (F.ev rfl) (F.ev rfl) (HM.get 0 rfl)) (M2 := ((gx, 24, ncs (((x + y) % Q))) :: (gp, 24, ncs pw) :: (gb, 24, ncs vb) :: (ga, 24, ncs va) :: (gn, 37, acs X Y) :: (gz, 36, s2cs (.slice pa k cap) (.slice pb k capb)) :: (gg, 26, gcs P Q G H) :: R)) (rfl) (fun _ h => h.subl (by first | exact List.Sublist.refl _ | (repeat (first | exact List.Sublist.refl _ | refine List.Sublist.cons_cons _ ?_ | refine List.Sublist.cons _ ?_)))) fun w HM => ?_
    refine sx_assign (i := 17) (d := 16) (x := .tmp 104) (v := .int .i64 0) F ((HM.subl (by first | exact List.Sublist.refl _ | (repeat (first | exact List.Sublist.refl _ | refine List.Sublist.cons_cons _ ?_ | refine List.Sublist.cons _ ?_))))) (by kernel_rfl) (by rfl) (by rfl) (F.ev rfl) fun a F => ?_
    refine sx_done (by kernel_rfl) ?_ _
    by_cases hYQ : Y < Q
    · repeat (first | refine ex_then ?_ | refine ex_block ?_ | refine wp_seq ?_ | refine wp_block ?_ | refine wp_skip ?_)
      refine sx_enterR (S := fun w' => Mem _ _ w' ((gx, 24, ncs (((x + y) % Q))) :: (gp, 24, ncs pw) :: (gb, 24, ncs vb) :: (ga, 24, ncs va) :: (gn, 37, acs X Y) :: (gz, 36, s2cs (.slice pa k cap) (.slice pb k capb)) :: (gg, 26, gcs P Q G H) :: R)) HM (fun _ h => h) (by kernel_rfl) fun w HM HBW => ?_
      clear HBW
      try simp only [List.append_eq, List.cons_append, List.nil_append]
      refine sx_batch [⟨0, 106, [], .val (grp P Q G H), true⟩,
      ⟨1, 107, [0], .val (.pointer (some ⟨gz, 0, none⟩)), true⟩,
      ⟨2, 108, [1], .val (.slice pa k cap), true⟩,
      ⟨3, 109, [2], .val (.int .i64 (i : Nat)), true⟩,
      ⟨4, 110, [2, 3], .val (.pointer (some ⟨gl, ol + i * 4, none⟩)), true⟩,
      ⟨5, 111, [4], .val (num x), true⟩,
      ⟨6, 112, [5], .val (.pointer (some ⟨gn, 4, none⟩)), true⟩,
      ⟨7, 113, [6], .val (num Y), true⟩,
      ⟨12, 17, [], .cell 24 (ncs 0), false⟩,
      ⟨8, 114, [0, 5, 7], .val (.tuple #[num ((x * Y % Q)), .int .i64 0]), false⟩,
      ⟨9, 105, [9], .val (.tuple #[num ((x * Y % Q)), .int .i64 0]), true⟩,
      ⟨10, 115, [10], .val (num ((x * Y % Q))), true⟩,
      ⟨11, 116, [10, 11], .val (.int .i64 0), true⟩] 2 _ F HM (fun _ h => h.subl (by first | exact List.Sublist.refl _ | (repeat (first | exact List.Sublist.refl _ | refine List.Sublist.cons_cons _ ?_ | refine List.Sublist.cons _ ?_)))) (by kernel_rfl) (by rfl) ?_ ?_ ?_ ?_ ?_ ?_ ?_
      · kernel_rfl
      · exact of_decide_eq_true (by kernel_rfl)
      · exact all_cons ⟨_, by rfl, by rfl⟩ (all_cons ⟨_, by rfl, by rfl⟩ (all_cons ⟨_, by rfl, by rfl⟩ (all_cons ⟨_, by rfl, by rfl⟩ (all_cons ⟨_, by rfl, by rfl⟩ (all_cons ⟨_, by rfl, by rfl⟩ (all_cons ⟨_, by rfl, by rfl⟩ (all_cons ⟨_, by rfl, by rfl⟩ (all_cons ⟨_, by rfl, by rfl⟩ (all_cons ⟨_, by rfl, by rfl⟩ (all_cons ⟨_, by rfl, by rfl⟩ (all_cons ⟨_, by rfl, by rfl⟩ (all_cons ⟨_, by rfl, by rfl⟩ (all_nil)))))))))))))
      · kernel_rfl
      · refine all_cons ?_ (all_cons ?_ (all_cons ?_ (all_cons ?_ (all_cons ?_ (all_cons ?_ (all_cons ?_ (all_cons ?_ (all_cons ?_ (all_cons ?_ (all_cons ?_ (all_cons ?_ (all_cons ?_ (all_nil)))))))))))))
        · exact coreS _ _ _ _ _ _ _ (by rfl) (by rfl) (wants_none) (fun ρ w kn hs => o_loadG (kn _ _ (F.old (by rfl) rfl)) (hs.get 6 rfl))
        · exact coreS _ _ _ _ _ _ _ (by rfl) (by rfl) (wants_none) (fun ρ w kn hs => o_idxS0 (kn _ _ (F.old (by rfl) rfl)) (kn _ _ (known_const _)))
        · exact coreS _ _ _ _ _ _ _ (by rfl) (by rfl) (wants_none) (fun ρ w kn hs => o_loadS0 (kn _ _ (known_core 1 107 _ _ (of_decide_eq_true (by rfl)) (by rfl) (by rfl) (by rfl))) (hs.get 5 rfl))
        · exact coreS _ _ _ _ _ _ _ (by rfl) (by rfl) (wants_none) (fun ρ w kn hs => o_move (kn _ _ (F.old (by rfl) rfl)))
        · exact coreS _ _ _ _ _ _ _ (by rfl) (by rfl) (wants_none) (fun ρ w kn hs => o_idxN hlt (by rw [← hpa]; exact (kn _ _ (known_core 2 108 _ _ (of_decide_eq_true (by rfl)) (by rfl) (by rfl) (by rfl)))) (kn _ _ (known_core 3 109 _ _ (of_decide_eq_true (by rfl)) (by rfl) (by rfl) (by rfl))))
        · exact coreS _ _ _ _ _ _ _ (by rfl) (by rfl) (wants_none) (fun ρ w kn hs => o_loadC (kn _ _ (known_core 4 110 _ _ (of_decide_eq_true (by rfl)) (by rfl) (by rfl) (by rfl))) (hc _ hs.bel))
        · exact coreS _ _ _ _ _ _ _ (by rfl) (by rfl) (wants_none) (fun ρ w kn hs => o_idxA1 (kn _ _ (F.old (by rfl) rfl)) (kn _ _ (known_const _)))
        · exact coreS _ _ _ _ _ _ _ (by rfl) (by rfl) (wants_none) (fun ρ w kn hs => o_loadA1 (kn _ _ (known_core 6 112 _ _ (of_decide_eq_true (by rfl)) (by rfl) (by rfl) (by rfl))) (hs.get 4 rfl))
        · exact core_pureAs _ (by rfl)
        · exact core_pureAs _ (by rfl)
        · exact coreS _ _ _ _ _ _ _ (by rfl) (by rfl) (wants_none) (fun ρ w kn hs => o_move (kn _ _ (known_core 9 114 _ _ (of_decide_eq_true (by rfl)) (by rfl) (by rfl) (by rfl))))
        · exact coreS _ _ _ _ _ _ _ (by rfl) (by rfl) (wants_none) (fun ρ w kn hs => o_extract (kn _ _ (known_core 10 105 _ _ (of_decide_eq_true (by rfl)) (by rfl) (by rfl) (by rfl))) rfl)
        · exact coreS _ _ _ _ _ _ _ (by rfl) (by rfl) (wants_none) (fun ρ w kn hs => o_extract (kn _ _ (known_core 10 105 _ _ (of_decide_eq_true (by rfl)) (by rfl) (by rfl) (by rfl))) rfl)
      · refine all_cons ?_ (all_cons ?_ (all_cons ?_ (all_cons ?_ (all_cons ?_ (all_cons ?_ (all_cons ?_ (all_cons ?_ (all_cons ?_ (all_cons ?_ (all_cons ?_ (all_cons ?_ (all_cons ?_ (all_nil)))))))))))))
        · exact core_stepAs _ (by rfl)
        · exact core_stepAs _ (by rfl)
        · exact core_stepAs _ (by rfl)
        · exact core_stepAs _ (by rfl)
        · exact core_stepAs _ (by rfl)
        · exact core_stepAs _ (by rfl)
        · exact core_stepAs _ (by rfl)
        · exact core_stepAs _ (by rfl)
        · exact fun _ => core_new _ _ _ _ _ _ _ _ (by rfl) (by rfl) (Nat.le_refl _) (fun ρ w => o_allocN)
        · exact fun _ => coreG_call _ 13 _ _ [.tmp 106, .tmp 111, .tmp 113] _ _ _ _ _ _ _ (by rfl) Try.func13 (by kernel_rfl) (by rfl) (by rfl) (wants_none) (.cons (known_core 0 106 _ _ (of_decide_eq_true (by rfl)) (by rfl) (by rfl) (by rfl)) (.cons (known_core 5 111 _ _ (of_decide_eq_true (by rfl)) (by rfl) (by rfl) (by rfl)) (.cons (known_core 7 113 _ _ (of_decide_eq_true (by rfl)) (by rfl) (by rfl) (by rfl)) .nil))) ((smul_yes P Q G H x Y hQ h1 hxQ hYQ))
        · exact core_stepAs _ (by rfl)
        · exact core_stepAs _ (by rfl)
        · exact core_stepAs _ (by rfl)
      intro gs rs a w hgs hrs F HM HBW HR HO HT
      obtain rfl := nl0 rs hrs
      obtain ⟨gy, rfl⟩ := nl1 gs hgs
      clear hrs hgs HR HBW HO
      clear HT
      refine sx_store (i := 13) HM (by kernel_rfl) (by rfl) rfl rfl (k := 0) rfl (o_storeN (F.ev rfl) (F.ev rfl) (HM.get 0 rfl)) (M2 := ((gy, 24, ncs ((x * Y % Q))) :: (gx, 24, ncs (((x + y) % Q))) :: (gp, 24, ncs pw) :: (gb, 24, ncs vb) :: (ga, 24, ncs va) :: (gn, 37, acs X Y) :: (gz, 36, s2cs (.slice pa k cap) (.slice pb k capb)) :: (gg, 26, gcs P Q G H) :: R)) (rfl) (fun _ h => h.subl (by first | exact List.Sublist.refl _ | (repeat (first | exact List.Sublist.refl _ | refine List.Sublist.cons_cons _ ?_ | refine List.Sublist.cons _ ?_)))) fun w HM => ?_
      refine sx_assign (i := 14) (d := 18) (x := .tmp 116) (v := .int .i64 0) F ((HM.subl (by first | exact List.Sublist.refl _ | (repeat (first | exact List.Sublist.refl _ | refine List.Sublist.cons_cons _ ?_ | refine List.Sublist.cons _ ?_))))) (by kernel_rfl) (by rfl) (by rfl) (F.ev rfl) fun a F => ?_
      refine sx_done (by kernel_rfl) ?_ _
      repeat (first | refine ex_then ?_ | refine ex_block ?_ | refine wp_seq ?_ | refine wp_block ?_ | refine wp_skip ?_)
      refine wp_region_lit ?_
      refine lx_value (v := .int .i64 0) F (wanted_none rfl _) rfl (by rfl) (o_move (F.ev rfl)) fun a F => ?_
      refine lx_value (v := .bool false) F (wanted_none rfl _) rfl (by rfl) (o_bin (u := .int .i64 0) (v := .int .i64 0) (fun ρ hx hy => by simp only [execOp, hx, hy]; simp [go_sem]) (F.ev rfl) rfl) fun a F => ?_
      refine lx_value (v := .bool false) F (wanted_none rfl _) rfl (by rfl) (o_move (F.ev rfl)) fun a F => ?_
      refine lx_value (v := .int .i64 0) F (F.want (t := 119) (c := false) rfl rfl rfl (by rfl) rfl) rfl (by rfl) (o_move (F.ev rfl)) fun a F => ?_
      refine lx_value (v := .bool false) F (F.want (t := 119) (c := false) rfl rfl rfl (by rfl) rfl) rfl (by rfl) (o_bin (u := .int .i64 0) (v := .int .i64 0) (fun ρ hx hy => by simp only [execOp, hx, hy]; simp [go_sem]) (F.ev rfl) rfl) fun a F => ?_
      refine lx_value (v := .bool false) F (wanted_none rfl _) rfl (by rfl) (o_pick (b := false) (r := .bool false) (F.ev rfl) rfl (F.ev rfl) rfl) fun a F => ?_
      refine lx_nil ?_
      repeat (first | refine ex_then ?_ | refine ex_block ?_ | refine wp_seq ?_ | refine wp_block ?_ | refine wp_skip ?_)
      refine wp_cond_false (F.ev rfl) ?_
      repeat (first | refine ex_then ?_ | refine ex_block ?_ | refine wp_seq ?_ | refine wp_block ?_ | refine wp_skip ?_)
      refine wp_region_lit ?_
      refine lx_value (v := v) F (wanted_none rfl _) rfl (by rfl) (o_move (F.ev rfl)) fun a F => ?_
      refine lx_value (v := num (((x + y) % Q))) F (wanted_none rfl _) rfl (by rfl) (o_loadN (F.ev rfl) (HM.get 1 rfl)) fun a F => ?_
      refine lx_rowM F HM (wanted_none rfl _) rfl (by rfl) (o_slice1 (F.ev rfl)) fun a w gr F HM => ?_
      obtain ⟨v2, w2, hrun, R, HM2, l2, lk2⟩ := appR (ρ := a.eval) (s := .tmp 129) (x := .tmp 131) (A := [(gr, 24, (rows1 (((x + y) % Q)))), (gy, 24, ncs ((x * Y % Q))), (gx, 24, ncs (((x + y) % Q))), (gp, 24, ncs pw), (gb, 24, ncs vb), (ga, 24, ncs va), (gn, 37, acs X Y), (gz, 36, s2cs (.slice pa k cap) (.slice pb k capb)), (gg, 26, gcs P Q G H)]) HM lv (F.ev rfl) (F.ev rfl) rfl ((Pf.one ((x + y) % Q)).lie (HM.get 0 rfl)) (by simp) (by rw [hl1]; omega)
      obtain ⟨lun, ddn⟩ := lk2 _ _ lu dd
      replace lu := lun; replace dd := ddn
      replace HM := HM2; have lv := l2
      refine lx_value (v := v2) F (wanted_none rfl _) rfl (by rfl) hrun fun a F => ?_
      refine lx_value (v := v2) F (wanted_none rfl _) rfl (by rfl) (o_assign (F.ev rfl)) fun a F => ?_
      refine lx_nil ?_
      replace HM := HM.erase 0 (M2 := ((gy, 24, ncs ((x * Y % Q))) :: (gx, 24, ncs (((x + y) % Q))) :: (gp, 24, ncs pw) :: (gb, 24, ncs vb) :: (ga, 24, ncs va) :: (gn, 37, acs X Y) :: (gz, 36, s2cs (.slice pa k cap) (.slice pb k capb)) :: (gg, 26, gcs P Q G H) :: R)) rfl
      repeat (first | refine ex_then ?_ | refine ex_block ?_ | refine wp_seq ?_ | refine wp_block ?_ | refine wp_skip ?_)
      refine wp_region_lit ?_
      refine lx_value (v := v1) F (wanted_none rfl _) rfl (by rfl) (o_move (F.ev rfl)) fun a F => ?_
      refine lx_value (v := num ((x * Y % Q))) F (wanted_none rfl _) rfl (by rfl) (o_loadN (F.ev rfl) (HM.get 0 rfl)) fun a F => ?_
      refine lx_rowM F HM (wanted_none rfl _) rfl (by rfl) (o_slice1 (F.ev rfl)) fun a w gs F HM => ?_
      obtain ⟨v2, w2, hrun, R, HM2, l2, lk2⟩ := appR (ρ := a.eval) (s := .tmp 133) (x := .tmp 135) (A := [(gs, 24, (rows1 ((x * Y % Q)))), (gy, 24, ncs ((x * Y % Q))), (gx, 24, ncs (((x + y) % Q))), (gp, 24, ncs pw), (gb, 24, ncs vb), (ga, 24, ncs va), (gn, 37, acs X Y), (gz, 36, s2cs (.slice pa k cap) (.slice pb k capb)), (gg, 26, gcs P Q G H)]) HM lu (F.ev rfl) (F.ev rfl) rfl ((Pf.one (x * Y % Q)).lie (HM.get 0 rfl)) (by simp) (by rw [hl2]; omega)
      obtain ⟨lvn, ddn⟩ := lk2 _ _ lv dd.symm
      replace lv := lvn; replace dd := ddn.symm
      replace HM := HM2; have lu := l2
      refine lx_value (v := v2) F (wanted_none rfl _) rfl (by rfl) hrun fun a F => ?_
      refine lx_value (v := v2) F (wanted_none rfl _) rfl (by rfl) (o_assign (F.ev rfl)) fun a F => ?_
      refine lx_nil ?_
      replace HM := HM.erase 0 (M2 := ((gy, 24, ncs ((x * Y % Q))) :: (gx, 24, ncs (((x + y) % Q))) :: (gp, 24, ncs pw) :: (gb, 24, ncs vb) :: (ga, 24, ncs va) :: (gn, 37, acs X Y) :: (gz, 36, s2cs (.slice pa k cap) (.slice pb k capb)) :: (gg, 26, gcs P Q G H) :: R)) rfl
      replace HM := HM.erase 0 (M2 := ((gx, 24, ncs (((x + y) % Q))) :: (gp, 24, ncs pw) :: (gb, 24, ncs vb) :: (ga, 24, ncs va) :: (gn, 37, acs X Y) :: (gz, 36, s2cs (.slice pa k cap) (.slice pb k capb)) :: (gg, 26, gcs P Q G H) :: R)) rfl
      replace HM := HM.erase 0 (M2 := ((gp, 24, ncs pw) :: (gb, 24, ncs vb) :: (ga, 24, ncs va) :: (gn, 37, acs X Y) :: (gz, 36, s2cs (.slice pa k cap) (.slice pb k capb)) :: (gg, 26, gcs P Q G H) :: R)) rfl
      repeat (first | refine ex_then ?_ | refine ex_block ?_ | refine wp_seq ?_ | refine wp_block ?_ | refine wp_skip ?_)
      refine wp_region_lit ?_
      refine lx_value (v := grp P Q G H) F (wanted_none rfl _) rfl (by rfl) (o_loadG (F.ev rfl) (HM.get 5 rfl)) fun a F => ?_
      refine lx_value (v := num pw) F (wanted_none rfl _) rfl (by rfl) (o_loadN (F.ev rfl) (HM.get 0 rfl)) fun a F => ?_
      refine lx_value (v := .pointer (some ⟨gn, 0, none⟩)) F (wanted_none rfl _) rfl (by rfl) (o_idxA0 (F.ev rfl) rfl) fun a F => ?_
      refine lx_value (v := num X) F (wanted_none rfl _) rfl (by rfl) (o_loadA0 (F.ev rfl) (HM.get 3 rfl)) fun a F => ?_
      refine lx_call F (wanted_none rfl _) rfl (by rfl) (run_callF Try.func13 (by kernel_rfl) (by rfl) (.cons (F.ev rfl) (.cons (F.ev rfl) (.cons (F.ev rfl) .nil))) _) ((smul_yes P Q G H pw X hQ h1 hpQ hXQ) _) fun a w z F => ?_
      replace HM := HM.on z
      clear z
      refine lx_value (v := .tuple #[num ((pw * X % Q)), .int .i64 0]) F (wanted_none rfl _) rfl (by rfl) (o_move (F.ev rfl)) fun a F => ?_
      refine lx_value (v := num ((pw * X % Q))) F (wanted_none rfl _) rfl (by rfl) (o_extract (F.ev rfl) rfl) fun a F => ?_
      refine lx_value (v := .int .i64 0) F (wanted_none rfl _) rfl (by rfl) (o_extract (F.ev rfl) rfl) fun a F => ?_
      refine lx_store F HM (wanted_none rfl _) rfl (k := 0) rfl (o_storeN (F.ev rfl) (F.ev rfl) (HM.get 0 rfl)) (M2 := ((gp, 24, ncs ((pw * X % Q))) :: (gb, 24, ncs vb) :: (ga, 24, ncs va) :: (gn, 37, acs X Y) :: (gz, 36, s2cs (.slice pa k cap) (.slice pb k capb)) :: (gg, 26, gcs P Q G H) :: R)) (rfl) fun w HM => ?_
      refine lx_nil ?_
      repeat (first | refine ex_then ?_ | refine ex_block ?_ | refine wp_seq ?_ | refine wp_block ?_ | refine wp_skip ?_)
      refine wp_region_lit ?_
      refine lx_value (v := .int .i64 (i : Nat)) F (wanted_none rfl _) rfl (by rfl) (o_move (F.ev rfl)) fun a F => ?_
      refine lx_value (v := .int .i64 ((i + 1 : Nat) : Int)) F (wanted_none rfl _) rfl (by rfl) (o_bin (u := .int .i64 (i : Nat)) (v := .int .i64 1) (fun ρ hx hy => by simp only [execOp, hx, hy]; simp [go_sem, hwr]) (F.ev rfl) rfl) fun a F => ?_
      refine lx_value (v := .int .i64 ((i + 1 : Nat) : Int)) F (wanted_none rfl _) rfl (by rfl) (o_assign (F.ev rfl)) fun a F => ?_
      refine lx_nil ?_
      rw [← tk1] at lv
      rw [← tk2] at lu
      refine ex_then ?_
      refine ⟨⟨i + 1, _, _, _, _, by omega, by rw [hpw]; exact power_val h1 hXQ, lv, lu, dd, F.sub [14, 11, 12, 3, 4, 5, 7, 9, 13], HM⟩, ?_⟩
      · show k - (intOf (a.tmps.getD 14 undef)).toNat < k - (intOf (aS.tmps.getD 14 undef)).toNat
        rw [F.get 14 _ rfl, FS.get 14 _ rfl]
        show k - ((i + 1 : Nat) : Int).toNat < k - ((i : Nat) : Int).toNat
        omega
    · repeat (first | refine ex_then ?_ | refine ex_block ?_ | refine wp_seq ?_ | refine wp_block ?_ | refine wp_skip ?_)
      refine sx_enterR (S := fun w' => Mem _ _ w' ((gx, 24, ncs (((x + y) % Q))) :: (gp, 24, ncs pw) :: (gb, 24, ncs vb) :: (ga, 24, ncs va) :: (gn, 37, acs X Y) :: (gz, 36, s2cs (.slice pa k cap) (.slice pb k capb)) :: (gg, 26, gcs P Q G H) :: R)) HM (fun _ h => h) (by kernel_rfl) fun w HM HBW => ?_
      clear HBW
      try simp only [List.append_eq, List.cons_append, List.nil_append]
      refine sx_batch [⟨0, 106, [], .val (grp P Q G H), true⟩,
      ⟨1, 107, [0], .val (.pointer (some ⟨gz, 0, none⟩)), true⟩,
      ⟨2, 108, [1], .val (.slice pa k cap), true⟩,
      ⟨3, 109, [2], .val (.int .i64 (i : Nat)), true⟩,
      ⟨4, 110, [2, 3], .val (.pointer (some ⟨gl, ol + i * 4, none⟩)), true⟩,
      ⟨5, 111, [4], .val (num x), true⟩,
      ⟨6, 112, [5], .val (.pointer (some ⟨gn, 4, none⟩)), true⟩,
      ⟨7, 113, [6], .val (num Y), true⟩,
      ⟨12, 17, [], .cell 24 (ncs 0), false⟩,
      ⟨8, 114, [0, 5, 7], .val (.tuple #[num 0, .int .i64 1]), false⟩,
      ⟨9, 105, [9], .val (.tuple #[num 0, .int .i64 1]), true⟩,
      ⟨10, 115, [10], .val (num 0), true⟩,
      ⟨11, 116, [10, 11], .val (.int .i64 1), true⟩] 2 _ F HM (fun _ h => h.subl (by first | exact List.Sublist.refl _ | (repeat (first | exact List.Sublist.refl _ | refine List.Sublist.cons_cons _ ?_ | refine List.Sublist.cons _ ?_)))) (by kernel_rfl) (by rfl) ?_ ?_ ?_ ?_ ?_ ?_ ?_
      · kernel_rfl
      · exact of_decide_eq_true (by kernel_rfl)
      · exact all_cons ⟨_, by rfl, by rfl⟩ (all_cons ⟨_, by rfl, by rfl⟩ (all_cons ⟨_, by rfl, by rfl⟩ (all_cons ⟨_, by rfl, by rfl⟩ (all_cons ⟨_, by rfl, by rfl⟩ (all_cons ⟨_, by rfl, by rfl⟩ (all_cons ⟨_, by rfl, by rfl⟩ (all_cons ⟨_, by rfl, by rfl⟩ (all_cons ⟨_, by rfl, by rfl⟩ (all_cons ⟨_, by rfl, by rfl⟩ (all_cons ⟨_, by rfl, by rfl⟩ (all_cons ⟨_, by rfl, by rfl⟩ (all_cons ⟨_, by rfl, by rfl⟩ (all_nil)))))))))))))
      · kernel_rfl
      · refine all_cons ?_ (all_cons ?_ (all_cons ?_ (all_cons ?_ (all_cons ?_ (all_cons ?_ (all_cons ?_ (all_cons ?_ (all_cons ?_ (all_cons ?_ (all_cons ?_ (all_cons ?_ (all_cons ?_ (all_nil)))))))))))))
        · exact coreS _ _ _ _ _ _ _ (by rfl) (by rfl) (wants_none) (fun ρ w kn hs => o_loadG (kn _ _ (F.old (by rfl) rfl)) (hs.get 6 rfl))
        · exact coreS _ _ _ _ _ _ _ (by rfl) (by rfl) (wants_none) (fun ρ w kn hs => o_idxS0 (kn _ _ (F.old (by rfl) rfl)) (kn _ _ (known_const _)))
        · exact coreS _ _ _ _ _ _ _ (by rfl) (by rfl) (wants_none) (fun ρ w kn hs => o_loadS0 (kn _ _ (known_core 1 107 _ _ (of_decide_eq_true (by rfl)) (by rfl) (by rfl) (by rfl))) (hs.get 5 rfl))
        · exact coreS _ _ _ _ _ _ _ (by rfl) (by rfl) (wants_none) (fun ρ w kn hs => o_move (kn _ _ (F.old (by rfl) rfl)))
        · exact coreS _ _ _ _ _ _ _ (by rfl) (by rfl) (wants_none) (fun ρ w kn hs => o_idxN hlt (by rw [← hpa]; exact (kn _ _ (known_core 2 108 _ _ (of_decide_eq_true (by rfl)) (by rfl) (by rfl) (by rfl)))) (kn _ _ (known_core 3 109 _ _ (of_decide_eq_true (by rfl)) (by rfl) (by rfl) (by rfl))))
        · exact coreS _ _ _ _ _ _ _ (by rfl) (by rfl) (wants_none) (fun ρ w kn hs => o_loadC (kn _ _ (known_core 4 110 _ _ (of_decide_eq_true (by rfl)) (by rfl) (by rfl) (by rfl))) (hc _ hs.bel))
        · exact coreS _ _ _ _ _ _ _ (by rfl) (by rfl) (wants_none) (fun ρ w kn hs => o_idxA1 (kn _ _ (F.old (by rfl) rfl)) (kn _ _ (known_const _)))
        · exact coreS _ _ _ _ _ _ _ (by rfl) (by rfl) (wants_none) (fun ρ w kn hs => o_loadA1 (kn _ _ (known_core 6 112 _ _ (of_decide_eq_true (by rfl)) (by rfl) (by rfl) (by rfl))) (hs.get 4 rfl))
        · exact core_pureAs _ (by rfl)
        · exact core_pureAs _ (by rfl)
        · exact coreS _ _ _ _ _ _ _ (by rfl) (by rfl) (wants_none) (fun ρ w kn hs => o_move (kn _ _ (known_core 9 114 _ _ (of_decide_eq_true (by rfl)) (by rfl) (by rfl) (by rfl))))
        · exact coreS _ _ _ _ _ _ _ (by rfl) (by rfl) (wants_none) (fun ρ w kn hs => o_extract (kn _ _ (known_core 10 105 _ _ (of_decide_eq_true (by rfl)) (by rfl) (by rfl) (by rfl))) rfl)
        · exact coreS _ _ _ _ _ _ _ (by rfl) (by rfl) (wants_none) (fun ρ w kn hs => o_extract (kn _ _ (known_core 10 105 _ _ (of_decide_eq_true (by rfl)) (by rfl) (by rfl) (by rfl))) rfl)
      · refine all_cons ?_ (all_cons ?_ (all_cons ?_ (all_cons ?_ (all_cons ?_ (all_cons ?_ (all_cons ?_ (all_cons ?_ (all_cons ?_ (all_cons ?_ (all_cons ?_ (all_cons ?_ (all_cons ?_ (all_nil)))))))))))))
        · exact core_stepAs _ (by rfl)
        · exact core_stepAs _ (by rfl)
        · exact core_stepAs _ (by rfl)
        · exact core_stepAs _ (by rfl)
        · exact core_stepAs _ (by rfl)
        · exact core_stepAs _ (by rfl)
        · exact core_stepAs _ (by rfl)
        · exact core_stepAs _ (by rfl)
        · exact fun _ => core_new _ _ _ _ _ _ _ _ (by rfl) (by rfl) (Nat.le_refl _) (fun ρ w => o_allocN)
        · exact fun _ => coreG_call _ 13 _ _ [.tmp 106, .tmp 111, .tmp 113] _ _ _ _ _ _ _ (by rfl) Try.func13 (by kernel_rfl) (by rfl) (by rfl) (wants_none) (.cons (known_core 0 106 _ _ (of_decide_eq_true (by rfl)) (by rfl) (by rfl) (by rfl)) (.cons (known_core 5 111 _ _ (of_decide_eq_true (by rfl)) (by rfl) (by rfl) (by rfl)) (.cons (known_core 7 113 _ _ (of_decide_eq_true (by rfl)) (by rfl) (by rfl) (by rfl)) .nil))) ((smul_no P Q G H x Y hQ hxb hY (fun h => hYQ h.2.2)))
        · exact core_stepAs _ (by rfl)
        · exact core_stepAs _ (by rfl)
        · exact core_stepAs _ (by rfl)
      intro gs rs a w hgs hrs F HM HBW HR HO HT
      obtain rfl := nl0 rs hrs
      obtain ⟨gy, rfl⟩ := nl1 gs hgs
      clear hrs hgs HR HBW HO
      clear HT
      refine sx_store (i := 13) HM (by kernel_rfl) (by rfl) rfl rfl (k := 0) rfl (o_storeN (F.ev rfl) (F.ev rfl) (HM.get 0 rfl)) (M2 := ((gy, 24, ncs 0) :: (gx, 24, ncs (((x + y) % Q))) :: (gp, 24, ncs pw) :: (gb, 24, ncs vb) :: (ga, 24, ncs va) :: (gn, 37, acs X Y) :: (gz, 36, s2cs (.slice pa k cap) (.slice pb k capb)) :: (gg, 26, gcs P Q G H) :: R)) (rfl) (fun _ h => h.subl (by first | exact List.Sublist.refl _ | (repeat (first | exact List.Sublist.refl _ | refine List.Sublist.cons_cons _ ?_ | refine List.Sublist.cons _ ?_)))) fun w HM => ?_
      refine sx_assign (i := 14) (d := 18) (x := .tmp 116) (v := .int .i64 1) F ((HM.subl (by first | exact List.Sublist.refl _ | (repeat (first | exact List.Sublist.refl _ | refine List.Sublist.cons_cons _ ?_ | refine List.Sublist.cons _ ?_))))) (by kernel_rfl) (by rfl) (by rfl) (F.ev rfl) fun a F => ?_
      refine sx_done (by kernel_rfl) ?_ _
      repeat (first | refine ex_then ?_ | refine ex_block ?_ | refine wp_seq ?_ | refine wp_block ?_ | refine wp_skip ?_)
      refine wp_region_lit ?_
      refine lx_value (v := .int .i64 0) F (wanted_none rfl _) rfl (by rfl) (o_move (F.ev rfl)) fun a F => ?_
      refine lx_value (v := .bool false) F (wanted_none rfl _) rfl (by rfl) (o_bin (u := .int .i64 0) (v := .int .i64 0) (fun ρ hx hy => by simp only [execOp, hx, hy]; simp [go_sem]) (F.ev rfl) rfl) fun a F => ?_
      refine lx_value (v := .bool false) F (wanted_none rfl _) rfl (by rfl) (o_move (F.ev rfl)) fun a F => ?_
      refine lx_value (v := .int .i64 1) F (F.want (t := 119) (c := false) rfl rfl rfl (by rfl) rfl) rfl (by rfl) (o_move (F.ev rfl)) fun a F => ?_
      refine lx_value (v := .bool true) F (F.want (t := 119) (c := false) rfl rfl rfl (by rfl) rfl) rfl (by rfl) (o_bin (u := .int .i64 1) (v := .int .i64 0) (fun ρ hx hy => by simp only [execOp, hx, hy]; simp [go_sem]) (F.ev rfl) rfl) fun a F => ?_
      refine lx_value (v := .bool true) F (wanted_none rfl _) rfl (by rfl) (o_pick (b := false) (r := .bool true) (F.ev rfl) rfl (F.ev rfl) rfl) fun a F => ?_
      refine lx_nil ?_
      repeat (first | refine ex_then ?_ | refine ex_block ?_ | refine wp_seq ?_ | refine wp_block ?_ | refine wp_skip ?_)
      refine wp_cond_true (F.ev rfl) ?_
      repeat (first | refine ex_then ?_ | refine ex_block ?_ | refine wp_seq ?_ | refine wp_block ?_ | refine wp_skip ?_)
      refine wp_region_lit ?_
      refine lx_value (v := .int .i64 1) F (wanted_none rfl _) rfl (by rfl) (o_move (F.ev rfl)) fun a F => ?_
      refine lx_value (v := .bool true) F (wanted_none rfl _) rfl (by rfl) (o_bin (u := .int .i64 1) (v := .int .i64 1) (fun ρ hx hy => by simp only [execOp, hx, hy]; simp [go_sem]) (F.ev rfl) rfl) fun a F => ?_
      refine lx_value (v := .bool true) F (wanted_none rfl _) rfl (by rfl) (o_move (F.ev rfl)) fun a F => ?_
      refine lx_value (v := .int .i64 0) F (F.want (t := 125) (c := true) rfl rfl rfl (by rfl) rfl) rfl (by rfl) (o_move (F.ev rfl)) fun a F => ?_
      refine lx_value (v := .bool true) F (F.want (t := 125) (c := true) rfl rfl rfl (by rfl) rfl) rfl (by rfl) (o_bin (u := .int .i64 0) (v := .int .i64 0) (fun ρ hx hy => by simp only [execOp, hx, hy]; simp [go_sem]) (F.ev rfl) rfl) fun a F => ?_
      refine lx_value (v := .bool true) F (wanted_none rfl _) rfl (by rfl) (o_pick (b := true) (r := .bool true) (F.ev rfl) (F.ev rfl) rfl rfl) fun a F => ?_
      refine lx_value (v := .bool true) F (wanted_none rfl _) rfl (by rfl) (o_assign (F.ev rfl)) fun a F => ?_
      refine lx_nil ?_
      repeat (first | refine ex_then ?_ | refine ex_block ?_ | refine wp_seq ?_ | refine wp_block ?_ | refine wp_skip ?_)
      refine wp_ret ?_
      repeat (first | refine ex_thenR ?_ | refine ex_blockR ?_)
      exact sx_ret F HM (res_tmp F rfl (s := 6) rfl)
  · repeat (first | refine ex_then ?_ | refine ex_block ?_ | refine wp_seq ?_ | refine wp_block ?_ | refine wp_skip ?_)
    refine wp_region_lit ?_
    refine lx_value (v := .int .i64 (i : Nat)) F (wanted_none rfl _) rfl (by rfl) (o_move (F.ev rfl)) fun a F => ?_
    refine lx_value (v := .pointer (some ⟨gz, 0, none⟩)) F (wanted_none rfl _) rfl (by rfl) (o_idxS0 (F.ev rfl) rfl) fun a F => ?_
    refine lx_value (v := .slice pa k cap) F (wanted_none rfl _) rfl (by rfl) (o_loadS0 (F.ev rfl) (HM.get 4 rfl)) fun a F => ?_
    refine lx_value (v := .int .i64 (k : Nat)) F (wanted_none rfl _) rfl (by rfl) (o_len (F.ev rfl)) fun a F => ?_
    refine lx_value (v := .bool false) F (wanted_none rfl _) rfl (by rfl) (o_bin (u := .int .i64 (i : Nat)) (v := .int .i64 (k : Nat)) (fun ρ hx hy => by simp only [execOp, hx, hy]; simp [go_sem]; omega) (F.ev rfl) (F.ev rfl)) fun a F => ?_
    refine lx_nil ?_
    repeat (first | refine ex_then ?_ | refine ex_block ?_ | refine wp_seq ?_ | refine wp_block ?_ | refine wp_skip ?_)
    refine wp_cond_false (F.ev rfl) ?_
    repeat (first | refine ex_then ?_ | refine ex_block ?_ | refine wp_seq ?_ | refine wp_block ?_ | refine wp_skip ?_)
    refine wp_exit ?_
    repeat (first | refine ex_thenE ?_ | refine ex_blockE ?_)
    have hin : i = k := by omega
    have hl1 : (List.zipWith (fun u v => (u + v) % Q) ps qs).length = k := by simp [rp.1, rq.1]
    have hl2 : (ps.map fun u => u * Y % Q).length = k := by simp [rp.1]
    rw [List.take_of_length_le (by omega)] at lv lu
    obtain ⟨av, cv, rfl⟩ := lv.form
    obtain ⟨au, cu, rfl⟩ := lu.form
    rw [hl1] at F lv
    rw [hl2] at F lu
    rw [hin, ← rp.1] at hpw
    rw [← hpw] at hDV
    have hb1 : ∀ z ∈ (List.zipWith (fun u v => (u + v) % Q) ps qs), z < Q := fun z hz => by obtain ⟨j, hj, rfl⟩ := List.getElem_of_mem hz; rw [List.getElem_zipWith]; exact Nat.mod_lt _ (by omega)
    have hb2 : ∀ z ∈ (ps.map fun u => u * Y % Q), z < Q := fun z hz => by obtain ⟨j, hj, rfl⟩ := List.mem_map.1 hz; exact Nat.mod_lt _ (by omega)
    have at1 := at_yes P Q G H X k cv av (List.zipWith (fun u v => (u + v) % Q) ps qs) wS hQ (atB_iff.2 ⟨h1, hXQ, hb1⟩) (lv.rn HM (fun x hx => by simp [hx]) fun z hz => Nat.lt_trans (hb1 z hz) hQ)
    rw [hCV] at at1
    repeat (first | refine ex_then ?_ | refine ex_block ?_ | refine wp_seq ?_ | refine wp_block ?_ | refine wp_skip ?_)
    refine wp_region_lit ?_
    refine lx_value (v := grp P Q G H) F (wanted_none rfl _) rfl (by rfl) (o_loadG (F.ev rfl) (HM.get 5 rfl)) fun a F => ?_
    refine lx_value (v := .slice av k cv) F (wanted_none rfl _) rfl (by rfl) (o_move (F.ev rfl)) fun a F => ?_
    refine lx_value (v := .pointer (some ⟨gn, 0, none⟩)) F (wanted_none rfl _) rfl (by rfl) (o_idxA0 (F.ev rfl) rfl) fun a F => ?_
    refine lx_value (v := num X) F (wanted_none rfl _) rfl (by rfl) (o_loadA0 (F.ev rfl) (HM.get 3 rfl)) fun a F => ?_
    refine lx_call F (wanted_none rfl _) rfl (by rfl) (run_callF Try.func9 (by kernel_rfl) (by rfl) (.cons (F.ev rfl) (.cons (F.ev rfl) (.cons (F.ev rfl) .nil))) _) (at1) fun a w z F => ?_
    replace HM := HM.on z
    clear z
    refine lx_value (v := .tuple #[num (((va + vb) % Q)), .int .i64 0]) F (wanted_none rfl _) rfl (by rfl) (o_move (F.ev rfl)) fun a F => ?_
    refine lx_value (v := num (((va + vb) % Q))) F (wanted_none rfl _) rfl (by rfl) (o_extract (F.ev rfl) rfl) fun a F => ?_
    refine lx_value (v := .int .i64 0) F (wanted_none rfl _) rfl (by rfl) (o_extract (F.ev rfl) rfl) fun a F => ?_
    refine lx_new F HM (wanted_none rfl _) rfl (by rfl) (o_allocN) fun a w gc F HM => ?_
    refine lx_store F HM (wanted_none rfl _) rfl (k := 0) rfl (o_storeN (F.ev rfl) (F.ev rfl) (HM.get 0 rfl)) (M2 := ((gc, 24, ncs (((va + vb) % Q))) :: (gp, 24, ncs pw) :: (gb, 24, ncs vb) :: (ga, 24, ncs va) :: (gn, 37, acs X Y) :: (gz, 36, s2cs (.slice pa k cap) (.slice pb k capb)) :: (gg, 26, gcs P Q G H) :: R)) (rfl) fun w HM => ?_
    refine lx_value (v := .int .i64 0) F (wanted_none rfl _) rfl (by rfl) (o_assign (F.ev rfl)) fun a F => ?_
    refine lx_nil ?_
    repeat (first | refine ex_then ?_ | refine ex_block ?_ | refine wp_seq ?_ | refine wp_block ?_ | refine wp_skip ?_)
    refine wp_region_lit ?_
    refine lx_value (v := grp P Q G H) F (wanted_none rfl _) rfl (by rfl) (o_loadG (F.ev rfl) (HM.get 6 rfl)) fun a F => ?_
    refine lx_value (v := num va) F (wanted_none rfl _) rfl (by rfl) (o_loadN (F.ev rfl) (HM.get 3 rfl)) fun a F => ?_
    refine lx_value (v := num vb) F (wanted_none rfl _) rfl (by rfl) (o_loadN (F.ev rfl) (HM.get 2 rfl)) fun a F => ?_
    refine lx_call F (wanted_none rfl _) rfl (by rfl) (run_callF Try.func12 (by kernel_rfl) (by rfl) (.cons (F.ev rfl) (.cons (F.ev rfl) (.cons (F.ev rfl) .nil))) _) ((sadd_yes P Q G H va vb hQ h1 hVA hVB) _) fun a w z F => ?_
    replace HM := HM.on z
    clear z
    refine lx_value (v := .tuple #[num (((va + vb) % Q)), .int .i64 0]) F (wanted_none rfl _) rfl (by rfl) (o_move (F.ev rfl)) fun a F => ?_
    refine lx_value (v := num (((va + vb) % Q))) F (wanted_none rfl _) rfl (by rfl) (o_extract (F.ev rfl) rfl) fun a F => ?_
    refine lx_value (v := .int .i64 0) F (wanted_none rfl _) rfl (by rfl) (o_extract (F.ev rfl) rfl) fun a F => ?_
    refine lx_new F HM (wanted_none rfl _) rfl (by rfl) (o_allocN) fun a w gu F HM => ?_
    refine lx_store F HM (wanted_none rfl _) rfl (k := 0) rfl (o_storeN (F.ev rfl) (F.ev rfl) (HM.get 0 rfl)) (M2 := ((gu, 24, ncs (((va + vb) % Q))) :: (gc, 24, ncs (((va + vb) % Q))) :: (gp, 24, ncs pw) :: (gb, 24, ncs vb) :: (ga, 24, ncs va) :: (gn, 37, acs X Y) :: (gz, 36, s2cs (.slice pa k cap) (.slice pb k capb)) :: (gg, 26, gcs P Q G H) :: R)) (rfl) fun w HM => ?_
    refine lx_value (v := .int .i64 0) F (wanted_none rfl _) rfl (by rfl) (o_assign (F.ev rfl)) fun a F => ?_
    refine lx_nil ?_
    repeat (first | refine ex_then ?_ | refine ex_block ?_ | refine wp_seq ?_ | refine wp_block ?_ | refine wp_skip ?_)
    refine wp_region_lit ?_
    refine lx_value (v := .int .i64 0) F (wanted_none rfl _) rfl (by rfl) (o_move (F.ev rfl)) fun a F => ?_
    refine lx_value (v := .bool false) F (wanted_none rfl _) rfl (by rfl) (o_bin (u := .int .i64 0) (v := .int .i64 0) (fun ρ hx hy => by simp only [execOp, hx, hy]; simp [go_sem]) (F.ev rfl) rfl) fun a F => ?_
    refine lx_value (v := .bool false) F (wanted_none rfl _) rfl (by rfl) (o_move (F.ev rfl)) fun a F => ?_
    refine lx_value (v := .int .i64 0) F (F.want (t := 162) (c := false) rfl rfl rfl (by rfl) rfl) rfl (by rfl) (o_move (F.ev rfl)) fun a F => ?_
    refine lx_value (v := .bool false) F (F.want (t := 162) (c := false) rfl rfl rfl (by rfl) rfl) rfl (by rfl) (o_bin (u := .int .i64 0) (v := .int .i64 0) (fun ρ hx hy => by simp only [execOp, hx, hy]; simp [go_sem]) (F.ev rfl) rfl) fun a F => ?_
    refine lx_value (v := .bool false) F (wanted_none rfl _) rfl (by rfl) (o_pick (b := false) (r := .bool false) (F.ev rfl) rfl (F.ev rfl) rfl) fun a F => ?_
    refine lx_value (v := .bool false) F (wanted_none rfl _) rfl (by rfl) (o_move (F.ev rfl)) fun a F => ?_
    refine lx_value (v := num (((va + vb) % Q))) F (F.want (t := 166) (c := false) rfl rfl rfl (by rfl) rfl) rfl (by rfl) (o_loadN (F.ev rfl) (HM.get 1 rfl)) fun a F => ?_
    refine lx_value (v := num (((va + vb) % Q))) F (F.want (t := 166) (c := false) rfl rfl rfl (by rfl) rfl) rfl (by rfl) (o_loadN (F.ev rfl) (HM.get 0 rfl)) fun a F => ?_
    refine lx_value (v := .bool false) F (F.want (t := 166) (c := false) rfl rfl rfl (by rfl) rfl) rfl (by rfl) (o_neqS (F.ev rfl) (F.ev rfl)) fun a F => ?_
    refine lx_value (v := .bool false) F (wanted_none rfl _) rfl (by rfl) (o_pick (b := false) (r := .bool false) (F.ev rfl) rfl (F.ev rfl) rfl) fun a F => ?_
    refine lx_nil ?_
    repeat (first | refine ex_then ?_ | refine ex_block ?_ | refine wp_seq ?_ | refine wp_block ?_ | refine wp_skip ?_)
    refine wp_cond_false (F.ev rfl) ?_
    replace HM := HM.erase 0 (M2 := ((gc, 24, ncs (((va + vb) % Q))) :: (gp, 24, ncs pw) :: (gb, 24, ncs vb) :: (ga, 24, ncs va) :: (gn, 37, acs X Y) :: (gz, 36, s2cs (.slice pa k cap) (.slice pb k capb)) :: (gg, 26, gcs P Q G H) :: R)) rfl
    replace HM := HM.erase 0 (M2 := ((gp, 24, ncs pw) :: (gb, 24, ncs vb) :: (ga, 24, ncs va) :: (gn, 37, acs X Y) :: (gz, 36, s2cs (.slice pa k cap) (.slice pb k capb)) :: (gg, 26, gcs P Q G H) :: R)) rfl
    replace HM := HM.erase 1 (M2 := ((gp, 24, ncs pw) :: (ga, 24, ncs va) :: (gn, 37, acs X Y) :: (gz, 36, s2cs (.slice pa k cap) (.slice pb k capb)) :: (gg, 26, gcs P Q G H) :: R)) rfl
    clear at1 lv
    have hlk : (ps ++ [Y]).length = k + 1 := by simp [rp.1]
    have hpb : ∀ z ∈ ps ++ [Y], z < 2 ^ 256 := fun z hz => by
      rcases List.mem_append.1 hz with hz | hz
      · exact Nat.lt_trans (hps z hz) hQ
      · rw [List.mem_singleton.1 hz]; exact hY
    obtain ⟨VV, ee, hA3, hE⟩ : ∃ (VV : Nat) (ee : Int), (∀ (w : World) (a : Option Addr) (c : Nat), RN w.heap.size w a (k + 1) c (ps ++ [Y]) → Calls Try.prog 9 #[grp P Q G H, .slice a (k + 1) c, num X] w fun e w' => e = .returned (.tuple #[num VV, .int .i64 ee]) ∧ Below w.heap.size w w') ∧ (ee = 0 ∧ Y < Q ∧ VV = (va + Y * pw % Q) % Q ∨ ee = 1 ∧ ¬ Y < Q) := by
      by_cases hYQ : Y < Q
      · refine ⟨(va + Y * pw % Q) % Q, 0, fun w a c r => ?_, Or.inl ⟨rfl, hYQ, rfl⟩⟩
        rw [← hDV hYQ]
        refine at_yes P Q G H X _ c a _ w hQ (atB_iff.2 ⟨h1, hXQ, fun z hz => ?_⟩) r
        rcases List.mem_append.1 hz with hz | hz
        · exact hps z hz
        · rw [List.mem_singleton.1 hz]; exact hYQ
      · exact ⟨0, 1, fun w a c r => at_no P Q G H X _ c a _ w hQ hX (Bool.eq_false_iff.2 fun h => hYQ ((atB_iff.1 h).2.2 Y (by simp))) r, Or.inr ⟨rfl, hYQ⟩⟩
    repeat (first | refine ex_then ?_ | refine ex_block ?_ | refine wp_seq ?_ | refine wp_block ?_ | refine wp_skip ?_)
    refine Code.wp_mono (Q := fun e a w1 => e = .normal ∧ ∃ (gd : Nat) (R : List (Nat × TypeId × Array Value)), LR R (.slice au k cu) (ps.map fun u => u * Y % Q) ∧ Fr a 244 [(23, .pointer (some ⟨gd, 0, none⟩)), (24, .int .i64 ee), (172, grp P Q G H), (181, num X), (3, .pointer (some ⟨gg, 0, none⟩)), (5, .pointer (some ⟨gn, 0, none⟩)), (7, .pointer (some ⟨ga, 0, none⟩)), (12, .slice au k cu), (13, .pointer (some ⟨gp, 0, none⟩))] [] ∧ Mem w0.heap.size w0 w1 ((gd, 24, ncs VV) :: (gp, 24, ncs pw) :: (ga, 24, ncs va) :: (gn, 37, acs X Y) :: (gz, 36, s2cs (.slice pa k cap) (.slice pb k capb)) :: (gg, 26, gcs P Q G H) :: R)) ?_ ?_
    · clear F HM lu
      rintro e a w ⟨rfl, gd, R, lu, F, HM⟩
      have hVV : True := trivial
      rcases hE with ⟨rfl, hYQ, hVV2⟩ | ⟨rfl, hYQ⟩
      · subst hVV2
        repeat (first | refine ex_then ?_ | refine ex_block ?_ | refine wp_seq ?_ | refine wp_block ?_ | refine wp_skip ?_)
        refine wp_region_lit ?_
        refine lx_value (v := grp P Q G H) F (wanted_none rfl _) rfl (by rfl) (o_loadG (F.ev rfl) (HM.get 5 rfl)) fun a F => ?_
        refine lx_value (v := .pointer (some ⟨gn, 4, none⟩)) F (wanted_none rfl _) rfl (by rfl) (o_idxA1 (F.ev rfl) rfl) fun a F => ?_
        refine lx_value (v := num Y) F (wanted_none rfl _) rfl (by rfl) (o_loadA1 (F.ev rfl) (HM.get 3 rfl)) fun a F => ?_
        refine lx_value (v := num pw) F (wanted_none rfl _) rfl (by rfl) (o_loadN (F.ev rfl) (HM.get 1 rfl)) fun a F => ?_
        refine lx_call F (wanted_none rfl _) rfl (by rfl) (run_callF Try.func13 (by kernel_rfl) (by rfl) (.cons (F.ev rfl) (.cons (F.ev rfl) (.cons (F.ev rfl) .nil))) _) ((smul_yes P Q G H Y pw hQ h1 hYQ hpQ) _) fun a w z F => ?_
        replace HM := HM.on z
        clear z
        refine lx_value (v := .tuple #[num ((Y * pw % Q)), .int .i64 0]) F (wanted_none rfl _) rfl (by rfl) (o_move (F.ev rfl)) fun a F => ?_
        refine lx_value (v := num ((Y * pw % Q))) F (wanted_none rfl _) rfl (by rfl) (o_extract (F.ev rfl) rfl) fun a F => ?_
        refine lx_value (v := .int .i64 0) F (wanted_none rfl _) rfl (by rfl) (o_extract (F.ev rfl) rfl) fun a F => ?_
        refine lx_new F HM (wanted_none rfl _) rfl (by rfl) (o_allocN) fun a w ge F HM => ?_
        refine lx_store F HM (wanted_none rfl _) rfl (k := 0) rfl (o_storeN (F.ev rfl) (F.ev rfl) (HM.get 0 rfl)) (M2 := ((ge, 24, ncs ((Y * pw % Q))) :: (gd, 24, ncs (((va + Y * pw % Q) % Q))) :: (gp, 24, ncs pw) :: (ga, 24, ncs va) :: (gn, 37, acs X Y) :: (gz, 36, s2cs (.slice pa k cap) (.slice pb k capb)) :: (gg, 26, gcs P Q G H) :: R)) (rfl) fun w HM => ?_
        refine lx_value (v := .int .i64 0) F (wanted_none rfl _) rfl (by rfl) (o_assign (F.ev rfl)) fun a F => ?_
        refine lx_nil ?_
        repeat (first | refine ex_then ?_ | refine ex_block ?_ | refine wp_seq ?_ | refine wp_block ?_ | refine wp_skip ?_)
        refine wp_region_lit ?_
        refine lx_value (v := .int .i64 0) F (wanted_none rfl _) rfl (by rfl) (o_move (F.ev rfl)) fun a F => ?_
        refine lx_value (v := .bool false) F (wanted_none rfl _) rfl (by rfl) (o_bin (u := .int .i64 0) (v := .int .i64 0) (fun ρ hx hy => by simp only [execOp, hx, hy]; simp [go_sem]) (F.ev rfl) rfl) fun a F => ?_
        refine lx_nil ?_
        repeat (first | refine ex_then ?_ | refine ex_block ?_ | refine wp_seq ?_ | refine wp_block ?_ | refine wp_skip ?_)
        refine wp_cond_false (F.ev rfl) ?_
        have hlQ : Y * pw % Q < Q := Nat.mod_lt _ (by omega)
        repeat (first | refine ex_then ?_ | refine ex_block ?_ | refine wp_seq ?_ | refine wp_block ?_ | refine wp_skip ?_)
        refine wp_region_lit ?_
        refine lx_value (v := grp P Q G H) F (wanted_none rfl _) rfl (by rfl) (o_loadG (F.ev rfl) (HM.get 6 rfl)) fun a F => ?_
        refine lx_value (v := num va) F (wanted_none rfl _) rfl (by rfl) (o_loadN (F.ev rfl) (HM.get 3 rfl)) fun a F => ?_
        refine lx_value (v := num ((Y * pw % Q))) F (wanted_none rfl _) rfl (by rfl) (o_loadN (F.ev rfl) (HM.get 0 rfl)) fun a F => ?_
        refine lx_call F (wanted_none rfl _) rfl (by rfl) (run_callF Try.func12 (by kernel_rfl) (by rfl) (.cons (F.ev rfl) (.cons (F.ev rfl) (.cons (F.ev rfl) .nil))) _) ((sadd_yes P Q G H va (Y * pw % Q) hQ h1 hVA hlQ) _) fun a w z F => ?_
        replace HM := HM.on z
        clear z
        refine lx_value (v := .tuple #[num (((va + Y * pw % Q) % Q)), .int .i64 0]) F (wanted_none rfl _) rfl (by rfl) (o_move (F.ev rfl)) fun a F => ?_
        refine lx_value (v := num (((va + Y * pw % Q) % Q))) F (wanted_none rfl _) rfl (by rfl) (o_extract (F.ev rfl) rfl) fun a F => ?_
        refine lx_value (v := .int .i64 0) F (wanted_none rfl _) rfl (by rfl) (o_extract (F.ev rfl) rfl) fun a F => ?_
        refine lx_new F HM (wanted_none rfl _) rfl (by rfl) (o_allocN) fun a w gf F HM => ?_
        refine lx_store F HM (wanted_none rfl _) rfl (k := 0) rfl (o_storeN (F.ev rfl) (F.ev rfl) (HM.get 0 rfl)) (M2 := ((gf, 24, ncs (((va + Y * pw % Q) % Q))) :: (ge, 24, ncs ((Y * pw % Q))) :: (gd, 24, ncs (((va + Y * pw % Q) % Q))) :: (gp, 24, ncs pw) :: (ga, 24, ncs va) :: (gn, 37, acs X Y) :: (gz, 36, s2cs (.slice pa k cap) (.slice pb k capb)) :: (gg, 26, gcs P Q G H) :: R)) (rfl) fun w HM => ?_
        refine lx_value (v := .int .i64 0) F (wanted_none rfl _) rfl (by rfl) (o_assign (F.ev rfl)) fun a F => ?_
        refine lx_nil ?_
        have at2 := at_yes P Q G H X k cu au (ps.map fun u => u * Y % Q) w hQ (atB_iff.2 ⟨h1, hXQ, hb2⟩) (lu.rn HM (fun x hx => by simp [hx]) fun z hz => Nat.lt_trans (hb2 z hz) hQ)
        rw [hTV hYQ] at at2
        repeat (first | refine ex_then ?_ | refine ex_block ?_ | refine wp_seq ?_ | refine wp_block ?_ | refine wp_skip ?_)
        refine wp_region_lit ?_
        refine lx_value (v := grp P Q G H) F (wanted_none rfl _) rfl (by rfl) (o_loadG (F.ev rfl) (HM.get 7 rfl)) fun a F => ?_
        refine lx_value (v := .slice au k cu) F (wanted_none rfl _) rfl (by rfl) (o_move (F.ev rfl)) fun a F => ?_
        refine lx_value (v := .pointer (some ⟨gn, 0, none⟩)) F (wanted_none rfl _) rfl (by rfl) (o_idxA0 (F.ev rfl) rfl) fun a F => ?_
        refine lx_value (v := num X) F (wanted_none rfl _) rfl (by rfl) (o_loadA0 (F.ev rfl) (HM.get 5 rfl)) fun a F => ?_
        refine lx_call F (wanted_none rfl _) rfl (by rfl) (run_callF Try.func9 (by kernel_rfl) (by rfl) (.cons (F.ev rfl) (.cons (F.ev rfl) (.cons (F.ev rfl) .nil))) _) (at2) fun a w z F => ?_
        replace HM := HM.on z
        clear z
        refine lx_value (v := .tuple #[num ((va * Y % Q)), .int .i64 0]) F (wanted_none rfl _) rfl (by rfl) (o_move (F.ev rfl)) fun a F => ?_
        refine lx_value (v := num ((va * Y % Q))) F (wanted_none rfl _) rfl (by rfl) (o_extract (F.ev rfl) rfl) fun a F => ?_
        refine lx_value (v := .int .i64 0) F (wanted_none rfl _) rfl (by rfl) (o_extract (F.ev rfl) rfl) fun a F => ?_
        refine lx_new F HM (wanted_none rfl _) rfl (by rfl) (o_allocN) fun a w gh F HM => ?_
        refine lx_store F HM (wanted_none rfl _) rfl (k := 0) rfl (o_storeN (F.ev rfl) (F.ev rfl) (HM.get 0 rfl)) (M2 := ((gh, 24, ncs ((va * Y % Q))) :: (gf, 24, ncs (((va + Y * pw % Q) % Q))) :: (ge, 24, ncs ((Y * pw % Q))) :: (gd, 24, ncs (((va + Y * pw % Q) % Q))) :: (gp, 24, ncs pw) :: (ga, 24, ncs va) :: (gn, 37, acs X Y) :: (gz, 36, s2cs (.slice pa k cap) (.slice pb k capb)) :: (gg, 26, gcs P Q G H) :: R)) (rfl) fun w HM => ?_
        refine lx_value (v := .int .i64 0) F (wanted_none rfl _) rfl (by rfl) (o_assign (F.ev rfl)) fun a F => ?_
        refine lx_nil ?_
        repeat (first | refine ex_then ?_ | refine ex_block ?_ | refine wp_seq ?_ | refine wp_block ?_ | refine wp_skip ?_)
        refine wp_region_lit ?_
        refine lx_value (v := grp P Q G H) F (wanted_none rfl _) rfl (by rfl) (o_loadG (F.ev rfl) (HM.get 8 rfl)) fun a F => ?_
        refine lx_value (v := num va) F (wanted_none rfl _) rfl (by rfl) (o_loadN (F.ev rfl) (HM.get 5 rfl)) fun a F => ?_
        refine lx_value (v := .pointer (some ⟨gn, 4, none⟩)) F (wanted_none rfl _) rfl (by rfl) (o_idxA1 (F.ev rfl) rfl) fun a F => ?_
        refine lx_value (v := num Y) F (wanted_none rfl _) rfl (by rfl) (o_loadA1 (F.ev rfl) (HM.get 6 rfl)) fun a F => ?_
        refine lx_call F (wanted_none rfl _) rfl (by rfl) (run_callF Try.func13 (by kernel_rfl) (by rfl) (.cons (F.ev rfl) (.cons (F.ev rfl) (.cons (F.ev rfl) .nil))) _) ((smul_yes P Q G H va Y hQ h1 hVA hYQ) _) fun a w z F => ?_
        replace HM := HM.on z
        clear z
        refine lx_value (v := .tuple #[num ((va * Y % Q)), .int .i64 0]) F (wanted_none rfl _) rfl (by rfl) (o_move (F.ev rfl)) fun a F => ?_
        refine lx_value (v := num ((va * Y % Q))) F (wanted_none rfl _) rfl (by rfl) (o_extract (F.ev rfl) rfl) fun a F => ?_
        refine lx_value (v := .int .i64 0) F (wanted_none rfl _) rfl (by rfl) (o_extract (F.ev rfl) rfl) fun a F => ?_
        refine lx_new F HM (wanted_none rfl _) rfl (by rfl) (o_allocN) fun a w gm F HM => ?_
        refine lx_store F HM (wanted_none rfl _) rfl (k := 0) rfl (o_storeN (F.ev rfl) (F.ev rfl) (HM.get 0 rfl)) (M2 := ((gm, 24, ncs ((va * Y % Q))) :: (gh, 24, ncs ((va * Y % Q))) :: (gf, 24, ncs (((va + Y * pw % Q) % Q))) :: (ge, 24, ncs ((Y * pw % Q))) :: (gd, 24, ncs (((va + Y * pw % Q) % Q))) :: (gp, 24, ncs pw) :: (ga, 24, ncs va) :: (gn, 37, acs X Y) :: (gz, 36, s2cs (.slice pa k cap) (.slice pb k capb)) :: (gg, 26, gcs P Q G H) :: R)) (rfl) fun w HM => ?_
        refine lx_value (v := .int .i64 0) F (wanted_none rfl _) rfl (by rfl) (o_assign (F.ev rfl)) fun a F => ?_
        refine lx_nil ?_
        repeat (first | refine ex_then ?_ | refine ex_block ?_ | refine wp_seq ?_ | refine wp_block ?_ | refine wp_skip ?_)
        refine wp_region_lit ?_
        refine lx_value (v := .int .i64 0) F (wanted_none rfl _) rfl (by rfl) (o_move (F.ev rfl)) fun a F => ?_
        refine lx_value (v := .bool true) F (wanted_none rfl _) rfl (by rfl) (o_bin (u := .int .i64 0) (v := .int .i64 0) (fun ρ hx hy => by simp only [execOp, hx, hy]; simp [go_sem]) (F.ev rfl) rfl) fun a F => ?_
        refine lx_value (v := .bool true) F (wanted_none rfl _) rfl (by rfl) (o_move (F.ev rfl)) fun a F => ?_
        refine lx_value (v := .int .i64 0) F (F.want (t := 222) (c := true) rfl rfl rfl (by rfl) rfl) rfl (by rfl) (o_move (F.ev rfl)) fun a F => ?_
        refine lx_value (v := .bool true) F (F.want (t := 222) (c := true) rfl rfl rfl (by rfl) rfl) rfl (by rfl) (o_bin (u := .int .i64 0) (v := .int .i64 0) (fun ρ hx hy => by simp only [execOp, hx, hy]; simp [go_sem]) (F.ev rfl) rfl) fun a F => ?_
        refine lx_value (v := .bool true) F (wanted_none rfl _) rfl (by rfl) (o_pick (b := true) (r := .bool true) (F.ev rfl) (F.ev rfl) rfl rfl) fun a F => ?_
        refine lx_value (v := .bool true) F (wanted_none rfl _) rfl (by rfl) (o_move (F.ev rfl)) fun a F => ?_
        refine lx_value (v := num (((va + Y * pw % Q) % Q))) F (F.want (t := 226) (c := true) rfl rfl rfl (by rfl) rfl) rfl (by rfl) (o_loadN (F.ev rfl) (HM.get 4 rfl)) fun a F => ?_
        refine lx_value (v := num (((va + Y * pw % Q) % Q))) F (F.want (t := 226) (c := true) rfl rfl rfl (by rfl) rfl) rfl (by rfl) (o_loadN (F.ev rfl) (HM.get 2 rfl)) fun a F => ?_
        refine lx_value (v := .bool true) F (F.want (t := 226) (c := true) rfl rfl rfl (by rfl) rfl) rfl (by rfl) (o_eqlS (F.ev rfl) (F.ev rfl)) fun a F => ?_
        refine lx_value (v := .bool true) F (wanted_none rfl _) rfl (by rfl) (o_pick (b := true) (r := .bool true) (F.ev rfl) (F.ev rfl) rfl rfl) fun a F => ?_
        refine lx_value (v := .bool true) F (wanted_none rfl _) rfl (by rfl) (o_move (F.ev rfl)) fun a F => ?_
        refine lx_value (v := .int .i64 0) F (F.want (t := 231) (c := true) rfl rfl rfl (by rfl) rfl) rfl (by rfl) (o_move (F.ev rfl)) fun a F => ?_
        refine lx_value (v := .bool true) F (F.want (t := 231) (c := true) rfl rfl rfl (by rfl) rfl) rfl (by rfl) (o_bin (u := .int .i64 0) (v := .int .i64 0) (fun ρ hx hy => by simp only [execOp, hx, hy]; simp [go_sem]) (F.ev rfl) rfl) fun a F => ?_
        refine lx_value (v := .bool true) F (wanted_none rfl _) rfl (by rfl) (o_pick (b := true) (r := .bool true) (F.ev rfl) (F.ev rfl) rfl rfl) fun a F => ?_
        refine lx_value (v := .bool true) F (wanted_none rfl _) rfl (by rfl) (o_move (F.ev rfl)) fun a F => ?_
        refine lx_value (v := .int .i64 0) F (F.want (t := 235) (c := true) rfl rfl rfl (by rfl) rfl) rfl (by rfl) (o_move (F.ev rfl)) fun a F => ?_
        refine lx_value (v := .bool true) F (F.want (t := 235) (c := true) rfl rfl rfl (by rfl) rfl) rfl (by rfl) (o_bin (u := .int .i64 0) (v := .int .i64 0) (fun ρ hx hy => by simp only [execOp, hx, hy]; simp [go_sem]) (F.ev rfl) rfl) fun a F => ?_
        refine lx_value (v := .bool true) F (wanted_none rfl _) rfl (by rfl) (o_pick (b := true) (r := .bool true) (F.ev rfl) (F.ev rfl) rfl rfl) fun a F => ?_
        refine lx_value (v := .bool true) F (wanted_none rfl _) rfl (by rfl) (o_move (F.ev rfl)) fun a F => ?_
        refine lx_value (v := num ((va * Y % Q))) F (F.want (t := 239) (c := true) rfl rfl rfl (by rfl) rfl) rfl (by rfl) (o_loadN (F.ev rfl) (HM.get 1 rfl)) fun a F => ?_
        refine lx_value (v := num ((va * Y % Q))) F (F.want (t := 239) (c := true) rfl rfl rfl (by rfl) rfl) rfl (by rfl) (o_loadN (F.ev rfl) (HM.get 0 rfl)) fun a F => ?_
        refine lx_value (v := .bool true) F (F.want (t := 239) (c := true) rfl rfl rfl (by rfl) rfl) rfl (by rfl) (o_eqlS (F.ev rfl) (F.ev rfl)) fun a F => ?_
        refine lx_value (v := .bool true) F (wanted_none rfl _) rfl (by rfl) (o_pick (b := true) (r := .bool true) (F.ev rfl) (F.ev rfl) rfl rfl) fun a F => ?_
        refine lx_value (v := .bool true) F (wanted_none rfl _) rfl (by rfl) (o_assign (F.ev rfl)) fun a F => ?_
        refine lx_nil ?_
        repeat (first | refine ex_then ?_ | refine ex_block ?_ | refine wp_seq ?_ | refine wp_block ?_ | refine wp_skip ?_)
        refine wp_ret ?_
        repeat (first | refine ex_thenR ?_ | refine ex_blockR ?_)
        exact sx_ret F HM (res_tmp F rfl (s := 6) rfl)
      · repeat (first | refine ex_then ?_ | refine ex_block ?_ | refine wp_seq ?_ | refine wp_block ?_ | refine wp_skip ?_)
        refine wp_region_lit ?_
        refine lx_value (v := grp P Q G H) F (wanted_none rfl _) rfl (by rfl) (o_loadG (F.ev rfl) (HM.get 5 rfl)) fun a F => ?_
        refine lx_value (v := .pointer (some ⟨gn, 4, none⟩)) F (wanted_none rfl _) rfl (by rfl) (o_idxA1 (F.ev rfl) rfl) fun a F => ?_
        refine lx_value (v := num Y) F (wanted_none rfl _) rfl (by rfl) (o_loadA1 (F.ev rfl) (HM.get 3 rfl)) fun a F => ?_
        refine lx_value (v := num pw) F (wanted_none rfl _) rfl (by rfl) (o_loadN (F.ev rfl) (HM.get 1 rfl)) fun a F => ?_
        refine lx_call F (wanted_none rfl _) rfl (by rfl) (run_callF Try.func13 (by kernel_rfl) (by rfl) (.cons (F.ev rfl) (.cons (F.ev rfl) (.cons (F.ev rfl) .nil))) _) ((smul_no P Q G H Y pw hQ hY (Nat.lt_trans hpQ hQ) (fun h => hYQ h.2.1)) _) fun a w z F => ?_
        replace HM := HM.on z
        clear z
        refine lx_value (v := .tuple #[num 0, .int .i64 1]) F (wanted_none rfl _) rfl (by rfl) (o_move (F.ev rfl)) fun a F => ?_
        refine lx_value (v := num 0) F (wanted_none rfl _) rfl (by rfl) (o_extract (F.ev rfl) rfl) fun a F => ?_
        refine lx_value (v := .int .i64 1) F (wanted_none rfl _) rfl (by rfl) (o_extract (F.ev rfl) rfl) fun a F => ?_
        refine lx_new F HM (wanted_none rfl _) rfl (by rfl) (o_allocN) fun a w ge F HM => ?_
        refine lx_store F HM (wanted_none rfl _) rfl (k := 0) rfl (o_storeN (F.ev rfl) (F.ev rfl) (HM.get 0 rfl)) (M2 := ((ge, 24, ncs 0) :: (gd, 24, ncs VV) :: (gp, 24, ncs pw) :: (ga, 24, ncs va) :: (gn, 37, acs X Y) :: (gz, 36, s2cs (.slice pa k cap) (.slice pb k capb)) :: (gg, 26, gcs P Q G H) :: R)) (rfl) fun w HM => ?_
        refine lx_value (v := .int .i64 1) F (wanted_none rfl _) rfl (by rfl) (o_assign (F.ev rfl)) fun a F => ?_
        refine lx_nil ?_
        repeat (first | refine ex_then ?_ | refine ex_block ?_ | refine wp_seq ?_ | refine wp_block ?_ | refine wp_skip ?_)
        refine wp_region_lit ?_
        refine lx_value (v := .int .i64 1) F (wanted_none rfl _) rfl (by rfl) (o_move (F.ev rfl)) fun a F => ?_
        refine lx_value (v := .bool true) F (wanted_none rfl _) rfl (by rfl) (o_bin (u := .int .i64 1) (v := .int .i64 0) (fun ρ hx hy => by simp only [execOp, hx, hy]; simp [go_sem]) (F.ev rfl) rfl) fun a F => ?_
        refine lx_nil ?_
        repeat (first | refine ex_then ?_ | refine ex_block ?_ | refine wp_seq ?_ | refine wp_block ?_ | refine wp_skip ?_)
        refine wp_cond_true (F.ev rfl) ?_
        repeat (first | refine ex_then ?_ | refine ex_block ?_ | refine wp_seq ?_ | refine wp_block ?_ | refine wp_skip ?_)
        refine wp_region_lit ?_
        refine lx_value (v := .int .i64 1) F (wanted_none rfl _) rfl (by rfl) (o_move (F.ev rfl)) fun a F => ?_
        refine lx_value (v := .bool true) F (wanted_none rfl _) rfl (by rfl) (o_bin (u := .int .i64 1) (v := .int .i64 1) (fun ρ hx hy => by simp only [execOp, hx, hy]; simp [go_sem]) (F.ev rfl) rfl) fun a F => ?_
        refine lx_value (v := .bool true) F (wanted_none rfl _) rfl (by rfl) (o_assign (F.ev rfl)) fun a F => ?_
        refine lx_nil ?_
        repeat (first | refine ex_then ?_ | refine ex_block ?_ | refine wp_seq ?_ | refine wp_block ?_ | refine wp_skip ?_)
        refine wp_ret ?_
        repeat (first | refine ex_thenR ?_ | refine ex_blockR ?_)
        exact sx_ret F HM (res_tmp F rfl (s := 6) rfl)
    · refine sx_enterR (S := fun w' => Mem w0.heap.size w0 w' [(gp, 24, ncs pw), (ga, 24, ncs va), (gn, 37, acs X Y), (gz, 36, s2cs (.slice pa k cap) (.slice pb k capb)), (gg, 26, gcs P Q G H)]) HM (fun _ h => h.subl (by repeat (first | exact List.nil_sublist _ | refine List.Sublist.cons_cons _ ?_ | refine List.Sublist.cons _ ?_))) (by kernel_rfl) fun w HM HBW => ?_
      clear HBW
      refine sx_batch [⟨0, 172, [], .val (grp P Q G H), true⟩,
      ⟨1, 173, [0], .val (.pointer (some ⟨gz, 0, none⟩)), true⟩,
      ⟨2, 174, [1], .val (.slice pa k cap), true⟩,
      ⟨4, 176, [2], .val (.pointer (some ⟨gn, 4, none⟩)), true⟩,
      ⟨5, 177, [3], .val (num Y), true⟩,
      ⟨8, 180, [4], .val (.pointer (some ⟨gn, 0, none⟩)), true⟩,
      ⟨9, 181, [5], .val (num X), true⟩] 10 _ F HM (fun _ h => h.subl (by repeat (first | exact List.nil_sublist _ | refine List.Sublist.cons_cons _ ?_ | refine List.Sublist.cons _ ?_))) (by kernel_rfl) (by rfl) ?_ ?_ ?_ ?_ ?_ ?_ ?_
      · kernel_rfl
      · exact of_decide_eq_true (by kernel_rfl)
      · exact all_cons ⟨_, by rfl, by rfl⟩ (all_cons ⟨_, by rfl, by rfl⟩ (all_cons ⟨_, by rfl, by rfl⟩ (all_cons ⟨_, by rfl, by rfl⟩ (all_cons ⟨_, by rfl, by rfl⟩ (all_cons ⟨_, by rfl, by rfl⟩ (all_cons ⟨_, by rfl, by rfl⟩ (all_nil)))))))
      · kernel_rfl
      · refine all_cons ?_ (all_cons ?_ (all_cons ?_ (all_cons ?_ (all_cons ?_ (all_cons ?_ (all_cons ?_ (all_nil)))))))
        · exact coreS _ _ _ _ _ _ _ (by rfl) (by rfl) (wants_none) (fun ρ w kn hs => o_loadG (kn _ _ (F.old (by rfl) rfl)) (hs.get 4 rfl))
        · exact coreS _ _ _ _ _ _ _ (by rfl) (by rfl) (wants_none) (fun ρ w kn hs => o_idxS0 (kn _ _ (F.old (by rfl) rfl)) (kn _ _ (known_const _)))
        · exact coreS _ _ _ _ _ _ _ (by rfl) (by rfl) (wants_none) (fun ρ w kn hs => o_loadS0 (kn _ _ (known_core 1 173 _ _ (of_decide_eq_true (by rfl)) (by rfl) (by rfl) (by rfl))) (hs.get 3 rfl))
        · exact coreS _ _ _ _ _ _ _ (by rfl) (by rfl) (wants_none) (fun ρ w kn hs => o_idxA1 (kn _ _ (F.old (by rfl) rfl)) (kn _ _ (known_const _)))
        · exact coreS _ _ _ _ _ _ _ (by rfl) (by rfl) (wants_none) (fun ρ w kn hs => o_loadA1 (kn _ _ (known_core 3 176 _ _ (of_decide_eq_true (by rfl)) (by rfl) (by rfl) (by rfl))) (hs.get 2 rfl))
        · exact coreS _ _ _ _ _ _ _ (by rfl) (by rfl) (wants_none) (fun ρ w kn hs => o_idxA0 (kn _ _ (F.old (by rfl) rfl)) (kn _ _ (known_const _)))
        · exact coreS _ _ _ _ _ _ _ (by rfl) (by rfl) (wants_none) (fun ρ w kn hs => o_loadA0 (kn _ _ (known_core 5 180 _ _ (of_decide_eq_true (by rfl)) (by rfl) (by rfl) (by rfl))) (hs.get 2 rfl))
      · refine all_cons ?_ (all_cons ?_ (all_cons ?_ (all_cons ?_ (all_cons ?_ (all_cons ?_ (all_cons ?_ (all_nil)))))))
        · exact core_stepAs _ (by rfl)
        · exact core_stepAs _ (by rfl)
        · exact core_stepAs _ (by rfl)
        · exact core_stepAs _ (by rfl)
        · exact core_stepAs _ (by rfl)
        · exact core_stepAs _ (by rfl)
        · exact core_stepAs _ (by rfl)
      intro gs rs a w hgs hrs F HM HBW HR HO HT
      obtain rfl := nl0 rs hrs
      obtain rfl := nl0 gs hgs
      clear hrs hgs HR HBW HO
      clear HT
      replace HM : Mem w0.heap.size w0 w ((gp, 24, ncs pw) :: (ga, 24, ncs va) :: (gn, 37, acs X Y) :: (gz, 36, s2cs (.slice pa k cap) (.slice pb k capb)) :: (gg, 26, gcs P Q G H) :: R) := HM
      refine fork_have (D := fun l a w => l = #[true, true, true, true, true, true, true, false, true, true, false, false, false, false, true, false, false] ∧ ∃ (v : Value) (gr gd : Nat) (R : List (Nat × TypeId × Array Value)), LR R v ps ∧ LR R (.slice au k cu) (ps.map fun u => u * Y % Q) ∧ Dj v (.slice au k cu) ∧ Fr a 244 [(175, v), (178, .slice (some ⟨gr, 0, none⟩) 1 1), (23, .pointer (some ⟨gd, 0, none⟩)), (172, grp P Q G H), (181, num X), (3, .pointer (some ⟨gg, 0, none⟩)), (5, .pointer (some ⟨gn, 0, none⟩)), (7, .pointer (some ⟨ga, 0, none⟩)), (12, .slice au k cu), (13, .pointer (some ⟨gp, 0, none⟩))] [] ∧ Mem w0.heap.size w0 w ((gr, 24, rows1 Y) :: (gd, 24, ncs 0) :: (gp, 24, ncs pw) :: (ga, 24, ncs va) :: (gn, 37, acs X Y) :: (gz, 36, s2cs (.slice pa k cap) (.slice pb k capb)) :: (gg, 26, gcs P Q G H) :: R)) 7 ?_ fun D7 => ?_
      · rintro l a w ⟨rfl, v, gr, gd, R, lv, lu, dd, F, HM⟩
        obtain ⟨v2, w2, hrun, R, HM2, l2, lk2⟩ := appR (ρ := a.eval) (s := .tmp 175) (x := .tmp 178) (A := [(gr, 24, (rows1 Y)), (gd, 24, ncs 0), (gp, 24, ncs pw), (ga, 24, ncs va), (gn, 37, acs X Y), (gz, 36, s2cs (.slice pa k cap) (.slice pb k capb)), (gg, 26, gcs P Q G H)]) HM lv (F.ev rfl) (F.ev rfl) rfl ((Pf.one Y).lie (HM.get 0 rfl)) (by simp) (by rw [rp.1]; omega)
        have lu := (lk2 _ _ lu dd).1
        refine sx_ready1 (i := 7) (by kernel_rfl) (by rfl) (stp_val F rfl rfl (by rfl) hrun (HM2.subl (by repeat (first | exact List.nil_sublist _ | refine List.Sublist.cons_cons _ ?_ | refine List.Sublist.cons _ ?_))) fun a F => ?_)
        replace HM := HM2
        obtain ⟨a2, c2, rfl⟩ := l2.form
        rw [hlk] at F l2
        replace HM := HM.erase 0 (M2 := ((gd, 24, ncs 0) :: (gp, 24, ncs pw) :: (ga, 24, ncs va) :: (gn, 37, acs X Y) :: (gz, 36, s2cs (.slice pa k cap) (.slice pb k capb)) :: (gg, 26, gcs P Q G H) :: R)) rfl
        have hrn := l2.rn HM (fun x hx => by simp [hx]) hpb
        refine sx_batch [⟨10, 182, [], .val (.tuple #[num VV, .int .i64 ee]), false⟩,
      ⟨11, 171, [0], .val (.tuple #[num VV, .int .i64 ee]), true⟩,
      ⟨12, 183, [1], .val (num VV), true⟩,
      ⟨13, 184, [1, 2], .val (.int .i64 ee), true⟩] 2 _ F HM (fun _ h => h.subl (by repeat (first | exact List.nil_sublist _ | refine List.Sublist.cons_cons _ ?_ | refine List.Sublist.cons _ ?_))) (by kernel_rfl) (by rfl) ?_ ?_ ?_ ?_ ?_ ?_ ?_
        · kernel_rfl
        · exact of_decide_eq_true (by kernel_rfl)
        · exact all_cons ⟨_, by rfl, by rfl⟩ (all_cons ⟨_, by rfl, by rfl⟩ (all_cons ⟨_, by rfl, by rfl⟩ (all_cons ⟨_, by rfl, by rfl⟩ (all_nil))))
        · kernel_rfl
        · refine all_cons ?_ (all_cons ?_ (all_cons ?_ (all_cons ?_ (all_nil))))
          · exact core_pureAs _ (by rfl)
          · exact coreS _ _ _ _ _ _ _ (by rfl) (by rfl) (wants_none) (fun ρ w kn hs => o_move (kn _ _ (known_core 0 182 _ _ (of_decide_eq_true (by rfl)) (by rfl) (by rfl) (by rfl))))
          · exact coreS _ _ _ _ _ _ _ (by rfl) (by rfl) (wants_none) (fun ρ w kn hs => o_extract (kn _ _ (known_core 1 171 _ _ (of_decide_eq_true (by rfl)) (by rfl) (by rfl) (by rfl))) rfl)
          · exact coreS _ _ _ _ _ _ _ (by rfl) (by rfl) (wants_none) (fun ρ w kn hs => o_extract (kn _ _ (known_core 1 171 _ _ (of_decide_eq_true (by rfl)) (by rfl) (by rfl) (by rfl))) rfl)
        · refine all_cons ?_ (all_cons ?_ (all_cons ?_ (all_cons ?_ (all_nil))))
          · exact fun _ => coreG_callB _ 9 _ _ [.tmp 172, .tmp 179, .tmp 181] _ _ _ _ _ _ _ (by rfl) Try.func9 (by kernel_rfl) (by rfl) (by rfl) (wants_none) (.cons (F.old (by rfl) rfl) (.cons (F.old (by rfl) rfl) (.cons (F.old (by rfl) rfl) .nil))) (fun u hb => (fun u (z : Below w2.heap.size w2 u) => hA3 u a2 c2 (hrn.call z z.size)) u hb)
          · exact core_stepAs _ (by rfl)
          · exact core_stepAs _ (by rfl)
          · exact core_stepAs _ (by rfl)
        intro gs rs a w hgs hrs F HM HBW HR HO HT
        obtain rfl := nl0 rs hrs
        obtain rfl := nl0 gs hgs
        clear hrs hgs HR HBW HO
        clear HT
        refine sx_store (i := 15) HM (by kernel_rfl) (by rfl) rfl rfl (k := 0) rfl (o_storeN (F.ev rfl) (F.ev rfl) (HM.get 0 rfl)) (M2 := ((gd, 24, ncs VV) :: (gp, 24, ncs pw) :: (ga, 24, ncs va) :: (gn, 37, acs X Y) :: (gz, 36, s2cs (.slice pa k cap) (.slice pb k capb)) :: (gg, 26, gcs P Q G H) :: R)) (rfl) (fun _ h => h.subl (by repeat (first | exact List.nil_sublist _ | refine List.Sublist.cons_cons _ ?_ | refine List.Sublist.cons _ ?_))) fun w HM => ?_
        refine sx_assign (i := 16) (d := 24) (x := .tmp 184) (v := .int .i64 ee) F (HM.subl (by repeat (first | exact List.nil_sublist _ | refine List.Sublist.cons_cons _ ?_ | refine List.Sublist.cons _ ?_))) (by kernel_rfl) (by rfl) (by rfl) (F.ev rfl) fun a F => ?_
        refine sx_done (by kernel_rfl) ?_ _
        exact ⟨rfl, gd, _, lu, F.sub [23, 24, 172, 181, 3, 5, 7, 12, 13], HM⟩
      ·   refine fork_have (D := fun l a w => l = #[true, true, true, true, true, true, true, false, true, true, false, false, false, false, false, false, false] ∧ ∃ (v : Value) (gr : Nat) (R : List (Nat × TypeId × Array Value)), LR R v ps ∧ LR R (.slice au k cu) (ps.map fun u => u * Y % Q) ∧ Dj v (.slice au k cu) ∧ Fr a 244 [(175, v), (178, .slice (some ⟨gr, 0, none⟩) 1 1), (172, grp P Q G H), (181, num X), (3, .pointer (some ⟨gg, 0, none⟩)), (5, .pointer (some ⟨gn, 0, none⟩)), (7, .pointer (some ⟨ga, 0, none⟩)), (12, .slice au k cu), (13, .pointer (some ⟨gp, 0, none⟩))] [] ∧ Mem w0.heap.size w0 w ((gr, 24, rows1 Y) :: (gp, 24, ncs pw) :: (ga, 24, ncs va) :: (gn, 37, acs X Y) :: (gz, 36, s2cs (.slice pa k cap) (.slice pb k capb)) :: (gg, 26, gcs P Q G H) :: R)) 8 ?_ fun P7 => ?_
          · rintro l a w ⟨rfl, v, gr, R, lv, lu, dd, F, HM⟩
            refine sx_ready2 (i := 7) (j := 14) (by kernel_rfl) (by rfl) (by rfl) ?_ ?_
            · obtain ⟨v2, w2, hrun, R, HM2, l2, lk2⟩ := appR (ρ := a.eval) (s := .tmp 175) (x := .tmp 178) (A := [(gr, 24, (rows1 Y)), (gp, 24, ncs pw), (ga, 24, ncs va), (gn, 37, acs X Y), (gz, 36, s2cs (.slice pa k cap) (.slice pb k capb)), (gg, 26, gcs P Q G H)]) HM lv (F.ev rfl) (F.ev rfl) rfl ((Pf.one Y).lie (HM.get 0 rfl)) (by simp) (by rw [rp.1]; omega)
              have lu := (lk2 _ _ lu dd).1
              refine stp_val F rfl rfl (by rfl) hrun (HM2.subl (by repeat (first | exact List.nil_sublist _ | refine List.Sublist.cons_cons _ ?_ | refine List.Sublist.cons _ ?_))) fun a F => ?_
              replace HM := HM2
              obtain ⟨a2, c2, rfl⟩ := l2.form
              rw [hlk] at F l2
              replace HM := HM.erase 0 (M2 := ((gp, 24, ncs pw) :: (ga, 24, ncs va) :: (gn, 37, acs X Y) :: (gz, 36, s2cs (.slice pa k cap) (.slice pb k capb)) :: (gg, 26, gcs P Q G H) :: R)) rfl
              have hrn := l2.rn HM (fun x hx => by simp [hx]) hpb
              refine sx_batch [⟨10, 182, [], .val (.tuple #[num VV, .int .i64 ee]), false⟩,
      ⟨11, 171, [0], .val (.tuple #[num VV, .int .i64 ee]), true⟩,
      ⟨12, 183, [1], .val (num VV), true⟩,
      ⟨13, 184, [1, 2], .val (.int .i64 ee), true⟩,
      ⟨14, 23, [], .cell 24 (ncs 0), false⟩] 2 _ F HM (fun _ h => h.subl (by repeat (first | exact List.nil_sublist _ | refine List.Sublist.cons_cons _ ?_ | refine List.Sublist.cons _ ?_))) (by kernel_rfl) (by rfl) ?_ ?_ ?_ ?_ ?_ ?_ ?_
              · kernel_rfl
              · exact of_decide_eq_true (by kernel_rfl)
              · exact all_cons ⟨_, by rfl, by rfl⟩ (all_cons ⟨_, by rfl, by rfl⟩ (all_cons ⟨_, by rfl, by rfl⟩ (all_cons ⟨_, by rfl, by rfl⟩ (all_cons ⟨_, by rfl, by rfl⟩ (all_nil)))))
              · kernel_rfl
              · refine all_cons ?_ (all_cons ?_ (all_cons ?_ (all_cons ?_ (all_cons ?_ (all_nil)))))
                · exact core_pureAs _ (by rfl)
                · exact coreS _ _ _ _ _ _ _ (by rfl) (by rfl) (wants_none) (fun ρ w kn hs => o_move (kn _ _ (known_core 0 182 _ _ (of_decide_eq_true (by rfl)) (by rfl) (by rfl) (by rfl))))
                · exact coreS _ _ _ _ _ _ _ (by rfl) (by rfl) (wants_none) (fun ρ w kn hs => o_extract (kn _ _ (known_core 1 171 _ _ (of_decide_eq_true (by rfl)) (by rfl) (by rfl) (by rfl))) rfl)
                · exact coreS _ _ _ _ _ _ _ (by rfl) (by rfl) (wants_none) (fun ρ w kn hs => o_extract (kn _ _ (known_core 1 171 _ _ (of_decide_eq_true (by rfl)) (by rfl) (by rfl) (by rfl))) rfl)
                · exact core_pureAs _ (by rfl)
              · refine all_cons ?_ (all_cons ?_ (all_cons ?_ (all_cons ?_ (all_cons ?_ (all_nil)))))
                · exact fun _ => coreG_callB _ 9 _ _ [.tmp 172, .tmp 179, .tmp 181] _ _ _ _ _ _ _ (by rfl) Try.func9 (by kernel_rfl) (by rfl) (by rfl) (wants_none) (.cons (F.old (by rfl) rfl) (.cons (F.old (by rfl) rfl) (.cons (F.old (by rfl) rfl) .nil))) (fun u hb => (fun u (z : Below w2.heap.size w2 u) => hA3 u a2 c2 (hrn.call z z.size)) u hb)
                · exact core_stepAs _ (by rfl)
                · exact core_stepAs _ (by rfl)
                · exact core_stepAs _ (by rfl)
                · exact fun _ => core_new _ _ _ _ _ _ _ _ (by rfl) (by rfl) (Nat.le_refl _) (fun ρ w => o_allocN)
              intro gs rs a w hgs hrs F HM HBW HR HO HT
              obtain rfl := nl0 rs hrs
              obtain ⟨gd, rfl⟩ := nl1 gs hgs
              clear hrs hgs HR HBW HO
              clear HT
              refine sx_store (i := 15) HM (by kernel_rfl) (by rfl) rfl rfl (k := 0) rfl (o_storeN (F.ev rfl) (F.ev rfl) (HM.get 0 rfl)) (M2 := ((gd, 24, ncs VV) :: (gp, 24, ncs pw) :: (ga, 24, ncs va) :: (gn, 37, acs X Y) :: (gz, 36, s2cs (.slice pa k cap) (.slice pb k capb)) :: (gg, 26, gcs P Q G H) :: R)) (rfl) (fun _ h => h.subl (by repeat (first | exact List.nil_sublist _ | refine List.Sublist.cons_cons _ ?_ | refine List.Sublist.cons _ ?_))) fun w HM => ?_
              refine sx_assign (i := 16) (d := 24) (x := .tmp 184) (v := .int .i64 ee) F (HM.subl (by repeat (first | exact List.nil_sublist _ | refine List.Sublist.cons_cons _ ?_ | refine List.Sublist.cons _ ?_))) (by kernel_rfl) (by rfl) (by rfl) (F.ev rfl) fun a F => ?_
              refine sx_done (by kernel_rfl) ?_ _
              exact ⟨rfl, gd, _, lu, F.sub [23, 24, 172, 181, 3, 5, 7, 12, 13], HM⟩
            · refine stp_val F rfl rfl (by rfl) o_allocN ((HM.new _ _).subl (by repeat (first | exact List.nil_sublist _ | refine List.Sublist.cons_cons _ ?_ | refine List.Sublist.cons _ ?_))) fun a F => ?_
              replace HM := HM.new (ncs 0) 24
              exact D7 _ _ _ ⟨by kernel_rfl, v, gr, _, R, lv, lu, dd, F.sub [175, 178, 23, 172, 181, 3, 5, 7, 12, 13], HM.front 1 rfl rfl⟩
          · refine sx_ready3 (i := 3) (j := 6) (k := 14) (by kernel_rfl) (by rfl) (by rfl) (by rfl) ?_ ?_ ?_
            · obtain ⟨v, w2, hrun, R, HM2, lv, lk2⟩ := copyR2 (ρ := a.eval) (x := .tmp 174) (A := [(gp, 24, ncs pw), (ga, 24, ncs va), (gn, 37, acs X Y), (gz, 36, s2cs (.slice pa k cap) (.slice pb k capb)), (gg, 26, gcs P Q G H)]) HM (rp.call HM.bel HM.bel.size) rfl (F.ev rfl) (by omega)
              obtain ⟨lu, dd⟩ := lk2 _ _ lu
              refine stp_val F rfl rfl (by rfl) hrun (HM2.subl (by repeat (first | exact List.nil_sublist _ | refine List.Sublist.cons_cons _ ?_ | refine List.Sublist.cons _ ?_))) fun a F => ?_
              replace HM := HM2
              refine sx_ready2 (i := 6) (j := 14) (by kernel_rfl) (by rfl) (by rfl) ?_ ?_
              · refine stp_val F rfl rfl (by rfl) (o_slice1 (F.ev rfl)) ((HM.new _ _).subl (by repeat (first | exact List.nil_sublist _ | refine List.Sublist.cons_cons _ ?_ | refine List.Sublist.cons _ ?_))) fun a F => ?_
                replace HM := HM.new (rows1 Y) 24
                exact P7 _ _ _ ⟨by kernel_rfl, v, _, _, lv, lu, dd, F.sub [175, 178, 172, 181, 3, 5, 7, 12, 13], HM⟩
              · refine stp_val F rfl rfl (by rfl) o_allocN ((HM.new _ _).subl (by repeat (first | exact List.nil_sublist _ | refine List.Sublist.cons_cons _ ?_ | refine List.Sublist.cons _ ?_))) fun a F => ?_
                replace HM := HM.new (ncs 0) 24
                refine sx_ready1 (i := 6) (by kernel_rfl) (by rfl) ?_
                refine stp_val F rfl rfl (by rfl) (o_slice1 (F.ev rfl)) ((HM.new _ _).subl (by repeat (first | exact List.nil_sublist _ | refine List.Sublist.cons_cons _ ?_ | refine List.Sublist.cons _ ?_))) fun a F => ?_
                replace HM := HM.new (rows1 Y) 24
                exact D7 _ _ _ ⟨by kernel_rfl, v, _, _, _, lv, lu, dd, F.sub [175, 178, 23, 172, 181, 3, 5, 7, 12, 13], HM⟩
            · refine stp_val F rfl rfl (by rfl) (o_slice1 (F.ev rfl)) ((HM.new _ _).subl (by repeat (first | exact List.nil_sublist _ | refine List.Sublist.cons_cons _ ?_ | refine List.Sublist.cons _ ?_))) fun a F => ?_
              replace HM := HM.new (rows1 Y) 24
              refine sx_ready2 (i := 3) (j := 14) (by kernel_rfl) (by rfl) (by rfl) ?_ ?_
              · obtain ⟨v, w2, hrun, R, HM2, lv, lk2⟩ := copyR2 (ρ := a.eval) (x := .tmp 174) (A := [(_, 24, rows1 Y), (gp, 24, ncs pw), (ga, 24, ncs va), (gn, 37, acs X Y), (gz, 36, s2cs (.slice pa k cap) (.slice pb k capb)), (gg, 26, gcs P Q G H)]) HM (rp.call HM.bel HM.bel.size) rfl (F.ev rfl) (by omega)
                obtain ⟨lu, dd⟩ := lk2 _ _ lu
                refine stp_val F rfl rfl (by rfl) hrun (HM2.subl (by repeat (first | exact List.nil_sublist _ | refine List.Sublist.cons_cons _ ?_ | refine List.Sublist.cons _ ?_))) fun a F => ?_
                replace HM := HM2
                exact P7 _ _ _ ⟨by kernel_rfl, v, _, _, lv, lu, dd, F.sub [175, 178, 172, 181, 3, 5, 7, 12, 13], HM⟩
              · refine stp_val F rfl rfl (by rfl) o_allocN ((HM.new _ _).subl (by repeat (first | exact List.nil_sublist _ | refine List.Sublist.cons_cons _ ?_ | refine List.Sublist.cons _ ?_))) fun a F => ?_
                replace HM := HM.new (ncs 0) 24
                refine sx_ready1 (i := 3) (by kernel_rfl) (by rfl) ?_
                obtain ⟨v, w2, hrun, R, HM2, lv, lk2⟩ := copyR2 (ρ := a.eval) (x := .tmp 174) (A := [(_, 24, ncs 0), (_, 24, rows1 Y), (gp, 24, ncs pw), (ga, 24, ncs va), (gn, 37, acs X Y), (gz, 36, s2cs (.slice pa k cap) (.slice pb k capb)), (gg, 26, gcs P Q G H)]) HM (rp.call HM.bel HM.bel.size) rfl (F.ev rfl) (by omega)
                obtain ⟨lu, dd⟩ := lk2 _ _ lu
                refine stp_val F rfl rfl (by rfl) hrun (HM2.subl (by repeat (first | exact List.nil_sublist _ | refine List.Sublist.cons_cons _ ?_ | refine List.Sublist.cons _ ?_))) fun a F => ?_
                replace HM := HM2
                exact D7 _ _ _ ⟨by kernel_rfl, v, _, _, _, lv, lu, dd, F.sub [175, 178, 23, 172, 181, 3, 5, 7, 12, 13], HM.front 1 rfl rfl⟩
            · refine stp_val F rfl rfl (by rfl) o_allocN ((HM.new _ _).subl (by repeat (first | exact List.nil_sublist _ | refine List.Sublist.cons_cons _ ?_ | refine List.Sublist.cons _ ?_))) fun a F => ?_
              replace HM := HM.new (ncs 0) 24
              refine sx_ready2 (i := 3) (j := 6) (by kernel_rfl) (by rfl) (by rfl) ?_ ?_
              · obtain ⟨v, w2, hrun, R, HM2, lv, lk2⟩ := copyR2 (ρ := a.eval) (x := .tmp 174) (A := [(_, 24, ncs 0), (gp, 24, ncs pw), (ga, 24, ncs va), (gn, 37, acs X Y), (gz, 36, s2cs (.slice pa k cap) (.slice pb k capb)), (gg, 26, gcs P Q G H)]) HM (rp.call HM.bel HM.bel.size) rfl (F.ev rfl) (by omega)
                obtain ⟨lu, dd⟩ := lk2 _ _ lu
                refine stp_val F rfl rfl (by rfl) hrun (HM2.subl (by repeat (first | exact List.nil_sublist _ | refine List.Sublist.cons_cons _ ?_ | refine List.Sublist.cons _ ?_))) fun a F => ?_
                replace HM := HM2
                refine sx_ready1 (i := 6) (by kernel_rfl) (by rfl) ?_
                refine stp_val F rfl rfl (by rfl) (o_slice1 (F.ev rfl)) ((HM.new _ _).subl (by repeat (first | exact List.nil_sublist _ | refine List.Sublist.cons_cons _ ?_ | refine List.Sublist.cons _ ?_))) fun a F => ?_
                replace HM := HM.new (rows1 Y) 24
                exact D7 _ _ _ ⟨by kernel_rfl, v, _, _, _, lv, lu, dd, F.sub [175, 178, 23, 172, 181, 3, 5, 7, 12, 13], HM⟩
              · refine stp_val F rfl rfl (by rfl) (o_slice1 (F.ev rfl)) ((HM.new _ _).subl (by repeat (first | exact List.nil_sublist _ | refine List.Sublist.cons_cons _ ?_ | refine List.Sublist.cons _ ?_))) fun a F => ?_
                replace HM := HM.new (rows1 Y) 24
                refine sx_ready1 (i := 3) (by kernel_rfl) (by rfl) ?_
                obtain ⟨v, w2, hrun, R, HM2, lv, lk2⟩ := copyR2 (ρ := a.eval) (x := .tmp 174) (A := [(_, 24, rows1 Y), (_, 24, ncs 0), (gp, 24, ncs pw), (ga, 24, ncs va), (gn, 37, acs X Y), (gz, 36, s2cs (.slice pa k cap) (.slice pb k capb)), (gg, 26, gcs P Q G H)]) HM (rp.call HM.bel HM.bel.size) rfl (F.ev rfl) (by omega)
                obtain ⟨lu, dd⟩ := lk2 _ _ lu
                refine stp_val F rfl rfl (by rfl) hrun (HM2.subl (by repeat (first | exact List.nil_sublist _ | refine List.Sublist.cons_cons _ ?_ | refine List.Sublist.cons _ ?_))) fun a F => ?_
                replace HM := HM2
                exact D7 _ _ _ ⟨by kernel_rfl, v, _, _, _, lv, lu, dd, F.sub [175, 178, 23, 172, 181, 3, 5, 7, 12, 13], HM⟩

theorem psm_walk (P Q G H k cap m capb X Y : Nat) (pa pb : Option Addr) (ps qs : List Nat) (w0 : World) (hQ : Q < 2 ^ 256) (hX : X < 2 ^ 256) (hY : Y < 2 ^ 256) (rp : RN w0.heap.size w0 pa k cap ps) (rq : RN w0.heap.size w0 pb m capb qs) : Calls Try.prog 5 #[grp P Q G H, .agg #[.slice pa k cap, .slice pb m capb], arr2 X Y] w0 fun e w' => e = .returned (.bool true) ∧ Below w0.heap.size w0 w' := by
  by_cases hk : 20 < k
  · exact psm_l P Q G H k cap m capb X Y pa pb ps qs w0 hQ hX hY rp rq hk
  by_cases hm : k = m
  · subst hm
    by_cases hA : atB Q X ps = true
    · by_cases hB : atB Q X qs = true
      · exact psm_ok P Q G H k cap capb X Y pa pb ps qs w0 hQ hX hY rp rq hk hA hB
      · exact psm_e3 P Q G H k cap capb X Y pa pb ps qs w0 hQ hX hY rp rq hk hA (Bool.eq_false_iff.2 hB)
    · by_cases hB : atB Q X qs = true
      · exact psm_e2 P Q G H k cap capb X Y pa pb ps qs w0 hQ hX hY rp rq hk (Bool.eq_false_iff.2 hA) hB
      · exact psm_e1 P Q G H k cap capb X Y pa pb ps qs w0 hQ hX hY rp rq hk (Bool.eq_false_iff.2 hA) (Bool.eq_false_iff.2 hB)
  · exact psm_d P Q G H k cap m capb X Y pa pb ps qs w0 hQ hX hY rp rq hk hm
end Go.Proofs.Ytfjploahkodekaa
