/-
  PolysMoved: walked.
-/
import Derived.Deep.Cut
import Derived.Test.YtfjploahkodekaaMP12
import Derived.Test.YtfjploahkodekaaMShort
namespace Go.Proofs.Ytfjploahkodekaa
set_option maxRecDepth 100000
open Go.RowKit
set_option linter.unusedSimpArgs false
set_option linter.unusedVariables false
attribute [local go_sem ↓] Go.wp_at_zero Go.wp_at_succ

abbrev arr3 (X Y Z : Nat) : Value := .agg #[.int .u64 (wd X 0 : Nat), .int .u64 (wd X 1 : Nat), .int .u64 (wd X 2 : Nat), .int .u64 (wd X 3 : Nat), .int .u64 (wd Y 0 : Nat), .int .u64 (wd Y 1 : Nat), .int .u64 (wd Y 2 : Nat), .int .u64 (wd Y 3 : Nat), .int .u64 (wd Z 0 : Nat), .int .u64 (wd Z 1 : Nat), .int .u64 (wd Z 2 : Nat), .int .u64 (wd Z 3 : Nat)]
abbrev a3cs (X Y Z : Nat) : Array Value := #[.int .u64 (wd X 0 : Nat), .int .u64 (wd X 1 : Nat), .int .u64 (wd X 2 : Nat), .int .u64 (wd X 3 : Nat), .int .u64 (wd Y 0 : Nat), .int .u64 (wd Y 1 : Nat), .int .u64 (wd Y 2 : Nat), .int .u64 (wd Y 3 : Nat), .int .u64 (wd Z 0 : Nat), .int .u64 (wd Z 1 : Nat), .int .u64 (wd Z 2 : Nat), .int .u64 (wd Z 3 : Nat)]
section
variable {x y : Operand} {dst : Option Tmp} {ty : TypeId} {pos : String} {after : Array Edge} {guard : Option (Nat × Bool)} {ρ : Operand → Value} {w : World} {g : Nat}
theorem o_box3 {X Y Z : Nat} (hx : ρ x = arr3 X Y Z) : (execOp ρ ⟨dst, .box 41 x, ty, pos, after, guard⟩).run Try.prog w = .ok (.value (.pointer (some ⟨w.heap.size, 0, none⟩))) (w.alloc (.cells (a3cs X Y Z) 41)) := by simp [execOp, hx, go_sem]
theorem o_idx30 (hx : ρ x = .pointer (some ⟨g, 0, none⟩)) (hy : ρ y = .int .i64 0) : (execOp ρ ⟨dst, .indexAddr 41 x y, ty, pos, after, guard⟩).run Try.prog w = .ok (.value (.pointer (some ⟨g, 0, none⟩))) w := by simp [execOp, hx, hy, go_sem]
theorem o_load30 {X Y Z : Nat} (hx : ρ x = .pointer (some ⟨g, 0, none⟩)) (h : At w g 41 (a3cs X Y Z)) : (execOp ρ ⟨dst, .load 24 x, ty, pos, after, guard⟩).run Try.prog w = .ok (.value (num X)) w := by
  have c0 : w.cell? ⟨g, 0, none⟩ = some (.int .u64 (wd X 0 : Nat)) := h.cell 0
  have c1 : w.cell? ⟨g, 1, none⟩ = some (.int .u64 (wd X 1 : Nat)) := h.cell 1
  have c2 : w.cell? ⟨g, 2, none⟩ = some (.int .u64 (wd X 2 : Nat)) := h.cell 2
  have c3 : w.cell? ⟨g, 3, none⟩ = some (.int .u64 (wd X 3 : Nat)) := h.cell 3
  simp [execOp, hx, go_sem, c0, c1, c2, c3]
theorem o_idx31 (hx : ρ x = .pointer (some ⟨g, 0, none⟩)) (hy : ρ y = .int .i64 1) : (execOp ρ ⟨dst, .indexAddr 41 x y, ty, pos, after, guard⟩).run Try.prog w = .ok (.value (.pointer (some ⟨g, 4, none⟩))) w := by simp [execOp, hx, hy, go_sem]
theorem o_load31 {X Y Z : Nat} (hx : ρ x = .pointer (some ⟨g, 4, none⟩)) (h : At w g 41 (a3cs X Y Z)) : (execOp ρ ⟨dst, .load 24 x, ty, pos, after, guard⟩).run Try.prog w = .ok (.value (num Y)) w := by
  have c0 : w.cell? ⟨g, 4, none⟩ = some (.int .u64 (wd Y 0 : Nat)) := h.cell 4
  have c1 : w.cell? ⟨g, 5, none⟩ = some (.int .u64 (wd Y 1 : Nat)) := h.cell 5
  have c2 : w.cell? ⟨g, 6, none⟩ = some (.int .u64 (wd Y 2 : Nat)) := h.cell 6
  have c3 : w.cell? ⟨g, 7, none⟩ = some (.int .u64 (wd Y 3 : Nat)) := h.cell 7
  simp [execOp, hx, go_sem, c0, c1, c2, c3]
theorem o_idx32 (hx : ρ x = .pointer (some ⟨g, 0, none⟩)) (hy : ρ y = .int .i64 2) : (execOp ρ ⟨dst, .indexAddr 41 x y, ty, pos, after, guard⟩).run Try.prog w = .ok (.value (.pointer (some ⟨g, 8, none⟩))) w := by simp [execOp, hx, hy, go_sem]
theorem o_load32 {X Y Z : Nat} (hx : ρ x = .pointer (some ⟨g, 8, none⟩)) (h : At w g 41 (a3cs X Y Z)) : (execOp ρ ⟨dst, .load 24 x, ty, pos, after, guard⟩).run Try.prog w = .ok (.value (num Z)) w := by
  have c0 : w.cell? ⟨g, 8, none⟩ = some (.int .u64 (wd Z 0 : Nat)) := h.cell 8
  have c1 : w.cell? ⟨g, 9, none⟩ = some (.int .u64 (wd Z 1 : Nat)) := h.cell 9
  have c2 : w.cell? ⟨g, 10, none⟩ = some (.int .u64 (wd Z 2 : Nat)) := h.cell 10
  have c3 : w.cell? ⟨g, 11, none⟩ = some (.int .u64 (wd Z 3 : Nat)) := h.cell 11
  simp [execOp, hx, go_sem, c0, c1, c2, c3]
end
theorem prZ_scale {Q : Nat} {a b c : Int} {F : Nat → Int} : ∀ (l : List Nat), (∀ y ∈ l, Cg Q (a - F y) (c * (b - (y : Int)))) → Cg Q (prZ a (l.map F)) (c ^ l.length * prZ b (zs l))
  | [], _ => Cg.of_eq (by simp [prZ, zs])
  | y :: l, h => by
    have h1 := h y List.mem_cons_self
    have h2 := prZ_scale l fun z hz => h z (List.mem_cons_of_mem _ hz)
    have h3 := h1.mul h2
    simp only [List.map_cons, prZ, zs, List.length_cons, Int.pow_succ] at h3 ⊢
    exact h3.trans (Cg.of_eq (by grind))
theorem map_erase {α β : Type} (f : α → β) : ∀ (l : List α) (i : Nat), (l.map f).eraseIdx i = (l.eraseIdx i).map f
  | [], _ => rfl
  | _ :: _, 0 => rfl
  | x :: l, i + 1 => by simp [map_erase f l i]
theorem oth_map {Q : Nat} {xs : List Nat} {f : Nat → Nat} {a b c : Int} (i : Nat) (h : ∀ y ∈ xs, Cg Q (a - (f y : Int)) (c * (b - (y : Int)))) : Cg Q (oth Q (xs.map f) a i) (c ^ (xs.eraseIdx i).length * oth Q xs b i) := by
  have e1 : (zs (xs.map f)).eraseIdx i = (xs.eraseIdx i).map fun x => (f x : Int) := by
    unfold zs
    rw [List.map_map, map_erase]
    rfl
  have e2 : (zs xs).eraseIdx i = zs (xs.eraseIdx i) := by unfold zs; rw [map_erase]
  unfold oth
  rw [e1, e2]
  exact prZ_scale _ fun y hy => h y ((List.eraseIdx_sublist xs i).subset hy)
theorem U.pow {Q : Nat} {c : Int} (h : U Q c) : ∀ n : Nat, U Q (c ^ n)
  | 0 => by rw [Int.pow_zero]; exact U.one Q
  | n + 1 => by rw [Int.pow_succ]; exact (U.pow h n).mul h
theorem wts_same {Q X X2 : Nat} {xs : List Nat} {f : Nat → Nat} {c : Int} (hc : U Q c) (hf : ∀ x ∈ xs, f x < Q) (hd : ∀ x ∈ xs, ∀ y ∈ xs, Cg Q ((f x : Int) - (f y : Int)) (c * ((x : Int) - (y : Int)))) (hX : ∀ y ∈ xs, Cg Q ((X2 : Int) - (f y : Int)) (c * ((X : Int) - (y : Int)))) (hX2 : X2 < Q)
    (hb : wtsB Q X xs = true) (hu : AllU Q xs) : wtsB Q X2 (xs.map f) = true ∧ AllU Q (xs.map f) ∧ ∀ ws ws2, WS Q xs X ws xs.length → WS Q (xs.map f) X2 ws2 (xs.map f).length → ws2 = ws := by
  obtain ⟨h1, h2, h3, h4, h5⟩ := wtsB_iff.1 hb
  have hU : ∀ (i x : Nat), xs[i]? = some x → U Q (c ^ (xs.eraseIdx i).length * oth Q xs (x : Int) i) := fun i x hx => (U.pow hc _).mul (hu i x hx)
  have hget : ∀ (i z : Nat), (xs.map f)[i]? = some z → ∃ x, xs[i]? = some x ∧ z = f x ∧ x ∈ xs := fun i z hz => by
    rw [List.getElem?_map] at hz
    rcases hx : xs[i]? with _ | x
    · rw [hx] at hz; cases hz
    · rw [hx] at hz; cases hz; exact ⟨x, rfl, rfl, List.mem_of_getElem? hx⟩
  refine ⟨wtsB_iff.2 ⟨h1, hX2, by simpa using h3, ?_, fun z hz => ?_⟩, fun i z hz => ?_, fun ws ws2 w1 w2 => ?_⟩
  · unfold List.Nodup
    rw [List.pairwise_map]
    refine List.Pairwise.imp_of_mem (R := fun a b => a ≠ b) (fun {a b} ha hb hne e => hne ?_) h4
    have hcg := hd a ha b hb
    rw [e] at hcg
    have h6 : Cg Q (((a : Int) - (b : Int)) * c) (0 * c) := (Cg.of_eq (by grind)).trans (hcg.symm.trans (Cg.of_eq (by omega)))
    have h7 := (U.cancel h6 hc).add (Cg.refl Q (b : Int))
    exact Cg.eq (h5 a ha) (h5 b hb) ((Cg.of_eq (by omega)).trans (h7.trans (Cg.of_eq (by omega))))
  · obtain ⟨x, hx, rfl⟩ := List.mem_map.1 hz
    exact hf x hx
  · obtain ⟨x, hx, rfl, hm⟩ := hget i z hz
    exact U.cg (oth_map i fun y hy => hd x hm y hy).symm (hU i x hx)
  · have hl : ws2.length = ws.length := by rw [w2.1, w1.1, List.length_map]
    refine List.ext_getElem? fun i => ?_
    by_cases hi : i < xs.length
    · have hx : xs[i]? = some xs[i] := List.getElem?_eq_getElem hi
      have hm := List.getElem_mem hi
      generalize xs[i] = x at hx hm
      have hz : (xs.map f)[i]? = some (f x) := by rw [List.getElem?_map, hx]; rfl
      obtain ⟨v, hv, cv⟩ := w1.2.2 i x hi hx
      obtain ⟨v2, hv2, cv2⟩ := w2.2.2 i (f x) (by simpa using hi) hz
      have k1 := oth_map (Q := Q) (f := f) (c := c) (a := (f x : Int)) (b := (x : Int)) i fun y hy => hd x hm y hy
      have k2 := oth_map (Q := Q) (f := f) (c := c) (a := (X2 : Int)) (b := (X : Int)) i fun y hy => hX y hy
      have k3 : Cg Q ((v2 : Int) * (c ^ (xs.eraseIdx i).length * oth Q xs (x : Int) i)) ((v : Int) * (c ^ (xs.eraseIdx i).length * oth Q xs (x : Int) i)) := by
        refine (Cg.mulL _ k1.symm).trans (cv2.trans (k2.trans ?_))
        refine (Cg.mulL _ cv.symm).trans (Cg.of_eq (by grind))
      rw [hv, hv2, Cg.eq (w2.2.1 _ (List.mem_of_getElem? hv2)) (w1.2.1 _ (List.mem_of_getElem? hv)) (U.cancel k3 (hU i x hx))]
    · rw [List.getElem?_eq_none (by have := w1.1; omega), List.getElem?_eq_none (by have := w1.1; omega)]
theorem wts_ex {Q X : Nat} {xs : List Nat} {n : Nat} {w w' : World} {e : Ending} (h : ∃ (gw : Nat) (ws : List Nat), e = .returned (.tuple #[.slice (some ⟨gw, 0, none⟩) n n, .int .i64 0]) ∧ Below w.heap.size w w' ∧ w.heap.size ≤ gw ∧ (∃ cs, At w' gw 24 cs ∧ Pf cs ws) ∧ WS Q xs X ws xs.length) :
    ∃ u, e = .returned u ∧ Below w.heap.size w w' ∧ ∃ (gw : Nat) (ws : List Nat) (cw : Array Value), u = .tuple #[.slice (some ⟨gw, 0, none⟩) n n, .int .i64 0] ∧ w.heap.size ≤ gw ∧ At w' gw 24 cw ∧ Pf cw ws ∧ WS Q xs X ws xs.length := by
  obtain ⟨gp, ps, he, hb, hg, ⟨cs, hat, hp⟩, ht⟩ := h
  exact ⟨_, he, hb, gp, ps, cs, rfl, hg, hat, hp, ht⟩
theorem inv_some (P Q G H Z : Nat) (hQ : Q < 2 ^ 256) (hZ : Z < 2 ^ 256) : ∃ (V : Nat) (f : Int), (∀ w, Calls Try.prog 15 #[grp P Q G H, num Z] w fun e w' => e = .returned (.tuple #[num V, .int .i64 f]) ∧ Below w.heap.size w w') ∧ (f = 0 → 1 < Q ∧ Z < Q ∧ U Q (Z : Int)) := by
  by_cases h : 1 < Q ∧ Z < Q
  · by_cases hg : Nat.gcd Z Q = 1
    · obtain ⟨V, hV, hZV⟩ := inv_there Z Q h.1 hg
      exact ⟨V, 0, sinv_yes P Q G H Z V hQ h.1 h.2 hV hZV, fun _ => ⟨h.1, h.2, U.of_gcd h.1 hg⟩⟩
    · exact ⟨0, 7, sinv_none P Q G H Z hQ h.1 h.2 hg, fun e => by cases e⟩
  · exact ⟨0, 1, sinv_no P Q G H Z hQ hZ h, fun e => by cases e⟩
theorem add_some (P Q G H A B : Nat) (hQ : Q < 2 ^ 256) (hA : A < 2 ^ 256) (hB : B < 2 ^ 256) : ∃ (V : Nat) (f : Int), (∀ w, Calls Try.prog 12 #[grp P Q G H, num A, num B] w fun e w' => e = .returned (.tuple #[num V, .int .i64 f]) ∧ Below w.heap.size w w') ∧ (f = 0 ∧ 1 < Q ∧ A < Q ∧ B < Q ∧ V = (A + B) % Q ∨ f = 1) := by
  by_cases h : 1 < Q ∧ A < Q ∧ B < Q
  · exact ⟨_, 0, sadd_yes P Q G H A B hQ h.1 h.2.1 h.2.2, Or.inl ⟨rfl, h.1, h.2.1, h.2.2, rfl⟩⟩
  · exact ⟨0, 1, sadd_no P Q G H A B hQ hA hB h, Or.inr rfl⟩
set_option maxRecDepth 100000 in
set_option maxHeartbeats 800000 in
theorem pmv_l (P Q G H n cap X Y Z : Nat) (pa : Option Addr) (xs : List Nat) (w0 : World) (hQ : Q < 2 ^ 256) (hX : X < 2 ^ 256) (hY : Y < 2 ^ 256) (hZ : Z < 2 ^ 256) (r : RN w0.heap.size w0 pa n cap xs) (hn : 20 < n) : Calls Try.prog 6 #[grp P Q G H, .slice pa n cap, arr3 X Y Z] w0 fun e w' => e = .returned (.bool true) ∧ Below w0.heap.size w0 w' := by
  refine sx_enter (args := [grp P Q G H, .slice pa n cap, arr3 X Y Z]) Try.func6 rfl Try.ntmps6 (by rfl) fun a F HM => ?_
  repeat (first | refine ex_then ?_ | refine ex_block ?_ | refine wp_seq ?_ | refine wp_block ?_ | refine wp_skip ?_)
  refine wp_region_lit ?_
  refine lx_new F HM (wanted_none rfl _) rfl (by rfl) (o_boxG (F.ev rfl)) fun a w gg F HM => ?_
  refine lx_new F HM (wanted_none rfl _) rfl (by rfl) (o_box3 (F.ev rfl)) fun a w gz F HM => ?_
  refine lx_value (v := .bool false) F (wanted_none rfl _) rfl (by rfl) (o_assign rfl) fun a F => ?_
  refine lx_nil ?_
  repeat (first | refine ex_then ?_ | refine ex_block ?_ | refine wp_seq ?_ | refine wp_block ?_ | refine wp_skip ?_)
  refine wp_region_lit ?_
  refine lx_call F (wanted_none rfl _) rfl (by rfl) (run_callF Try.func7 (by kernel_rfl) (by rfl) .nil _) (alive10_any _) fun a w z F => ?_
  replace HM := HM.on z
  clear z
  refine lx_value (v := .bool false) F (wanted_none rfl _) rfl (by rfl) (o_not (b := true) (r := false) (F.ev rfl) rfl) fun a F => ?_
  refine lx_value (v := .bool false) F (wanted_none rfl _) rfl (by rfl) (o_move (F.ev rfl)) fun a F => ?_
  refine lx_value (v := .slice pa n cap) F (F.want (t := 28) (c := false) rfl rfl rfl (by rfl) rfl) rfl (by rfl) (o_move (F.ev rfl)) fun a F => ?_
  refine lx_value (v := .int .i64 (n : Nat)) F (F.want (t := 28) (c := false) rfl rfl rfl (by rfl) rfl) rfl (by rfl) (o_len (F.ev rfl)) fun a F => ?_
  refine lx_value (v := .bool true) F (F.want (t := 28) (c := false) rfl rfl rfl (by rfl) rfl) rfl (by rfl) (o_bin (u := .int .i64 (n : Nat)) (v := .int .i64 20) (fun ρ hx hy => by simp only [execOp, hx, hy]; simp [go_sem]; omega) (F.ev rfl) rfl) fun a F => ?_
  refine lx_value (v := .bool true) F (wanted_none rfl _) rfl (by rfl) (o_pick (b := false) (r := .bool true) (F.ev rfl) rfl (F.ev rfl) rfl) fun a F => ?_
  refine lx_nil ?_
  repeat (first | refine ex_then ?_ | refine ex_block ?_ | refine wp_seq ?_ | refine wp_block ?_ | refine wp_skip ?_)
  refine wp_cond_true (F.ev rfl) ?_
  repeat (first | refine ex_then ?_ | refine ex_block ?_ | refine wp_seq ?_ | refine wp_block ?_ | refine wp_skip ?_)
  refine wp_region_lit ?_
  refine lx_call F (wanted_none rfl _) rfl (by rfl) (run_callF Try.func7 (by kernel_rfl) (by rfl) .nil _) (alive10_any _) fun a w z F => ?_
  replace HM := HM.on z
  clear z
  refine lx_value (v := .bool true) F (wanted_none rfl _) rfl (by rfl) (o_assign (F.ev rfl)) fun a F => ?_
  refine lx_nil ?_
  repeat (first | refine ex_then ?_ | refine ex_block ?_ | refine wp_seq ?_ | refine wp_block ?_ | refine wp_skip ?_)
  refine wp_ret ?_
  repeat (first | refine ex_thenR ?_ | refine ex_blockR ?_)
  exact sx_ret F HM (res_tmp F rfl (s := 6) rfl)

set_option maxRecDepth 100000 in
set_option maxHeartbeats 800000 in
theorem pmv_b1 (P Q G H n cap X Y Z : Nat) (pa : Option Addr) (xs : List Nat) (w0 : World) (hQ : Q < 2 ^ 256) (hX : X < 2 ^ 256) (hY : Y < 2 ^ 256) (hZ : Z < 2 ^ 256) (r : RN w0.heap.size w0 pa n cap xs) (hn : ¬ 20 < n) (V V2 : Nat) (f h : Int) (ci : ∀ w, Calls Try.prog 15 #[grp P Q G H, num Z] w fun e w' => e = .returned (.tuple #[num V, .int .i64 f]) ∧ Below w.heap.size w w') (ca : ∀ w, Calls Try.prog 12 #[grp P Q G H, num X, num Y] w fun e w' => e = .returned (.tuple #[num V2, .int .i64 h]) ∧ Below w.heap.size w w') (hb : wtsB Q X xs = false) : Calls Try.prog 6 #[grp P Q G H, .slice pa n cap, arr3 X Y Z] w0 fun e w' => e = .returned (.bool true) ∧ Below w0.heap.size w0 w' := by
  refine sx_enter (args := [grp P Q G H, .slice pa n cap, arr3 X Y Z]) Try.func6 rfl Try.ntmps6 (by rfl) fun a F HM => ?_
  repeat (first | refine ex_then ?_ | refine ex_block ?_ | refine wp_seq ?_ | refine wp_block ?_ | refine wp_skip ?_)
  refine wp_region_lit ?_
  refine lx_new F HM (wanted_none rfl _) rfl (by rfl) (o_boxG (F.ev rfl)) fun a w gg F HM => ?_
  refine lx_new F HM (wanted_none rfl _) rfl (by rfl) (o_box3 (F.ev rfl)) fun a w gz F HM => ?_
  refine lx_value (v := .bool false) F (wanted_none rfl _) rfl (by rfl) (o_assign rfl) fun a F => ?_
  refine lx_nil ?_
  repeat (first | refine ex_then ?_ | refine ex_block ?_ | refine wp_seq ?_ | refine wp_block ?_ | refine wp_skip ?_)
  refine wp_region_lit ?_
  refine lx_call F (wanted_none rfl _) rfl (by rfl) (run_callF Try.func7 (by kernel_rfl) (by rfl) .nil _) (alive10_any _) fun a w z F => ?_
  replace HM := HM.on z
  clear z
  refine lx_value (v := .bool false) F (wanted_none rfl _) rfl (by rfl) (o_not (b := true) (r := false) (F.ev rfl) rfl) fun a F => ?_
  refine lx_value (v := .bool false) F (wanted_none rfl _) rfl (by rfl) (o_move (F.ev rfl)) fun a F => ?_
  refine lx_value (v := .slice pa n cap) F (F.want (t := 28) (c := false) rfl rfl rfl (by rfl) rfl) rfl (by rfl) (o_move (F.ev rfl)) fun a F => ?_
  refine lx_value (v := .int .i64 (n : Nat)) F (F.want (t := 28) (c := false) rfl rfl rfl (by rfl) rfl) rfl (by rfl) (o_len (F.ev rfl)) fun a F => ?_
  refine lx_value (v := .bool false) F (F.want (t := 28) (c := false) rfl rfl rfl (by rfl) rfl) rfl (by rfl) (o_bin (u := .int .i64 (n : Nat)) (v := .int .i64 20) (fun ρ hx hy => by simp only [execOp, hx, hy]; simp [go_sem]; omega) (F.ev rfl) rfl) fun a F => ?_
  refine lx_value (v := .bool false) F (wanted_none rfl _) rfl (by rfl) (o_pick (b := false) (r := .bool false) (F.ev rfl) rfl (F.ev rfl) rfl) fun a F => ?_
  refine lx_nil ?_
  repeat (first | refine ex_then ?_ | refine ex_block ?_ | refine wp_seq ?_ | refine wp_block ?_ | refine wp_skip ?_)
  refine wp_cond_false (F.ev rfl) ?_
  repeat (first | refine ex_then ?_ | refine ex_block ?_ | refine wp_seq ?_ | refine wp_block ?_ | refine wp_skip ?_)
  refine wp_region_lit ?_
  refine lx_value (v := grp P Q G H) F (wanted_none rfl _) rfl (by rfl) (o_loadG (F.ev rfl) (HM.get 1 rfl)) fun a F => ?_
  refine lx_value (v := .slice pa n cap) F (wanted_none rfl _) rfl (by rfl) (o_move (F.ev rfl)) fun a F => ?_
  refine lx_value (v := .pointer (some ⟨gz, 0, none⟩)) F (wanted_none rfl _) rfl (by rfl) (o_idx30 (F.ev rfl) rfl) fun a F => ?_
  refine lx_value (v := num X) F (wanted_none rfl _) rfl (by rfl) (o_load30 (F.ev rfl) (HM.get 0 rfl)) fun a F => ?_
  refine lx_call F (wanted_none rfl _) rfl (by rfl) (run_callF Try.func14 (by kernel_rfl) (by rfl) (.cons (F.ev rfl) (.cons (F.ev rfl) (.cons (F.ev rfl) .nil))) _) (wts_no P Q G H X n cap pa xs _ hQ hX (r.call HM.bel HM.bel.size) hb) fun a w z F => ?_
  replace HM := HM.on z
  clear z
  refine lx_value (v := .tuple #[.slice none 0 0, .int .i64 1]) F (wanted_none rfl _) rfl (by rfl) (o_move (F.ev rfl)) fun a F => ?_
  refine lx_value (v := .slice none 0 0) F (wanted_none rfl _) rfl (by rfl) (o_extract (F.ev rfl) rfl) fun a F => ?_
  refine lx_value (v := .int .i64 1) F (wanted_none rfl _) rfl (by rfl) (o_extract (F.ev rfl) rfl) fun a F => ?_
  refine lx_value (v := .slice none 0 0) F (wanted_none rfl _) rfl (by rfl) (o_assign (F.ev rfl)) fun a F => ?_
  refine lx_value (v := .int .i64 1) F (wanted_none rfl _) rfl (by rfl) (o_assign (F.ev rfl)) fun a F => ?_
  refine lx_nil ?_
  repeat (first | refine ex_then ?_ | refine ex_block ?_ | refine wp_seq ?_ | refine wp_block ?_ | refine wp_skip ?_)
  refine wp_region_lit ?_
  refine lx_value (v := grp P Q G H) F (wanted_none rfl _) rfl (by rfl) (o_loadG (F.ev rfl) (HM.get 1 rfl)) fun a F => ?_
  refine lx_value (v := .pointer (some ⟨gz, 8, none⟩)) F (wanted_none rfl _) rfl (by rfl) (o_idx32 (F.ev rfl) rfl) fun a F => ?_
  refine lx_value (v := num Z) F (wanted_none rfl _) rfl (by rfl) (o_load32 (F.ev rfl) (HM.get 0 rfl)) fun a F => ?_
  refine lx_call F (wanted_none rfl _) rfl (by rfl) (run_callF Try.func15 (by kernel_rfl) (by rfl) (.cons (F.ev rfl) (.cons (F.ev rfl) .nil)) _) (ci _) fun a w z F => ?_
  replace HM := HM.on z
  clear z
  refine lx_value (v := .tuple #[num V, .int .i64 f]) F (wanted_none rfl _) rfl (by rfl) (o_move (F.ev rfl)) fun a F => ?_
  refine lx_value (v := num V) F (wanted_none rfl _) rfl (by rfl) (o_extract (F.ev rfl) rfl) fun a F => ?_
  refine lx_value (v := .int .i64 f) F (wanted_none rfl _) rfl (by rfl) (o_extract (F.ev rfl) rfl) fun a F => ?_
  refine lx_new F HM (wanted_none rfl _) rfl (by rfl) (o_allocN) fun a w gi F HM => ?_
  refine lx_store F HM (wanted_none rfl _) rfl (k := 0) rfl (o_storeN (F.ev rfl) (F.ev rfl) (HM.get 0 rfl)) (M2 := [(gi, 24, ncs V), (gz, 41, a3cs X Y Z), (gg, 26, gcs P Q G H)]) (rfl) fun w HM => ?_
  refine lx_value (v := .int .i64 f) F (wanted_none rfl _) rfl (by rfl) (o_assign (F.ev rfl)) fun a F => ?_
  refine lx_nil ?_
  repeat (first | refine ex_then ?_ | refine ex_block ?_ | refine wp_seq ?_ | refine wp_block ?_ | refine wp_skip ?_)
  refine wp_region_lit ?_
  refine lx_value (v := grp P Q G H) F (wanted_none rfl _) rfl (by rfl) (o_loadG (F.ev rfl) (HM.get 2 rfl)) fun a F => ?_
  refine lx_value (v := .pointer (some ⟨gz, 0, none⟩)) F (wanted_none rfl _) rfl (by rfl) (o_idx30 (F.ev rfl) rfl) fun a F => ?_
  refine lx_value (v := num X) F (wanted_none rfl _) rfl (by rfl) (o_load30 (F.ev rfl) (HM.get 1 rfl)) fun a F => ?_
  refine lx_value (v := .pointer (some ⟨gz, 4, none⟩)) F (wanted_none rfl _) rfl (by rfl) (o_idx31 (F.ev rfl) rfl) fun a F => ?_
  refine lx_value (v := num Y) F (wanted_none rfl _) rfl (by rfl) (o_load31 (F.ev rfl) (HM.get 1 rfl)) fun a F => ?_
  refine lx_call F (wanted_none rfl _) rfl (by rfl) (run_callF Try.func12 (by kernel_rfl) (by rfl) (.cons (F.ev rfl) (.cons (F.ev rfl) (.cons (F.ev rfl) .nil))) _) (ca _) fun a w z F => ?_
  replace HM := HM.on z
  clear z
  refine lx_value (v := .tuple #[num V2, .int .i64 h]) F (wanted_none rfl _) rfl (by rfl) (o_move (F.ev rfl)) fun a F => ?_
  refine lx_value (v := num V2) F (wanted_none rfl _) rfl (by rfl) (o_extract (F.ev rfl) rfl) fun a F => ?_
  refine lx_value (v := .int .i64 h) F (wanted_none rfl _) rfl (by rfl) (o_extract (F.ev rfl) rfl) fun a F => ?_
  refine lx_new F HM (wanted_none rfl _) rfl (by rfl) (o_allocN) fun a w gp F HM => ?_
  refine lx_store F HM (wanted_none rfl _) rfl (k := 0) rfl (o_storeN (F.ev rfl) (F.ev rfl) (HM.get 0 rfl)) (M2 := [(gp, 24, ncs V2), (gi, 24, ncs V), (gz, 41, a3cs X Y Z), (gg, 26, gcs P Q G H)]) (rfl) fun w HM => ?_
  refine lx_value (v := .int .i64 h) F (wanted_none rfl _) rfl (by rfl) (o_assign (F.ev rfl)) fun a F => ?_
  refine lx_nil ?_
  repeat (first | refine ex_then ?_ | refine ex_block ?_ | refine wp_seq ?_ | refine wp_block ?_ | refine wp_skip ?_)
  refine wp_region_lit ?_
  refine lx_value (v := .int .i64 1) F (wanted_none rfl _) rfl (by rfl) (o_move (F.ev rfl)) fun a F => ?_
  refine lx_value (v := .bool true) F (wanted_none rfl _) rfl (by rfl) (o_bin (u := .int .i64 1) (v := .int .i64 0) (fun ρ hx hy => by simp only [execOp, hx, hy]; simp [go_sem]) (F.ev rfl) rfl) fun a F => ?_
  refine lx_value (v := .bool true) F (wanted_none rfl _) rfl (by rfl) (o_move (F.ev rfl)) fun a F => ?_
  refine lx_pass F (F.want (t := 60) (c := true) rfl rfl rfl (by rfl) rfl) rfl (by rfl) fun a F => ?_
  refine lx_pass F (F.want (t := 60) (c := true) rfl rfl rfl (by rfl) rfl) rfl (by rfl) fun a F => ?_
  refine lx_value (v := .bool true) F (wanted_none rfl _) rfl (by rfl) (o_pick (b := true) (r := .bool true) (F.ev rfl) rfl (F.ev rfl) rfl) fun a F => ?_
  refine lx_value (v := .bool true) F (wanted_none rfl _) rfl (by rfl) (o_move (F.ev rfl)) fun a F => ?_
  refine lx_pass F (F.want (t := 64) (c := true) rfl rfl rfl (by rfl) rfl) rfl (by rfl) fun a F => ?_
  refine lx_pass F (F.want (t := 64) (c := true) rfl rfl rfl (by rfl) rfl) rfl (by rfl) fun a F => ?_
  refine lx_value (v := .bool true) F (wanted_none rfl _) rfl (by rfl) (o_pick (b := true) (r := .bool true) (F.ev rfl) rfl (F.ev rfl) rfl) fun a F => ?_
  refine lx_nil ?_
  repeat (first | refine ex_then ?_ | refine ex_block ?_ | refine wp_seq ?_ | refine wp_block ?_ | refine wp_skip ?_)
  refine wp_cond_true (F.ev rfl) ?_
  repeat (first | refine ex_then ?_ | refine ex_block ?_ | refine wp_seq ?_ | refine wp_block ?_ | refine wp_skip ?_)
  refine wp_region_lit ?_
  refine lx_value (v := .int .i64 1) F (wanted_none rfl _) rfl (by rfl) (o_move (F.ev rfl)) fun a F => ?_
  refine lx_value (v := .bool true) F (wanted_none rfl _) rfl (by rfl) (o_bin (u := .int .i64 1) (v := .int .i64 0) (fun ρ hx hy => by simp only [execOp, hx, hy]; simp [go_sem]) (F.ev rfl) rfl) fun a F => ?_
  refine lx_value (v := .bool true) F (wanted_none rfl _) rfl (by rfl) (o_move (F.ev rfl)) fun a F => ?_
  refine lx_pass F (F.want (t := 70) (c := true) rfl rfl rfl (by rfl) rfl) rfl (by rfl) fun a F => ?_
  refine lx_pass F (F.want (t := 70) (c := true) rfl rfl rfl (by rfl) rfl) rfl (by rfl) fun a F => ?_
  refine lx_value (v := .bool true) F (wanted_none rfl _) rfl (by rfl) (o_pick (b := true) (r := .bool true) (F.ev rfl) rfl (F.ev rfl) rfl) fun a F => ?_
  refine lx_value (v := .bool true) F (wanted_none rfl _) rfl (by rfl) (o_move (F.ev rfl)) fun a F => ?_
  refine lx_pass F (F.want (t := 74) (c := true) rfl rfl rfl (by rfl) rfl) rfl (by rfl) fun a F => ?_
  refine lx_pass F (F.want (t := 74) (c := true) rfl rfl rfl (by rfl) rfl) rfl (by rfl) fun a F => ?_
  refine lx_value (v := .bool true) F (wanted_none rfl _) rfl (by rfl) (o_pick (b := true) (r := .bool true) (F.ev rfl) rfl (F.ev rfl) rfl) fun a F => ?_
  refine lx_value (v := .bool true) F (wanted_none rfl _) rfl (by rfl) (o_assign (F.ev rfl)) fun a F => ?_
  refine lx_nil ?_
  repeat (first | refine ex_then ?_ | refine ex_block ?_ | refine wp_seq ?_ | refine wp_block ?_ | refine wp_skip ?_)
  refine wp_ret ?_
  repeat (first | refine ex_thenR ?_ | refine ex_blockR ?_)
  exact sx_ret F HM (res_tmp F rfl (s := 6) rfl)

set_option maxRecDepth 100000 in
set_option maxHeartbeats 800000 in
theorem pmv_b7 (P Q G H n cap X Y Z : Nat) (pa : Option Addr) (xs : List Nat) (w0 : World) (hQ : Q < 2 ^ 256) (hX : X < 2 ^ 256) (hY : Y < 2 ^ 256) (hZ : Z < 2 ^ 256) (r : RN w0.heap.size w0 pa n cap xs) (hn : ¬ 20 < n) (V V2 : Nat) (f h : Int) (ci : ∀ w, Calls Try.prog 15 #[grp P Q G H, num Z] w fun e w' => e = .returned (.tuple #[num V, .int .i64 f]) ∧ Below w.heap.size w w') (ca : ∀ w, Calls Try.prog 12 #[grp P Q G H, num X, num Y] w fun e w' => e = .returned (.tuple #[num V2, .int .i64 h]) ∧ Below w.heap.size w w') (hb : wtsB Q X xs = true) (hu : ¬ AllU Q xs) : Calls Try.prog 6 #[grp P Q G H, .slice pa n cap, arr3 X Y Z] w0 fun e w' => e = .returned (.bool true) ∧ Below w0.heap.size w0 w' := by
  refine sx_enter (args := [grp P Q G H, .slice pa n cap, arr3 X Y Z]) Try.func6 rfl Try.ntmps6 (by rfl) fun a F HM => ?_
  repeat (first | refine ex_then ?_ | refine ex_block ?_ | refine wp_seq ?_ | refine wp_block ?_ | refine wp_skip ?_)
  refine wp_region_lit ?_
  refine lx_new F HM (wanted_none rfl _) rfl (by rfl) (o_boxG (F.ev rfl)) fun a w gg F HM => ?_
  refine lx_new F HM (wanted_none rfl _) rfl (by rfl) (o_box3 (F.ev rfl)) fun a w gz F HM => ?_
  refine lx_value (v := .bool false) F (wanted_none rfl _) rfl (by rfl) (o_assign rfl) fun a F => ?_
  refine lx_nil ?_
  repeat (first | refine ex_then ?_ | refine ex_block ?_ | refine wp_seq ?_ | refine wp_block ?_ | refine wp_skip ?_)
  refine wp_region_lit ?_
  refine lx_call F (wanted_none rfl _) rfl (by rfl) (run_callF Try.func7 (by kernel_rfl) (by rfl) .nil _) (alive10_any _) fun a w z F => ?_
  replace HM := HM.on z
  clear z
  refine lx_value (v := .bool false) F (wanted_none rfl _) rfl (by rfl) (o_not (b := true) (r := false) (F.ev rfl) rfl) fun a F => ?_
  refine lx_value (v := .bool false) F (wanted_none rfl _) rfl (by rfl) (o_move (F.ev rfl)) fun a F => ?_
  refine lx_value (v := .slice pa n cap) F (F.want (t := 28) (c := false) rfl rfl rfl (by rfl) rfl) rfl (by rfl) (o_move (F.ev rfl)) fun a F => ?_
  refine lx_value (v := .int .i64 (n : Nat)) F (F.want (t := 28) (c := false) rfl rfl rfl (by rfl) rfl) rfl (by rfl) (o_len (F.ev rfl)) fun a F => ?_
  refine lx_value (v := .bool false) F (F.want (t := 28) (c := false) rfl rfl rfl (by rfl) rfl) rfl (by rfl) (o_bin (u := .int .i64 (n : Nat)) (v := .int .i64 20) (fun ρ hx hy => by simp only [execOp, hx, hy]; simp [go_sem]; omega) (F.ev rfl) rfl) fun a F => ?_
  refine lx_value (v := .bool false) F (wanted_none rfl _) rfl (by rfl) (o_pick (b := false) (r := .bool false) (F.ev rfl) rfl (F.ev rfl) rfl) fun a F => ?_
  refine lx_nil ?_
  repeat (first | refine ex_then ?_ | refine ex_block ?_ | refine wp_seq ?_ | refine wp_block ?_ | refine wp_skip ?_)
  refine wp_cond_false (F.ev rfl) ?_
  repeat (first | refine ex_then ?_ | refine ex_block ?_ | refine wp_seq ?_ | refine wp_block ?_ | refine wp_skip ?_)
  refine wp_region_lit ?_
  refine lx_value (v := grp P Q G H) F (wanted_none rfl _) rfl (by rfl) (o_loadG (F.ev rfl) (HM.get 1 rfl)) fun a F => ?_
  refine lx_value (v := .slice pa n cap) F (wanted_none rfl _) rfl (by rfl) (o_move (F.ev rfl)) fun a F => ?_
  refine lx_value (v := .pointer (some ⟨gz, 0, none⟩)) F (wanted_none rfl _) rfl (by rfl) (o_idx30 (F.ev rfl) rfl) fun a F => ?_
  refine lx_value (v := num X) F (wanted_none rfl _) rfl (by rfl) (o_load30 (F.ev rfl) (HM.get 0 rfl)) fun a F => ?_
  refine lx_call F (wanted_none rfl _) rfl (by rfl) (run_callF Try.func14 (by kernel_rfl) (by rfl) (.cons (F.ev rfl) (.cons (F.ev rfl) (.cons (F.ev rfl) .nil))) _) ((wts_any P Q G H X n cap pa xs _ hQ hX (r.call HM.bel HM.bel.size) (by omega) hb).mono (fun e w2 h => h.2 hu)) fun a w z F => ?_
  replace HM := HM.on z
  clear z
  refine lx_value (v := .tuple #[.slice none 0 0, .int .i64 7]) F (wanted_none rfl _) rfl (by rfl) (o_move (F.ev rfl)) fun a F => ?_
  refine lx_value (v := .slice none 0 0) F (wanted_none rfl _) rfl (by rfl) (o_extract (F.ev rfl) rfl) fun a F => ?_
  refine lx_value (v := .int .i64 7) F (wanted_none rfl _) rfl (by rfl) (o_extract (F.ev rfl) rfl) fun a F => ?_
  refine lx_value (v := .slice none 0 0) F (wanted_none rfl _) rfl (by rfl) (o_assign (F.ev rfl)) fun a F => ?_
  refine lx_value (v := .int .i64 7) F (wanted_none rfl _) rfl (by rfl) (o_assign (F.ev rfl)) fun a F => ?_
  refine lx_nil ?_
  repeat (first | refine ex_then ?_ | refine ex_block ?_ | refine wp_seq ?_ | refine wp_block ?_ | refine wp_skip ?_)
  refine wp_region_lit ?_
  refine lx_value (v := grp P Q G H) F (wanted_none rfl _) rfl (by rfl) (o_loadG (F.ev rfl) (HM.get 1 rfl)) fun a F => ?_
  refine lx_value (v := .pointer (some ⟨gz, 8, none⟩)) F (wanted_none rfl _) rfl (by rfl) (o_idx32 (F.ev rfl) rfl) fun a F => ?_
  refine lx_value (v := num Z) F (wanted_none rfl _) rfl (by rfl) (o_load32 (F.ev rfl) (HM.get 0 rfl)) fun a F => ?_
  refine lx_call F (wanted_none rfl _) rfl (by rfl) (run_callF Try.func15 (by kernel_rfl) (by rfl) (.cons (F.ev rfl) (.cons (F.ev rfl) .nil)) _) (ci _) fun a w z F => ?_
  replace HM := HM.on z
  clear z
  refine lx_value (v := .tuple #[num V, .int .i64 f]) F (wanted_none rfl _) rfl (by rfl) (o_move (F.ev rfl)) fun a F => ?_
  refine lx_value (v := num V) F (wanted_none rfl _) rfl (by rfl) (o_extract (F.ev rfl) rfl) fun a F => ?_
  refine lx_value (v := .int .i64 f) F (wanted_none rfl _) rfl (by rfl) (o_extract (F.ev rfl) rfl) fun a F => ?_
  refine lx_new F HM (wanted_none rfl _) rfl (by rfl) (o_allocN) fun a w gi F HM => ?_
  refine lx_store F HM (wanted_none rfl _) rfl (k := 0) rfl (o_storeN (F.ev rfl) (F.ev rfl) (HM.get 0 rfl)) (M2 := [(gi, 24, ncs V), (gz, 41, a3cs X Y Z), (gg, 26, gcs P Q G H)]) (rfl) fun w HM => ?_
  refine lx_value (v := .int .i64 f) F (wanted_none rfl _) rfl (by rfl) (o_assign (F.ev rfl)) fun a F => ?_
  refine lx_nil ?_
  repeat (first | refine ex_then ?_ | refine ex_block ?_ | refine wp_seq ?_ | refine wp_block ?_ | refine wp_skip ?_)
  refine wp_region_lit ?_
  refine lx_value (v := grp P Q G H) F (wanted_none rfl _) rfl (by rfl) (o_loadG (F.ev rfl) (HM.get 2 rfl)) fun a F => ?_
  refine lx_value (v := .pointer (some ⟨gz, 0, none⟩)) F (wanted_none rfl _) rfl (by rfl) (o_idx30 (F.ev rfl) rfl) fun a F => ?_
  refine lx_value (v := num X) F (wanted_none rfl _) rfl (by rfl) (o_load30 (F.ev rfl) (HM.get 1 rfl)) fun a F => ?_
  refine lx_value (v := .pointer (some ⟨gz, 4, none⟩)) F (wanted_none rfl _) rfl (by rfl) (o_idx31 (F.ev rfl) rfl) fun a F => ?_
  refine lx_value (v := num Y) F (wanted_none rfl _) rfl (by rfl) (o_load31 (F.ev rfl) (HM.get 1 rfl)) fun a F => ?_
  refine lx_call F (wanted_none rfl _) rfl (by rfl) (run_callF Try.func12 (by kernel_rfl) (by rfl) (.cons (F.ev rfl) (.cons (F.ev rfl) (.cons (F.ev rfl) .nil))) _) (ca _) fun a w z F => ?_
  replace HM := HM.on z
  clear z
  refine lx_value (v := .tuple #[num V2, .int .i64 h]) F (wanted_none rfl _) rfl (by rfl) (o_move (F.ev rfl)) fun a F => ?_
  refine lx_value (v := num V2) F (wanted_none rfl _) rfl (by rfl) (o_extract (F.ev rfl) rfl) fun a F => ?_
  refine lx_value (v := .int .i64 h) F (wanted_none rfl _) rfl (by rfl) (o_extract (F.ev rfl) rfl) fun a F => ?_
  refine lx_new F HM (wanted_none rfl _) rfl (by rfl) (o_allocN) fun a w gp F HM => ?_
  refine lx_store F HM (wanted_none rfl _) rfl (k := 0) rfl (o_storeN (F.ev rfl) (F.ev rfl) (HM.get 0 rfl)) (M2 := [(gp, 24, ncs V2), (gi, 24, ncs V), (gz, 41, a3cs X Y Z), (gg, 26, gcs P Q G H)]) (rfl) fun w HM => ?_
  refine lx_value (v := .int .i64 h) F (wanted_none rfl _) rfl (by rfl) (o_assign (F.ev rfl)) fun a F => ?_
  refine lx_nil ?_
  repeat (first | refine ex_then ?_ | refine ex_block ?_ | refine wp_seq ?_ | refine wp_block ?_ | refine wp_skip ?_)
  refine wp_region_lit ?_
  refine lx_value (v := .int .i64 7) F (wanted_none rfl _) rfl (by rfl) (o_move (F.ev rfl)) fun a F => ?_
  refine lx_value (v := .bool true) F (wanted_none rfl _) rfl (by rfl) (o_bin (u := .int .i64 7) (v := .int .i64 0) (fun ρ hx hy => by simp only [execOp, hx, hy]; simp [go_sem]) (F.ev rfl) rfl) fun a F => ?_
  refine lx_value (v := .bool true) F (wanted_none rfl _) rfl (by rfl) (o_move (F.ev rfl)) fun a F => ?_
  refine lx_pass F (F.want (t := 60) (c := true) rfl rfl rfl (by rfl) rfl) rfl (by rfl) fun a F => ?_
  refine lx_pass F (F.want (t := 60) (c := true) rfl rfl rfl (by rfl) rfl) rfl (by rfl) fun a F => ?_
  refine lx_value (v := .bool true) F (wanted_none rfl _) rfl (by rfl) (o_pick (b := true) (r := .bool true) (F.ev rfl) rfl (F.ev rfl) rfl) fun a F => ?_
  refine lx_value (v := .bool true) F (wanted_none rfl _) rfl (by rfl) (o_move (F.ev rfl)) fun a F => ?_
  refine lx_pass F (F.want (t := 64) (c := true) rfl rfl rfl (by rfl) rfl) rfl (by rfl) fun a F => ?_
  refine lx_pass F (F.want (t := 64) (c := true) rfl rfl rfl (by rfl) rfl) rfl (by rfl) fun a F => ?_
  refine lx_value (v := .bool true) F (wanted_none rfl _) rfl (by rfl) (o_pick (b := true) (r := .bool true) (F.ev rfl) rfl (F.ev rfl) rfl) fun a F => ?_
  refine lx_nil ?_
  repeat (first | refine ex_then ?_ | refine ex_block ?_ | refine wp_seq ?_ | refine wp_block ?_ | refine wp_skip ?_)
  refine wp_cond_true (F.ev rfl) ?_
  repeat (first | refine ex_then ?_ | refine ex_block ?_ | refine wp_seq ?_ | refine wp_block ?_ | refine wp_skip ?_)
  refine wp_region_lit ?_
  refine lx_value (v := .int .i64 7) F (wanted_none rfl _) rfl (by rfl) (o_move (F.ev rfl)) fun a F => ?_
  refine lx_value (v := .bool true) F (wanted_none rfl _) rfl (by rfl) (o_bin (u := .int .i64 7) (v := .int .i64 0) (fun ρ hx hy => by simp only [execOp, hx, hy]; simp [go_sem]) (F.ev rfl) rfl) fun a F => ?_
  refine lx_value (v := .bool true) F (wanted_none rfl _) rfl (by rfl) (o_move (F.ev rfl)) fun a F => ?_
  refine lx_pass F (F.want (t := 70) (c := true) rfl rfl rfl (by rfl) rfl) rfl (by rfl) fun a F => ?_
  refine lx_pass F (F.want (t := 70) (c := true) rfl rfl rfl (by rfl) rfl) rfl (by rfl) fun a F => ?_
  refine lx_value (v := .bool true) F (wanted_none rfl _) rfl (by rfl) (o_pick (b := true) (r := .bool true) (F.ev rfl) rfl (F.ev rfl) rfl) fun a F => ?_
  refine lx_value (v := .bool true) F (wanted_none rfl _) rfl (by rfl) (o_move (F.ev rfl)) fun a F => ?_
  refine lx_pass F (F.want (t := 74) (c := true) rfl rfl rfl (by rfl) rfl) rfl (by rfl) fun a F => ?_
  refine lx_pass F (F.want (t := 74) (c := true) rfl rfl rfl (by rfl) rfl) rfl (by rfl) fun a F => ?_
  refine lx_value (v := .bool true) F (wanted_none rfl _) rfl (by rfl) (o_pick (b := true) (r := .bool true) (F.ev rfl) rfl (F.ev rfl) rfl) fun a F => ?_
  refine lx_value (v := .bool true) F (wanted_none rfl _) rfl (by rfl) (o_assign (F.ev rfl)) fun a F => ?_
  refine lx_nil ?_
  repeat (first | refine ex_then ?_ | refine ex_block ?_ | refine wp_seq ?_ | refine wp_block ?_ | refine wp_skip ?_)
  refine wp_ret ?_
  repeat (first | refine ex_thenR ?_ | refine ex_blockR ?_)
  exact sx_ret F HM (res_tmp F rfl (s := 6) rfl)

set_option maxRecDepth 100000 in
set_option maxHeartbeats 800000 in
theorem pmv_f (P Q G H n cap X Y Z : Nat) (pa : Option Addr) (xs : List Nat) (w0 : World) (hQ : Q < 2 ^ 256) (hX : X < 2 ^ 256) (hY : Y < 2 ^ 256) (hZ : Z < 2 ^ 256) (r : RN w0.heap.size w0 pa n cap xs) (hn : ¬ 20 < n) (V V2 : Nat) (f h : Int) (ci : ∀ w, Calls Try.prog 15 #[grp P Q G H, num Z] w fun e w' => e = .returned (.tuple #[num V, .int .i64 f]) ∧ Below w.heap.size w w') (ca : ∀ w, Calls Try.prog 12 #[grp P Q G H, num X, num Y] w fun e w' => e = .returned (.tuple #[num V2, .int .i64 h]) ∧ Below w.heap.size w w') (hb : wtsB Q X xs = true) (hu : AllU Q xs) (hf : f ≠ 0) : Calls Try.prog 6 #[grp P Q G H, .slice pa n cap, arr3 X Y Z] w0 fun e w' => e = .returned (.bool true) ∧ Below w0.heap.size w0 w' := by
  refine sx_enter (args := [grp P Q G H, .slice pa n cap, arr3 X Y Z]) Try.func6 rfl Try.ntmps6 (by rfl) fun a F HM => ?_
  repeat (first | refine ex_then ?_ | refine ex_block ?_ | refine wp_seq ?_ | refine wp_block ?_ | refine wp_skip ?_)
  refine wp_region_lit ?_
  refine lx_new F HM (wanted_none rfl _) rfl (by rfl) (o_boxG (F.ev rfl)) fun a w gg F HM => ?_
  refine lx_new F HM (wanted_none rfl _) rfl (by rfl) (o_box3 (F.ev rfl)) fun a w gz F HM => ?_
  refine lx_value (v := .bool false) F (wanted_none rfl _) rfl (by rfl) (o_assign rfl) fun a F => ?_
  refine lx_nil ?_
  repeat (first | refine ex_then ?_ | refine ex_block ?_ | refine wp_seq ?_ | refine wp_block ?_ | refine wp_skip ?_)
  refine wp_region_lit ?_
  refine lx_call F (wanted_none rfl _) rfl (by rfl) (run_callF Try.func7 (by kernel_rfl) (by rfl) .nil _) (alive10_any _) fun a w z F => ?_
  replace HM := HM.on z
  clear z
  refine lx_value (v := .bool false) F (wanted_none rfl _) rfl (by rfl) (o_not (b := true) (r := false) (F.ev rfl) rfl) fun a F => ?_
  refine lx_value (v := .bool false) F (wanted_none rfl _) rfl (by rfl) (o_move (F.ev rfl)) fun a F => ?_
  refine lx_value (v := .slice pa n cap) F (F.want (t := 28) (c := false) rfl rfl rfl (by rfl) rfl) rfl (by rfl) (o_move (F.ev rfl)) fun a F => ?_
  refine lx_value (v := .int .i64 (n : Nat)) F (F.want (t := 28) (c := false) rfl rfl rfl (by rfl) rfl) rfl (by rfl) (o_len (F.ev rfl)) fun a F => ?_
  refine lx_value (v := .bool false) F (F.want (t := 28) (c := false) rfl rfl rfl (by rfl) rfl) rfl (by rfl) (o_bin (u := .int .i64 (n : Nat)) (v := .int .i64 20) (fun ρ hx hy => by simp only [execOp, hx, hy]; simp [go_sem]; omega) (F.ev rfl) rfl) fun a F => ?_
  refine lx_value (v := .bool false) F (wanted_none rfl _) rfl (by rfl) (o_pick (b := false) (r := .bool false) (F.ev rfl) rfl (F.ev rfl) rfl) fun a F => ?_
  refine lx_nil ?_
  repeat (first | refine ex_then ?_ | refine ex_block ?_ | refine wp_seq ?_ | refine wp_block ?_ | refine wp_skip ?_)
  refine wp_cond_false (F.ev rfl) ?_
  repeat (first | refine ex_then ?_ | refine ex_block ?_ | refine wp_seq ?_ | refine wp_block ?_ | refine wp_skip ?_)
  refine wp_region_lit ?_
  refine lx_value (v := grp P Q G H) F (wanted_none rfl _) rfl (by rfl) (o_loadG (F.ev rfl) (HM.get 1 rfl)) fun a F => ?_
  refine lx_value (v := .slice pa n cap) F (wanted_none rfl _) rfl (by rfl) (o_move (F.ev rfl)) fun a F => ?_
  refine lx_value (v := .pointer (some ⟨gz, 0, none⟩)) F (wanted_none rfl _) rfl (by rfl) (o_idx30 (F.ev rfl) rfl) fun a F => ?_
  refine lx_value (v := num X) F (wanted_none rfl _) rfl (by rfl) (o_load30 (F.ev rfl) (HM.get 0 rfl)) fun a F => ?_
  refine lx_callE F (wanted_none rfl _) rfl (by rfl) (run_callF Try.func14 (by kernel_rfl) (by rfl) (.cons (F.ev rfl) (.cons (F.ev rfl) (.cons (F.ev rfl) .nil))) _) ((wts_any P Q G H X n cap pa xs _ hQ hX (r.call HM.bel HM.bel.size) (by omega) hb).mono (fun e w2 h => wts_ex (h.1 hu))) fun a w u hu F => ?_
  obtain ⟨z, gw, ws, cw, rfl, hg, hat, hpw, hws⟩ := hu
  have hne := bel_lt HM hg
  have hge := Nat.le_trans (Nat.le_trans HM.le HM.bel.size) hg
  replace HM := (HM.on z).add hge (fun x hx => hne x hx) hat
  clear hne hge hg z hat
  refine lx_value (v := .tuple #[.slice (some ⟨gw, 0, none⟩) n n, .int .i64 0]) F (wanted_none rfl _) rfl (by rfl) (o_move (F.ev rfl)) fun a F => ?_
  refine lx_value (v := .slice (some ⟨gw, 0, none⟩) n n) F (wanted_none rfl _) rfl (by rfl) (o_extract (F.ev rfl) rfl) fun a F => ?_
  refine lx_value (v := .int .i64 0) F (wanted_none rfl _) rfl (by rfl) (o_extract (F.ev rfl) rfl) fun a F => ?_
  refine lx_value (v := .slice (some ⟨gw, 0, none⟩) n n) F (wanted_none rfl _) rfl (by rfl) (o_assign (F.ev rfl)) fun a F => ?_
  refine lx_value (v := .int .i64 0) F (wanted_none rfl _) rfl (by rfl) (o_assign (F.ev rfl)) fun a F => ?_
  refine lx_nil ?_
  repeat (first | refine ex_then ?_ | refine ex_block ?_ | refine wp_seq ?_ | refine wp_block ?_ | refine wp_skip ?_)
  refine wp_region_lit ?_
  refine lx_value (v := grp P Q G H) F (wanted_none rfl _) rfl (by rfl) (o_loadG (F.ev rfl) (HM.get 2 rfl)) fun a F => ?_
  refine lx_value (v := .pointer (some ⟨gz, 8, none⟩)) F (wanted_none rfl _) rfl (by rfl) (o_idx32 (F.ev rfl) rfl) fun a F => ?_
  refine lx_value (v := num Z) F (wanted_none rfl _) rfl (by rfl) (o_load32 (F.ev rfl) (HM.get 1 rfl)) fun a F => ?_
  refine lx_call F (wanted_none rfl _) rfl (by rfl) (run_callF Try.func15 (by kernel_rfl) (by rfl) (.cons (F.ev rfl) (.cons (F.ev rfl) .nil)) _) (ci _) fun a w z F => ?_
  replace HM := HM.on z
  clear z
  refine lx_value (v := .tuple #[num V, .int .i64 f]) F (wanted_none rfl _) rfl (by rfl) (o_move (F.ev rfl)) fun a F => ?_
  refine lx_value (v := num V) F (wanted_none rfl _) rfl (by rfl) (o_extract (F.ev rfl) rfl) fun a F => ?_
  refine lx_value (v := .int .i64 f) F (wanted_none rfl _) rfl (by rfl) (o_extract (F.ev rfl) rfl) fun a F => ?_
  refine lx_new F HM (wanted_none rfl _) rfl (by rfl) (o_allocN) fun a w gi F HM => ?_
  refine lx_store F HM (wanted_none rfl _) rfl (k := 0) rfl (o_storeN (F.ev rfl) (F.ev rfl) (HM.get 0 rfl)) (M2 := [(gi, 24, ncs V), (gw, 24, cw), (gz, 41, a3cs X Y Z), (gg, 26, gcs P Q G H)]) (rfl) fun w HM => ?_
  refine lx_value (v := .int .i64 f) F (wanted_none rfl _) rfl (by rfl) (o_assign (F.ev rfl)) fun a F => ?_
  refine lx_nil ?_
  repeat (first | refine ex_then ?_ | refine ex_block ?_ | refine wp_seq ?_ | refine wp_block ?_ | refine wp_skip ?_)
  refine wp_region_lit ?_
  refine lx_value (v := grp P Q G H) F (wanted_none rfl _) rfl (by rfl) (o_loadG (F.ev rfl) (HM.get 3 rfl)) fun a F => ?_
  refine lx_value (v := .pointer (some ⟨gz, 0, none⟩)) F (wanted_none rfl _) rfl (by rfl) (o_idx30 (F.ev rfl) rfl) fun a F => ?_
  refine lx_value (v := num X) F (wanted_none rfl _) rfl (by rfl) (o_load30 (F.ev rfl) (HM.get 2 rfl)) fun a F => ?_
  refine lx_value (v := .pointer (some ⟨gz, 4, none⟩)) F (wanted_none rfl _) rfl (by rfl) (o_idx31 (F.ev rfl) rfl) fun a F => ?_
  refine lx_value (v := num Y) F (wanted_none rfl _) rfl (by rfl) (o_load31 (F.ev rfl) (HM.get 2 rfl)) fun a F => ?_
  refine lx_call F (wanted_none rfl _) rfl (by rfl) (run_callF Try.func12 (by kernel_rfl) (by rfl) (.cons (F.ev rfl) (.cons (F.ev rfl) (.cons (F.ev rfl) .nil))) _) (ca _) fun a w z F => ?_
  replace HM := HM.on z
  clear z
  refine lx_value (v := .tuple #[num V2, .int .i64 h]) F (wanted_none rfl _) rfl (by rfl) (o_move (F.ev rfl)) fun a F => ?_
  refine lx_value (v := num V2) F (wanted_none rfl _) rfl (by rfl) (o_extract (F.ev rfl) rfl) fun a F => ?_
  refine lx_value (v := .int .i64 h) F (wanted_none rfl _) rfl (by rfl) (o_extract (F.ev rfl) rfl) fun a F => ?_
  refine lx_new F HM (wanted_none rfl _) rfl (by rfl) (o_allocN) fun a w gp F HM => ?_
  refine lx_store F HM (wanted_none rfl _) rfl (k := 0) rfl (o_storeN (F.ev rfl) (F.ev rfl) (HM.get 0 rfl)) (M2 := [(gp, 24, ncs V2), (gi, 24, ncs V), (gw, 24, cw), (gz, 41, a3cs X Y Z), (gg, 26, gcs P Q G H)]) (rfl) fun w HM => ?_
  refine lx_value (v := .int .i64 h) F (wanted_none rfl _) rfl (by rfl) (o_assign (F.ev rfl)) fun a F => ?_
  refine lx_nil ?_
  repeat (first | refine ex_then ?_ | refine ex_block ?_ | refine wp_seq ?_ | refine wp_block ?_ | refine wp_skip ?_)
  refine wp_region_lit ?_
  refine lx_value (v := .int .i64 0) F (wanted_none rfl _) rfl (by rfl) (o_move (F.ev rfl)) fun a F => ?_
  refine lx_value (v := .bool false) F (wanted_none rfl _) rfl (by rfl) (o_bin (u := .int .i64 0) (v := .int .i64 0) (fun ρ hx hy => by simp only [execOp, hx, hy]; simp [go_sem]) (F.ev rfl) rfl) fun a F => ?_
  refine lx_value (v := .bool false) F (wanted_none rfl _) rfl (by rfl) (o_move (F.ev rfl)) fun a F => ?_
  refine lx_value (v := .int .i64 f) F (F.want (t := 60) (c := false) rfl rfl rfl (by rfl) rfl) rfl (by rfl) (o_move (F.ev rfl)) fun a F => ?_
  refine lx_value (v := .bool true) F (F.want (t := 60) (c := false) rfl rfl rfl (by rfl) rfl) rfl (by rfl) (o_neqI (b := false) (decide_eq_false hf) (F.ev rfl) rfl rfl) fun a F => ?_
  refine lx_value (v := .bool true) F (wanted_none rfl _) rfl (by rfl) (o_pick (b := false) (r := .bool true) (F.ev rfl) rfl (F.ev rfl) rfl) fun a F => ?_
  refine lx_value (v := .bool true) F (wanted_none rfl _) rfl (by rfl) (o_move (F.ev rfl)) fun a F => ?_
  refine lx_pass F (F.want (t := 64) (c := true) rfl rfl rfl (by rfl) rfl) rfl (by rfl) fun a F => ?_
  refine lx_pass F (F.want (t := 64) (c := true) rfl rfl rfl (by rfl) rfl) rfl (by rfl) fun a F => ?_
  refine lx_value (v := .bool true) F (wanted_none rfl _) rfl (by rfl) (o_pick (b := true) (r := .bool true) (F.ev rfl) rfl (F.ev rfl) rfl) fun a F => ?_
  refine lx_nil ?_
  repeat (first | refine ex_then ?_ | refine ex_block ?_ | refine wp_seq ?_ | refine wp_block ?_ | refine wp_skip ?_)
  refine wp_cond_true (F.ev rfl) ?_
  repeat (first | refine ex_then ?_ | refine ex_block ?_ | refine wp_seq ?_ | refine wp_block ?_ | refine wp_skip ?_)
  refine wp_region_lit ?_
  refine lx_value (v := .int .i64 0) F (wanted_none rfl _) rfl (by rfl) (o_move (F.ev rfl)) fun a F => ?_
  refine lx_value (v := .bool false) F (wanted_none rfl _) rfl (by rfl) (o_bin (u := .int .i64 0) (v := .int .i64 0) (fun ρ hx hy => by simp only [execOp, hx, hy]; simp [go_sem]) (F.ev rfl) rfl) fun a F => ?_
  refine lx_value (v := .bool false) F (wanted_none rfl _) rfl (by rfl) (o_move (F.ev rfl)) fun a F => ?_
  refine lx_value (v := .int .i64 f) F (F.want (t := 70) (c := false) rfl rfl rfl (by rfl) rfl) rfl (by rfl) (o_move (F.ev rfl)) fun a F => ?_
  refine lx_value (v := .bool true) F (F.want (t := 70) (c := false) rfl rfl rfl (by rfl) rfl) rfl (by rfl) (o_neqI (b := false) (decide_eq_false hf) (F.ev rfl) rfl rfl) fun a F => ?_
  refine lx_value (v := .bool true) F (wanted_none rfl _) rfl (by rfl) (o_pick (b := false) (r := .bool true) (F.ev rfl) rfl (F.ev rfl) rfl) fun a F => ?_
  refine lx_value (v := .bool true) F (wanted_none rfl _) rfl (by rfl) (o_move (F.ev rfl)) fun a F => ?_
  refine lx_pass F (F.want (t := 74) (c := true) rfl rfl rfl (by rfl) rfl) rfl (by rfl) fun a F => ?_
  refine lx_pass F (F.want (t := 74) (c := true) rfl rfl rfl (by rfl) rfl) rfl (by rfl) fun a F => ?_
  refine lx_value (v := .bool true) F (wanted_none rfl _) rfl (by rfl) (o_pick (b := true) (r := .bool true) (F.ev rfl) rfl (F.ev rfl) rfl) fun a F => ?_
  refine lx_value (v := .bool true) F (wanted_none rfl _) rfl (by rfl) (o_assign (F.ev rfl)) fun a F => ?_
  refine lx_nil ?_
  repeat (first | refine ex_then ?_ | refine ex_block ?_ | refine wp_seq ?_ | refine wp_block ?_ | refine wp_skip ?_)
  refine wp_ret ?_
  repeat (first | refine ex_thenR ?_ | refine ex_blockR ?_)
  exact sx_ret F HM (res_tmp F rfl (s := 6) rfl)

set_option maxRecDepth 100000 in
set_option maxHeartbeats 800000 in
theorem pmv_h (P Q G H n cap X Y Z : Nat) (pa : Option Addr) (xs : List Nat) (w0 : World) (hQ : Q < 2 ^ 256) (hX : X < 2 ^ 256) (hY : Y < 2 ^ 256) (hZ : Z < 2 ^ 256) (r : RN w0.heap.size w0 pa n cap xs) (hn : ¬ 20 < n) (V V2 : Nat) (ci : ∀ w, Calls Try.prog 15 #[grp P Q G H, num Z] w fun e w' => e = .returned (.tuple #[num V, .int .i64 0]) ∧ Below w.heap.size w w') (ca : ∀ w, Calls Try.prog 12 #[grp P Q G H, num X, num Y] w fun e w' => e = .returned (.tuple #[num V2, .int .i64 1]) ∧ Below w.heap.size w w') (hb : wtsB Q X xs = true) (hu : AllU Q xs) : Calls Try.prog 6 #[grp P Q G H, .slice pa n cap, arr3 X Y Z] w0 fun e w' => e = .returned (.bool true) ∧ Below w0.heap.size w0 w' := by
  refine sx_enter (args := [grp P Q G H, .slice pa n cap, arr3 X Y Z]) Try.func6 rfl Try.ntmps6 (by rfl) fun a F HM => ?_
  repeat (first | refine ex_then ?_ | refine ex_block ?_ | refine wp_seq ?_ | refine wp_block ?_ | refine wp_skip ?_)
  refine wp_region_lit ?_
  refine lx_new F HM (wanted_none rfl _) rfl (by rfl) (o_boxG (F.ev rfl)) fun a w gg F HM => ?_
  refine lx_new F HM (wanted_none rfl _) rfl (by rfl) (o_box3 (F.ev rfl)) fun a w gz F HM => ?_
  refine lx_value (v := .bool false) F (wanted_none rfl _) rfl (by rfl) (o_assign rfl) fun a F => ?_
  refine lx_nil ?_
  repeat (first | refine ex_then ?_ | refine ex_block ?_ | refine wp_seq ?_ | refine wp_block ?_ | refine wp_skip ?_)
  refine wp_region_lit ?_
  refine lx_call F (wanted_none rfl _) rfl (by rfl) (run_callF Try.func7 (by kernel_rfl) (by rfl) .nil _) (alive10_any _) fun a w z F => ?_
  replace HM := HM.on z
  clear z
  refine lx_value (v := .bool false) F (wanted_none rfl _) rfl (by rfl) (o_not (b := true) (r := false) (F.ev rfl) rfl) fun a F => ?_
  refine lx_value (v := .bool false) F (wanted_none rfl _) rfl (by rfl) (o_move (F.ev rfl)) fun a F => ?_
  refine lx_value (v := .slice pa n cap) F (F.want (t := 28) (c := false) rfl rfl rfl (by rfl) rfl) rfl (by rfl) (o_move (F.ev rfl)) fun a F => ?_
  refine lx_value (v := .int .i64 (n : Nat)) F (F.want (t := 28) (c := false) rfl rfl rfl (by rfl) rfl) rfl (by rfl) (o_len (F.ev rfl)) fun a F => ?_
  refine lx_value (v := .bool false) F (F.want (t := 28) (c := false) rfl rfl rfl (by rfl) rfl) rfl (by rfl) (o_bin (u := .int .i64 (n : Nat)) (v := .int .i64 20) (fun ρ hx hy => by simp only [execOp, hx, hy]; simp [go_sem]; omega) (F.ev rfl) rfl) fun a F => ?_
  refine lx_value (v := .bool false) F (wanted_none rfl _) rfl (by rfl) (o_pick (b := false) (r := .bool false) (F.ev rfl) rfl (F.ev rfl) rfl) fun a F => ?_
  refine lx_nil ?_
  repeat (first | refine ex_then ?_ | refine ex_block ?_ | refine wp_seq ?_ | refine wp_block ?_ | refine wp_skip ?_)
  refine wp_cond_false (F.ev rfl) ?_
  repeat (first | refine ex_then ?_ | refine ex_block ?_ | refine wp_seq ?_ | refine wp_block ?_ | refine wp_skip ?_)
  refine wp_region_lit ?_
  refine lx_value (v := grp P Q G H) F (wanted_none rfl _) rfl (by rfl) (o_loadG (F.ev rfl) (HM.get 1 rfl)) fun a F => ?_
  refine lx_value (v := .slice pa n cap) F (wanted_none rfl _) rfl (by rfl) (o_move (F.ev rfl)) fun a F => ?_
  refine lx_value (v := .pointer (some ⟨gz, 0, none⟩)) F (wanted_none rfl _) rfl (by rfl) (o_idx30 (F.ev rfl) rfl) fun a F => ?_
  refine lx_value (v := num X) F (wanted_none rfl _) rfl (by rfl) (o_load30 (F.ev rfl) (HM.get 0 rfl)) fun a F => ?_
  refine lx_callE F (wanted_none rfl _) rfl (by rfl) (run_callF Try.func14 (by kernel_rfl) (by rfl) (.cons (F.ev rfl) (.cons (F.ev rfl) (.cons (F.ev rfl) .nil))) _) ((wts_any P Q G H X n cap pa xs _ hQ hX (r.call HM.bel HM.bel.size) (by omega) hb).mono (fun e w2 h => wts_ex (h.1 hu))) fun a w u hu F => ?_
  obtain ⟨z, gw, ws, cw, rfl, hg, hat, hpw, hws⟩ := hu
  have hne := bel_lt HM hg
  have hge := Nat.le_trans (Nat.le_trans HM.le HM.bel.size) hg
  replace HM := (HM.on z).add hge (fun x hx => hne x hx) hat
  clear hne hge hg z hat
  refine lx_value (v := .tuple #[.slice (some ⟨gw, 0, none⟩) n n, .int .i64 0]) F (wanted_none rfl _) rfl (by rfl) (o_move (F.ev rfl)) fun a F => ?_
  refine lx_value (v := .slice (some ⟨gw, 0, none⟩) n n) F (wanted_none rfl _) rfl (by rfl) (o_extract (F.ev rfl) rfl) fun a F => ?_
  refine lx_value (v := .int .i64 0) F (wanted_none rfl _) rfl (by rfl) (o_extract (F.ev rfl) rfl) fun a F => ?_
  refine lx_value (v := .slice (some ⟨gw, 0, none⟩) n n) F (wanted_none rfl _) rfl (by rfl) (o_assign (F.ev rfl)) fun a F => ?_
  refine lx_value (v := .int .i64 0) F (wanted_none rfl _) rfl (by rfl) (o_assign (F.ev rfl)) fun a F => ?_
  refine lx_nil ?_
  repeat (first | refine ex_then ?_ | refine ex_block ?_ | refine wp_seq ?_ | refine wp_block ?_ | refine wp_skip ?_)
  refine wp_region_lit ?_
  refine lx_value (v := grp P Q G H) F (wanted_none rfl _) rfl (by rfl) (o_loadG (F.ev rfl) (HM.get 2 rfl)) fun a F => ?_
  refine lx_value (v := .pointer (some ⟨gz, 8, none⟩)) F (wanted_none rfl _) rfl (by rfl) (o_idx32 (F.ev rfl) rfl) fun a F => ?_
  refine lx_value (v := num Z) F (wanted_none rfl _) rfl (by rfl) (o_load32 (F.ev rfl) (HM.get 1 rfl)) fun a F => ?_
  refine lx_call F (wanted_none rfl _) rfl (by rfl) (run_callF Try.func15 (by kernel_rfl) (by rfl) (.cons (F.ev rfl) (.cons (F.ev rfl) .nil)) _) (ci _) fun a w z F => ?_
  replace HM := HM.on z
  clear z
  refine lx_value (v := .tuple #[num V, .int .i64 0]) F (wanted_none rfl _) rfl (by rfl) (o_move (F.ev rfl)) fun a F => ?_
  refine lx_value (v := num V) F (wanted_none rfl _) rfl (by rfl) (o_extract (F.ev rfl) rfl) fun a F => ?_
  refine lx_value (v := .int .i64 0) F (wanted_none rfl _) rfl (by rfl) (o_extract (F.ev rfl) rfl) fun a F => ?_
  refine lx_new F HM (wanted_none rfl _) rfl (by rfl) (o_allocN) fun a w gi F HM => ?_
  refine lx_store F HM (wanted_none rfl _) rfl (k := 0) rfl (o_storeN (F.ev rfl) (F.ev rfl) (HM.get 0 rfl)) (M2 := [(gi, 24, ncs V), (gw, 24, cw), (gz, 41, a3cs X Y Z), (gg, 26, gcs P Q G H)]) (rfl) fun w HM => ?_
  refine lx_value (v := .int .i64 0) F (wanted_none rfl _) rfl (by rfl) (o_assign (F.ev rfl)) fun a F => ?_
  refine lx_nil ?_
  repeat (first | refine ex_then ?_ | refine ex_block ?_ | refine wp_seq ?_ | refine wp_block ?_ | refine wp_skip ?_)
  refine wp_region_lit ?_
  refine lx_value (v := grp P Q G H) F (wanted_none rfl _) rfl (by rfl) (o_loadG (F.ev rfl) (HM.get 3 rfl)) fun a F => ?_
  refine lx_value (v := .pointer (some ⟨gz, 0, none⟩)) F (wanted_none rfl _) rfl (by rfl) (o_idx30 (F.ev rfl) rfl) fun a F => ?_
  refine lx_value (v := num X) F (wanted_none rfl _) rfl (by rfl) (o_load30 (F.ev rfl) (HM.get 2 rfl)) fun a F => ?_
  refine lx_value (v := .pointer (some ⟨gz, 4, none⟩)) F (wanted_none rfl _) rfl (by rfl) (o_idx31 (F.ev rfl) rfl) fun a F => ?_
  refine lx_value (v := num Y) F (wanted_none rfl _) rfl (by rfl) (o_load31 (F.ev rfl) (HM.get 2 rfl)) fun a F => ?_
  refine lx_call F (wanted_none rfl _) rfl (by rfl) (run_callF Try.func12 (by kernel_rfl) (by rfl) (.cons (F.ev rfl) (.cons (F.ev rfl) (.cons (F.ev rfl) .nil))) _) (ca _) fun a w z F => ?_
  replace HM := HM.on z
  clear z
  refine lx_value (v := .tuple #[num V2, .int .i64 1]) F (wanted_none rfl _) rfl (by rfl) (o_move (F.ev rfl)) fun a F => ?_
  refine lx_value (v := num V2) F (wanted_none rfl _) rfl (by rfl) (o_extract (F.ev rfl) rfl) fun a F => ?_
  refine lx_value (v := .int .i64 1) F (wanted_none rfl _) rfl (by rfl) (o_extract (F.ev rfl) rfl) fun a F => ?_
  refine lx_new F HM (wanted_none rfl _) rfl (by rfl) (o_allocN) fun a w gp F HM => ?_
  refine lx_store F HM (wanted_none rfl _) rfl (k := 0) rfl (o_storeN (F.ev rfl) (F.ev rfl) (HM.get 0 rfl)) (M2 := [(gp, 24, ncs V2), (gi, 24, ncs V), (gw, 24, cw), (gz, 41, a3cs X Y Z), (gg, 26, gcs P Q G H)]) (rfl) fun w HM => ?_
  refine lx_value (v := .int .i64 1) F (wanted_none rfl _) rfl (by rfl) (o_assign (F.ev rfl)) fun a F => ?_
  refine lx_nil ?_
  repeat (first | refine ex_then ?_ | refine ex_block ?_ | refine wp_seq ?_ | refine wp_block ?_ | refine wp_skip ?_)
  refine wp_region_lit ?_
  refine lx_value (v := .int .i64 0) F (wanted_none rfl _) rfl (by rfl) (o_move (F.ev rfl)) fun a F => ?_
  refine lx_value (v := .bool false) F (wanted_none rfl _) rfl (by rfl) (o_bin (u := .int .i64 0) (v := .int .i64 0) (fun ρ hx hy => by simp only [execOp, hx, hy]; simp [go_sem]) (F.ev rfl) rfl) fun a F => ?_
  refine lx_value (v := .bool false) F (wanted_none rfl _) rfl (by rfl) (o_move (F.ev rfl)) fun a F => ?_
  refine lx_value (v := .int .i64 0) F (F.want (t := 60) (c := false) rfl rfl rfl (by rfl) rfl) rfl (by rfl) (o_move (F.ev rfl)) fun a F => ?_
  refine lx_value (v := .bool false) F (F.want (t := 60) (c := false) rfl rfl rfl (by rfl) rfl) rfl (by rfl) (o_bin (u := .int .i64 0) (v := .int .i64 0) (fun ρ hx hy => by simp only [execOp, hx, hy]; simp [go_sem]) (F.ev rfl) rfl) fun a F => ?_
  refine lx_value (v := .bool false) F (wanted_none rfl _) rfl (by rfl) (o_pick (b := false) (r := .bool false) (F.ev rfl) rfl (F.ev rfl) rfl) fun a F => ?_
  refine lx_value (v := .bool false) F (wanted_none rfl _) rfl (by rfl) (o_move (F.ev rfl)) fun a F => ?_
  refine lx_value (v := .int .i64 1) F (F.want (t := 64) (c := false) rfl rfl rfl (by rfl) rfl) rfl (by rfl) (o_move (F.ev rfl)) fun a F => ?_
  refine lx_value (v := .bool true) F (F.want (t := 64) (c := false) rfl rfl rfl (by rfl) rfl) rfl (by rfl) (o_bin (u := .int .i64 1) (v := .int .i64 0) (fun ρ hx hy => by simp only [execOp, hx, hy]; simp [go_sem]) (F.ev rfl) rfl) fun a F => ?_
  refine lx_value (v := .bool true) F (wanted_none rfl _) rfl (by rfl) (o_pick (b := false) (r := .bool true) (F.ev rfl) rfl (F.ev rfl) rfl) fun a F => ?_
  refine lx_nil ?_
  repeat (first | refine ex_then ?_ | refine ex_block ?_ | refine wp_seq ?_ | refine wp_block ?_ | refine wp_skip ?_)
  refine wp_cond_true (F.ev rfl) ?_
  repeat (first | refine ex_then ?_ | refine ex_block ?_ | refine wp_seq ?_ | refine wp_block ?_ | refine wp_skip ?_)
  refine wp_region_lit ?_
  refine lx_value (v := .int .i64 0) F (wanted_none rfl _) rfl (by rfl) (o_move (F.ev rfl)) fun a F => ?_
  refine lx_value (v := .bool false) F (wanted_none rfl _) rfl (by rfl) (o_bin (u := .int .i64 0) (v := .int .i64 0) (fun ρ hx hy => by simp only [execOp, hx, hy]; simp [go_sem]) (F.ev rfl) rfl) fun a F => ?_
  refine lx_value (v := .bool false) F (wanted_none rfl _) rfl (by rfl) (o_move (F.ev rfl)) fun a F => ?_
  refine lx_value (v := .int .i64 0) F (F.want (t := 70) (c := false) rfl rfl rfl (by rfl) rfl) rfl (by rfl) (o_move (F.ev rfl)) fun a F => ?_
  refine lx_value (v := .bool false) F (F.want (t := 70) (c := false) rfl rfl rfl (by rfl) rfl) rfl (by rfl) (o_bin (u := .int .i64 0) (v := .int .i64 0) (fun ρ hx hy => by simp only [execOp, hx, hy]; simp [go_sem]) (F.ev rfl) rfl) fun a F => ?_
  refine lx_value (v := .bool false) F (wanted_none rfl _) rfl (by rfl) (o_pick (b := false) (r := .bool false) (F.ev rfl) rfl (F.ev rfl) rfl) fun a F => ?_
  refine lx_value (v := .bool false) F (wanted_none rfl _) rfl (by rfl) (o_move (F.ev rfl)) fun a F => ?_
  refine lx_value (v := .int .i64 1) F (F.want (t := 74) (c := false) rfl rfl rfl (by rfl) rfl) rfl (by rfl) (o_move (F.ev rfl)) fun a F => ?_
  refine lx_value (v := .bool true) F (F.want (t := 74) (c := false) rfl rfl rfl (by rfl) rfl) rfl (by rfl) (o_bin (u := .int .i64 1) (v := .int .i64 1) (fun ρ hx hy => by simp only [execOp, hx, hy]; simp [go_sem]) (F.ev rfl) rfl) fun a F => ?_
  refine lx_value (v := .bool true) F (wanted_none rfl _) rfl (by rfl) (o_pick (b := false) (r := .bool true) (F.ev rfl) rfl (F.ev rfl) rfl) fun a F => ?_
  refine lx_value (v := .bool true) F (wanted_none rfl _) rfl (by rfl) (o_assign (F.ev rfl)) fun a F => ?_
  refine lx_nil ?_
  repeat (first | refine ex_then ?_ | refine ex_block ?_ | refine wp_seq ?_ | refine wp_block ?_ | refine wp_skip ?_)
  refine wp_ret ?_
  repeat (first | refine ex_thenR ?_ | refine ex_blockR ?_)
  exact sx_ret F HM (res_tmp F rfl (s := 6) rfl)

theorem same_is3 (n cap m capb : Nat) (pa pb : Option Addr) (xs ys : List Nat) (w0 : World) (h : xs = ys) (r : RN w0.heap.size w0 pa n cap xs) (r2 : RN w0.heap.size w0 pb m capb ys) : Calls Try.prog 10 #[.slice pa n cap, .slice pb m capb] w0 fun e w' => e = .returned (.bool true) ∧ Below w0.heap.size w0 w' := by
  have := same_any n cap m capb pa pb xs ys w0 r r2
  rwa [decide_eq_true h] at this
set_option maxRecDepth 100000 in
set_option maxHeartbeats 800000 in
theorem pmv_ok (P Q G H n cap X Y Z : Nat) (pa : Option Addr) (xs : List Nat) (w0 : World) (hQ : Q < 2 ^ 256) (hX : X < 2 ^ 256) (hY : Y < 2 ^ 256) (hZ : Z < 2 ^ 256) (r : RN w0.heap.size w0 pa n cap xs) (hn : ¬ 20 < n) (V : Nat) (ci : ∀ w, Calls Try.prog 15 #[grp P Q G H, num Z] w fun e w' => e = .returned (.tuple #[num V, .int .i64 0]) ∧ Below w.heap.size w w') (hb : wtsB Q X xs = true) (hu : AllU Q xs) (h1 : 1 < Q) (hXQ : X < Q) (hYQ : Y < Q) (hZQ : Z < Q) (hZu : U Q (Z : Int)) (hxs : ∀ x ∈ xs, x < Q) : Calls Try.prog 6 #[grp P Q G H, .slice pa n cap, arr3 X Y Z] w0 fun e w' => e = .returned (.bool true) ∧ Below w0.heap.size w0 w' := by
  refine sx_enter (args := [grp P Q G H, .slice pa n cap, arr3 X Y Z]) Try.func6 rfl Try.ntmps6 (by rfl) fun a F HM => ?_
  repeat (first | refine ex_then ?_ | refine ex_block ?_ | refine wp_seq ?_ | refine wp_block ?_ | refine wp_skip ?_)
  refine wp_region_lit ?_
  refine lx_new F HM (wanted_none rfl _) rfl (by rfl) (o_boxG (F.ev rfl)) fun a w gg F HM => ?_
  refine lx_new F HM (wanted_none rfl _) rfl (by rfl) (o_box3 (F.ev rfl)) fun a w gz F HM => ?_
  refine lx_value (v := .bool false) F (wanted_none rfl _) rfl (by rfl) (o_assign rfl) fun a F => ?_
  refine lx_nil ?_
  repeat (first | refine ex_then ?_ | refine ex_block ?_ | refine wp_seq ?_ | refine wp_block ?_ | refine wp_skip ?_)
  refine wp_region_lit ?_
  refine lx_call F (wanted_none rfl _) rfl (by rfl) (run_callF Try.func7 (by kernel_rfl) (by rfl) .nil _) (alive10_any _) fun a w z F => ?_
  replace HM := HM.on z
  clear z
  refine lx_value (v := .bool false) F (wanted_none rfl _) rfl (by rfl) (o_not (b := true) (r := false) (F.ev rfl) rfl) fun a F => ?_
  refine lx_value (v := .bool false) F (wanted_none rfl _) rfl (by rfl) (o_move (F.ev rfl)) fun a F => ?_
  refine lx_value (v := .slice pa n cap) F (F.want (t := 28) (c := false) rfl rfl rfl (by rfl) rfl) rfl (by rfl) (o_move (F.ev rfl)) fun a F => ?_
  refine lx_value (v := .int .i64 (n : Nat)) F (F.want (t := 28) (c := false) rfl rfl rfl (by rfl) rfl) rfl (by rfl) (o_len (F.ev rfl)) fun a F => ?_
  refine lx_value (v := .bool false) F (F.want (t := 28) (c := false) rfl rfl rfl (by rfl) rfl) rfl (by rfl) (o_bin (u := .int .i64 (n : Nat)) (v := .int .i64 20) (fun ρ hx hy => by simp only [execOp, hx, hy]; simp [go_sem]; omega) (F.ev rfl) rfl) fun a F => ?_
  refine lx_value (v := .bool false) F (wanted_none rfl _) rfl (by rfl) (o_pick (b := false) (r := .bool false) (F.ev rfl) rfl (F.ev rfl) rfl) fun a F => ?_
  refine lx_nil ?_
  repeat (first | refine ex_then ?_ | refine ex_block ?_ | refine wp_seq ?_ | refine wp_block ?_ | refine wp_skip ?_)
  refine wp_cond_false (F.ev rfl) ?_
  repeat (first | refine ex_then ?_ | refine ex_block ?_ | refine wp_seq ?_ | refine wp_block ?_ | refine wp_skip ?_)
  refine wp_region_lit ?_
  refine lx_value (v := grp P Q G H) F (wanted_none rfl _) rfl (by rfl) (o_loadG (F.ev rfl) (HM.get 1 rfl)) fun a F => ?_
  refine lx_value (v := .slice pa n cap) F (wanted_none rfl _) rfl (by rfl) (o_move (F.ev rfl)) fun a F => ?_
  refine lx_value (v := .pointer (some ⟨gz, 0, none⟩)) F (wanted_none rfl _) rfl (by rfl) (o_idx30 (F.ev rfl) rfl) fun a F => ?_
  refine lx_value (v := num X) F (wanted_none rfl _) rfl (by rfl) (o_load30 (F.ev rfl) (HM.get 0 rfl)) fun a F => ?_
  refine lx_callE F (wanted_none rfl _) rfl (by rfl) (run_callF Try.func14 (by kernel_rfl) (by rfl) (.cons (F.ev rfl) (.cons (F.ev rfl) (.cons (F.ev rfl) .nil))) _) ((wts_any P Q G H X n cap pa xs _ hQ hX (r.call HM.bel HM.bel.size) (by omega) hb).mono (fun e w2 h => wts_ex (h.1 hu))) fun a w u hu F => ?_
  obtain ⟨z, gw, ws, cw, rfl, hg, hat, hpw, hws⟩ := hu
  have hne := bel_lt HM hg
  have hge := Nat.le_trans (Nat.le_trans HM.le HM.bel.size) hg
  replace HM := (HM.on z).add hge (fun x hx => hne x hx) hat
  clear hne hge hg z hat
  refine lx_value (v := .tuple #[.slice (some ⟨gw, 0, none⟩) n n, .int .i64 0]) F (wanted_none rfl _) rfl (by rfl) (o_move (F.ev rfl)) fun a F => ?_
  refine lx_value (v := .slice (some ⟨gw, 0, none⟩) n n) F (wanted_none rfl _) rfl (by rfl) (o_extract (F.ev rfl) rfl) fun a F => ?_
  refine lx_value (v := .int .i64 0) F (wanted_none rfl _) rfl (by rfl) (o_extract (F.ev rfl) rfl) fun a F => ?_
  refine lx_value (v := .slice (some ⟨gw, 0, none⟩) n n) F (wanted_none rfl _) rfl (by rfl) (o_assign (F.ev rfl)) fun a F => ?_
  refine lx_value (v := .int .i64 0) F (wanted_none rfl _) rfl (by rfl) (o_assign (F.ev rfl)) fun a F => ?_
  refine lx_nil ?_
  repeat (first | refine ex_then ?_ | refine ex_block ?_ | refine wp_seq ?_ | refine wp_block ?_ | refine wp_skip ?_)
  refine wp_region_lit ?_
  refine lx_value (v := grp P Q G H) F (wanted_none rfl _) rfl (by rfl) (o_loadG (F.ev rfl) (HM.get 2 rfl)) fun a F => ?_
  refine lx_value (v := .pointer (some ⟨gz, 8, none⟩)) F (wanted_none rfl _) rfl (by rfl) (o_idx32 (F.ev rfl) rfl) fun a F => ?_
  refine lx_value (v := num Z) F (wanted_none rfl _) rfl (by rfl) (o_load32 (F.ev rfl) (HM.get 1 rfl)) fun a F => ?_
  refine lx_call F (wanted_none rfl _) rfl (by rfl) (run_callF Try.func15 (by kernel_rfl) (by rfl) (.cons (F.ev rfl) (.cons (F.ev rfl) .nil)) _) (ci _) fun a w z F => ?_
  replace HM := HM.on z
  clear z
  refine lx_value (v := .tuple #[num V, .int .i64 0]) F (wanted_none rfl _) rfl (by rfl) (o_move (F.ev rfl)) fun a F => ?_
  refine lx_value (v := num V) F (wanted_none rfl _) rfl (by rfl) (o_extract (F.ev rfl) rfl) fun a F => ?_
  refine lx_value (v := .int .i64 0) F (wanted_none rfl _) rfl (by rfl) (o_extract (F.ev rfl) rfl) fun a F => ?_
  refine lx_new F HM (wanted_none rfl _) rfl (by rfl) (o_allocN) fun a w gi F HM => ?_
  refine lx_store F HM (wanted_none rfl _) rfl (k := 0) rfl (o_storeN (F.ev rfl) (F.ev rfl) (HM.get 0 rfl)) (M2 := [(gi, 24, ncs V), (gw, 24, cw), (gz, 41, a3cs X Y Z), (gg, 26, gcs P Q G H)]) (rfl) fun w HM => ?_
  refine lx_value (v := .int .i64 0) F (wanted_none rfl _) rfl (by rfl) (o_assign (F.ev rfl)) fun a F => ?_
  refine lx_nil ?_
  repeat (first | refine ex_then ?_ | refine ex_block ?_ | refine wp_seq ?_ | refine wp_block ?_ | refine wp_skip ?_)
  refine wp_region_lit ?_
  refine lx_value (v := grp P Q G H) F (wanted_none rfl _) rfl (by rfl) (o_loadG (F.ev rfl) (HM.get 3 rfl)) fun a F => ?_
  refine lx_value (v := .pointer (some ⟨gz, 0, none⟩)) F (wanted_none rfl _) rfl (by rfl) (o_idx30 (F.ev rfl) rfl) fun a F => ?_
  refine lx_value (v := num X) F (wanted_none rfl _) rfl (by rfl) (o_load30 (F.ev rfl) (HM.get 2 rfl)) fun a F => ?_
  refine lx_value (v := .pointer (some ⟨gz, 4, none⟩)) F (wanted_none rfl _) rfl (by rfl) (o_idx31 (F.ev rfl) rfl) fun a F => ?_
  refine lx_value (v := num Y) F (wanted_none rfl _) rfl (by rfl) (o_load31 (F.ev rfl) (HM.get 2 rfl)) fun a F => ?_
  refine lx_call F (wanted_none rfl _) rfl (by rfl) (run_callF Try.func12 (by kernel_rfl) (by rfl) (.cons (F.ev rfl) (.cons (F.ev rfl) (.cons (F.ev rfl) .nil))) _) ((sadd_yes P Q G H X Y hQ h1 hXQ hYQ) _) fun a w z F => ?_
  replace HM := HM.on z
  clear z
  refine lx_value (v := .tuple #[num (((X + Y) % Q)), .int .i64 0]) F (wanted_none rfl _) rfl (by rfl) (o_move (F.ev rfl)) fun a F => ?_
  refine lx_value (v := num (((X + Y) % Q))) F (wanted_none rfl _) rfl (by rfl) (o_extract (F.ev rfl) rfl) fun a F => ?_
  refine lx_value (v := .int .i64 0) F (wanted_none rfl _) rfl (by rfl) (o_extract (F.ev rfl) rfl) fun a F => ?_
  refine lx_new F HM (wanted_none rfl _) rfl (by rfl) (o_allocN) fun a w gp F HM => ?_
  refine lx_store F HM (wanted_none rfl _) rfl (k := 0) rfl (o_storeN (F.ev rfl) (F.ev rfl) (HM.get 0 rfl)) (M2 := [(gp, 24, ncs (((X + Y) % Q))), (gi, 24, ncs V), (gw, 24, cw), (gz, 41, a3cs X Y Z), (gg, 26, gcs P Q G H)]) (rfl) fun w HM => ?_
  refine lx_value (v := .int .i64 0) F (wanted_none rfl _) rfl (by rfl) (o_assign (F.ev rfl)) fun a F => ?_
  refine lx_nil ?_
  repeat (first | refine ex_then ?_ | refine ex_block ?_ | refine wp_seq ?_ | refine wp_block ?_ | refine wp_skip ?_)
  refine wp_region_lit ?_
  refine lx_value (v := .int .i64 0) F (wanted_none rfl _) rfl (by rfl) (o_move (F.ev rfl)) fun a F => ?_
  refine lx_value (v := .bool false) F (wanted_none rfl _) rfl (by rfl) (o_bin (u := .int .i64 0) (v := .int .i64 0) (fun ρ hx hy => by simp only [execOp, hx, hy]; simp [go_sem]) (F.ev rfl) rfl) fun a F => ?_
  refine lx_value (v := .bool false) F (wanted_none rfl _) rfl (by rfl) (o_move (F.ev rfl)) fun a F => ?_
  refine lx_value (v := .int .i64 0) F (F.want (t := 60) (c := false) rfl rfl rfl (by rfl) rfl) rfl (by rfl) (o_move (F.ev rfl)) fun a F => ?_
  refine lx_value (v := .bool false) F (F.want (t := 60) (c := false) rfl rfl rfl (by rfl) rfl) rfl (by rfl) (o_bin (u := .int .i64 0) (v := .int .i64 0) (fun ρ hx hy => by simp only [execOp, hx, hy]; simp [go_sem]) (F.ev rfl) rfl) fun a F => ?_
  refine lx_value (v := .bool false) F (wanted_none rfl _) rfl (by rfl) (o_pick (b := false) (r := .bool false) (F.ev rfl) rfl (F.ev rfl) rfl) fun a F => ?_
  refine lx_value (v := .bool false) F (wanted_none rfl _) rfl (by rfl) (o_move (F.ev rfl)) fun a F => ?_
  refine lx_value (v := .int .i64 0) F (F.want (t := 64) (c := false) rfl rfl rfl (by rfl) rfl) rfl (by rfl) (o_move (F.ev rfl)) fun a F => ?_
  refine lx_value (v := .bool false) F (F.want (t := 64) (c := false) rfl rfl rfl (by rfl) rfl) rfl (by rfl) (o_bin (u := .int .i64 0) (v := .int .i64 0) (fun ρ hx hy => by simp only [execOp, hx, hy]; simp [go_sem]) (F.ev rfl) rfl) fun a F => ?_
  refine lx_value (v := .bool false) F (wanted_none rfl _) rfl (by rfl) (o_pick (b := false) (r := .bool false) (F.ev rfl) rfl (F.ev rfl) rfl) fun a F => ?_
  refine lx_nil ?_
  repeat (first | refine ex_then ?_ | refine ex_block ?_ | refine wp_seq ?_ | refine wp_block ?_ | refine wp_skip ?_)
  refine wp_cond_false (F.ev rfl) ?_
  repeat (first | refine ex_then ?_ | refine ex_block ?_ | refine wp_seq ?_ | refine wp_block ?_ | refine wp_skip ?_)
  refine wp_region_lit ?_
  refine lx_value (v := grp P Q G H) F (wanted_none rfl _) rfl (by rfl) (o_loadG (F.ev rfl) (HM.get 4 rfl)) fun a F => ?_
  refine lx_value (v := .pointer (some ⟨gz, 0, none⟩)) F (wanted_none rfl _) rfl (by rfl) (o_idx30 (F.ev rfl) rfl) fun a F => ?_
  refine lx_value (v := num X) F (wanted_none rfl _) rfl (by rfl) (o_load30 (F.ev rfl) (HM.get 3 rfl)) fun a F => ?_
  refine lx_value (v := .pointer (some ⟨gz, 8, none⟩)) F (wanted_none rfl _) rfl (by rfl) (o_idx32 (F.ev rfl) rfl) fun a F => ?_
  refine lx_value (v := num Z) F (wanted_none rfl _) rfl (by rfl) (o_load32 (F.ev rfl) (HM.get 3 rfl)) fun a F => ?_
  refine lx_call F (wanted_none rfl _) rfl (by rfl) (run_callF Try.func13 (by kernel_rfl) (by rfl) (.cons (F.ev rfl) (.cons (F.ev rfl) (.cons (F.ev rfl) .nil))) _) ((smul_yes P Q G H X Z hQ h1 hXQ hZQ) _) fun a w z F => ?_
  replace HM := HM.on z
  clear z
  refine lx_value (v := .tuple #[num ((X * Z % Q)), .int .i64 0]) F (wanted_none rfl _) rfl (by rfl) (o_move (F.ev rfl)) fun a F => ?_
  refine lx_value (v := num ((X * Z % Q))) F (wanted_none rfl _) rfl (by rfl) (o_extract (F.ev rfl) rfl) fun a F => ?_
  refine lx_value (v := .int .i64 0) F (wanted_none rfl _) rfl (by rfl) (o_extract (F.ev rfl) rfl) fun a F => ?_
  refine lx_new F HM (wanted_none rfl _) rfl (by rfl) (o_allocN) fun a w gt F HM => ?_
  refine lx_store F HM (wanted_none rfl _) rfl (k := 0) rfl (o_storeN (F.ev rfl) (F.ev rfl) (HM.get 0 rfl)) (M2 := [(gt, 24, ncs ((X * Z % Q))), (gp, 24, ncs (((X + Y) % Q))), (gi, 24, ncs V), (gw, 24, cw), (gz, 41, a3cs X Y Z), (gg, 26, gcs P Q G H)]) (rfl) fun w HM => ?_
  refine lx_value (v := .int .i64 0) F (wanted_none rfl _) rfl (by rfl) (o_assign (F.ev rfl)) fun a F => ?_
  refine lx_nil ?_
  repeat (first | refine ex_then ?_ | refine ex_block ?_ | refine wp_seq ?_ | refine wp_block ?_ | refine wp_skip ?_)
  refine wp_region_lit ?_
  refine lx_value (v := .slice none 0 0) F (wanted_none rfl _) rfl (by rfl) (o_assign rfl) fun a F => ?_
  refine lx_value (v := .slice none 0 0) F (wanted_none rfl _) rfl (by rfl) (o_assign rfl) fun a F => ?_
  refine lx_nil ?_
  repeat (first | refine ex_then ?_ | refine ex_block ?_ | refine wp_seq ?_ | refine wp_block ?_ | refine wp_skip ?_)
  refine wp_region_lit ?_
  refine lx_value (v := .int .i64 0) F (wanted_none rfl _) rfl (by rfl) (o_assign rfl) fun a F => ?_
  refine lx_nil ?_
  repeat (first | refine ex_then ?_ | refine ex_block ?_ | refine wp_seq ?_ | refine wp_block ?_ | refine wp_skip ?_)
  replace HM := HM.erase 2 (M2 := [(gt, 24, ncs ((X * Z % Q))), (gp, 24, ncs (((X + Y) % Q))), (gw, 24, cw), (gz, 41, a3cs X Y Z), (gg, 26, gcs P Q G H)]) rfl
  refine wp_loop (fun a w => ∃ (i : Nat) (v v1 : Value) (R : List (Nat × TypeId × Array Value)), i ≤ n ∧ LR R v ((xs.map fun x => (x + Y) % Q).take i) ∧ LR R v1 ((xs.map fun x => x * Z % Q).take i) ∧ Dj v v1 ∧ Fr a 163 [(17, .int .i64 (i : Nat)), (1, .slice pa n cap), (15, v), (16, v1), (3, .pointer (some ⟨gg, 0, none⟩)), (5, .pointer (some ⟨gz, 0, none⟩)), (7, .slice (some ⟨gw, 0, none⟩) n n), (11, .pointer (some ⟨gp, 0, none⟩)), (13, .pointer (some ⟨gt, 0, none⟩)), (14, .int .i64 0)] [] ∧ Mem w0.heap.size w0 w ((gt, 24, ncs ((X * Z % Q))) :: (gp, 24, ncs (((X + Y) % Q))) :: (gw, 24, cw) :: (gz, 41, a3cs X Y Z) :: (gg, 26, gcs P Q G H) :: R)) (fun a _ => n - (intOf (a.tmps.getD 17 undef)).toNat) ⟨0, _, _, [], Nat.zero_le _, LR.nil _, LR.nil _, dj_nil _, F.sub [17, 1, 15, 16, 3, 5, 7, 11, 13, 14], HM⟩ ?_
  clear F HM
  rintro aS wS ⟨i, v, v1, R, hi, lv, lu, dd, FS, HM⟩
  have F := FS
  by_cases hlt : i < n
  · repeat (first | refine ex_then ?_ | refine ex_block ?_ | refine wp_seq ?_ | refine wp_block ?_ | refine wp_skip ?_)
    refine wp_region_lit ?_
    refine lx_value (v := .int .i64 (i : Nat)) F (wanted_none rfl _) rfl (by rfl) (o_move (F.ev rfl)) fun a F => ?_
    refine lx_value (v := .slice pa n cap) F (wanted_none rfl _) rfl (by rfl) (o_move (F.ev rfl)) fun a F => ?_
    refine lx_value (v := .int .i64 (n : Nat)) F (wanted_none rfl _) rfl (by rfl) (o_len (F.ev rfl)) fun a F => ?_
    refine lx_value (v := .bool true) F (wanted_none rfl _) rfl (by rfl) (o_bin (u := .int .i64 (i : Nat)) (v := .int .i64 (n : Nat)) (fun ρ hx hy => by simp only [execOp, hx, hy]; simp [go_sem]; omega) (F.ev rfl) (F.ev rfl)) fun a F => ?_
    refine lx_nil ?_
    repeat (first | refine ex_then ?_ | refine ex_block ?_ | refine wp_seq ?_ | refine wp_block ?_ | refine wp_skip ?_)
    refine wp_cond_true (F.ev rfl) ?_
    have hwr := r.room hlt
    obtain ⟨gl, ol, hpa, hil, hxb, hc⟩ := r.get hlt
    have hxQ := hxs _ (List.getElem_mem hil)
    have tk1 : (xs.map fun x => (x + Y) % Q).take (i + 1) = (xs.map fun x => (x + Y) % Q).take i ++ [(xs[i] + Y) % Q] := by rw [List.take_succ_eq_append_getElem (by simpa using hil)]; simp
    have tk2 : (xs.map fun x => x * Z % Q).take (i + 1) = (xs.map fun x => x * Z % Q).take i ++ [xs[i] * Z % Q] := by rw [List.take_succ_eq_append_getElem (by simpa using hil)]; simp
    generalize xs[i] = x at *
    have hl1 : ((xs.map fun x => (x + Y) % Q).take i).length = i := by simp; omega
    have hl2 : ((xs.map fun x => x * Z % Q).take i).length = i := by simp; omega
    repeat (first | refine ex_then ?_ | refine ex_block ?_ | refine wp_seq ?_ | refine wp_block ?_ | refine wp_skip ?_)
    refine sx_enterR (S := fun w' => Mem _ _ w' ((gt, 24, ncs ((X * Z % Q))) :: (gp, 24, ncs (((X + Y) % Q))) :: (gw, 24, cw) :: (gz, 41, a3cs X Y Z) :: (gg, 26, gcs P Q G H) :: R)) HM (fun _ h => h) (by kernel_rfl) fun w HM HBW => ?_
    clear HBW
    try simp only [List.append_eq, List.cons_append, List.nil_append]
    refine sx_batch [⟨0, 94, [], .val (grp P Q G H), true⟩,
      ⟨1, 95, [0], .val (.slice pa n cap), true⟩,
      ⟨2, 96, [1], .val (.int .i64 (i : Nat)), true⟩,
      ⟨3, 97, [1, 2], .val (.pointer (some ⟨gl, ol + i * 4, none⟩)), true⟩,
      ⟨4, 98, [3], .val (num x), true⟩,
      ⟨5, 99, [4], .val (.pointer (some ⟨gz, 4, none⟩)), true⟩,
      ⟨6, 100, [5], .val (num Y), true⟩,
      ⟨11, 18, [], .cell 24 (ncs 0), false⟩,
      ⟨7, 101, [0, 4, 6], .val (.tuple #[num (((x + Y) % Q)), .int .i64 0]), false⟩,
      ⟨8, 93, [8], .val (.tuple #[num (((x + Y) % Q)), .int .i64 0]), true⟩,
      ⟨9, 102, [9], .val (num (((x + Y) % Q))), true⟩,
      ⟨10, 103, [9, 10], .val (.int .i64 0), true⟩] 2 _ F HM (fun _ h => h.subl (by first | exact List.Sublist.refl _ | (repeat (first | exact List.Sublist.refl _ | refine List.Sublist.cons_cons _ ?_ | refine List.Sublist.cons _ ?_)))) (by kernel_rfl) (by rfl) ?_ ?_ ?_ ?_ ?_ ?_ ?_
    · kernel_rfl
    · exact of_decide_eq_true (by kernel_rfl)
    · exact all_cons ⟨_, by rfl, by rfl⟩ (all_cons ⟨_, by rfl, by rfl⟩ (all_cons ⟨_, by rfl, by rfl⟩ (all_cons ⟨_, by rfl, by rfl⟩ (all_cons ⟨_, by rfl, by rfl⟩ (all_cons ⟨_, by rfl, by rfl⟩ (all_cons ⟨_, by rfl, by rfl⟩ (all_cons ⟨_, by rfl, by rfl⟩ (all_cons ⟨_, by rfl, by rfl⟩ (all_cons ⟨_, by rfl, by rfl⟩ (all_cons ⟨_, by rfl, by rfl⟩ (all_cons ⟨_, by rfl, by rfl⟩ (all_nil))))))))))))
    · kernel_rfl
    · refine all_cons ?_ (all_cons ?_ (all_cons ?_ (all_cons ?_ (all_cons ?_ (all_cons ?_ (all_cons ?_ (all_cons ?_ (all_cons ?_ (all_cons ?_ (all_cons ?_ (all_cons ?_ (all_nil))))))))))))
      · exact coreS _ _ _ _ _ _ _ (by rfl) (by rfl) (wants_none) (fun ρ w kn hs => o_loadG (kn _ _ (F.old (by rfl) rfl)) (hs.get 4 rfl))
      · exact coreS _ _ _ _ _ _ _ (by rfl) (by rfl) (wants_none) (fun ρ w kn hs => o_move (kn _ _ (F.old (by rfl) rfl)))
      · exact coreS _ _ _ _ _ _ _ (by rfl) (by rfl) (wants_none) (fun ρ w kn hs => o_move (kn _ _ (F.old (by rfl) rfl)))
      · exact coreS _ _ _ _ _ _ _ (by rfl) (by rfl) (wants_none) (fun ρ w kn hs => o_idxN hlt (by rw [← hpa]; exact (kn _ _ (known_core 1 95 _ _ (of_decide_eq_true (by rfl)) (by rfl) (by rfl) (by rfl)))) (kn _ _ (known_core 2 96 _ _ (of_decide_eq_true (by rfl)) (by rfl) (by rfl) (by rfl))))
      · exact coreS _ _ _ _ _ _ _ (by rfl) (by rfl) (wants_none) (fun ρ w kn hs => o_loadC (kn _ _ (known_core 3 97 _ _ (of_decide_eq_true (by rfl)) (by rfl) (by rfl) (by rfl))) (hc _ hs.bel))
      · exact coreS _ _ _ _ _ _ _ (by rfl) (by rfl) (wants_none) (fun ρ w kn hs => o_idx31 (kn _ _ (F.old (by rfl) rfl)) (kn _ _ (known_const _)))
      · exact coreS _ _ _ _ _ _ _ (by rfl) (by rfl) (wants_none) (fun ρ w kn hs => o_load31 (kn _ _ (known_core 5 99 _ _ (of_decide_eq_true (by rfl)) (by rfl) (by rfl) (by rfl))) (hs.get 3 rfl))
      · exact core_pureAs _ (by rfl)
      · exact core_pureAs _ (by rfl)
      · exact coreS _ _ _ _ _ _ _ (by rfl) (by rfl) (wants_none) (fun ρ w kn hs => o_move (kn _ _ (known_core 8 101 _ _ (of_decide_eq_true (by rfl)) (by rfl) (by rfl) (by rfl))))
      · exact coreS _ _ _ _ _ _ _ (by rfl) (by rfl) (wants_none) (fun ρ w kn hs => o_extract (kn _ _ (known_core 9 93 _ _ (of_decide_eq_true (by rfl)) (by rfl) (by rfl) (by rfl))) rfl)
      · exact coreS _ _ _ _ _ _ _ (by rfl) (by rfl) (wants_none) (fun ρ w kn hs => o_extract (kn _ _ (known_core 9 93 _ _ (of_decide_eq_true (by rfl)) (by rfl) (by rfl) (by rfl))) rfl)
    · refine all_cons ?_ (all_cons ?_ (all_cons ?_ (all_cons ?_ (all_cons ?_ (all_cons ?_ (all_cons ?_ (all_cons ?_ (all_cons ?_ (all_cons ?_ (all_cons ?_ (all_cons ?_ (all_nil))))))))))))
      · exact core_stepAs _ (by rfl)
      · exact core_stepAs _ (by rfl)
      · exact core_stepAs _ (by rfl)
      · exact core_stepAs _ (by rfl)
      · exact core_stepAs _ (by rfl)
      · exact core_stepAs _ (by rfl)
      · exact core_stepAs _ (by rfl)
      · exact fun _ => core_new _ _ _ _ _ _ _ _ (by rfl) (by rfl) (Nat.le_refl _) (fun ρ w => o_allocN)
      · exact fun _ => coreG_call _ 12 _ _ [.tmp 94, .tmp 98, .tmp 100] _ _ _ _ _ _ _ (by rfl) Try.func12 (by kernel_rfl) (by rfl) (by rfl) (wants_none) (.cons (known_core 0 94 _ _ (of_decide_eq_true (by rfl)) (by rfl) (by rfl) (by rfl)) (.cons (known_core 4 98 _ _ (of_decide_eq_true (by rfl)) (by rfl) (by rfl) (by rfl)) (.cons (known_core 6 100 _ _ (of_decide_eq_true (by rfl)) (by rfl) (by rfl) (by rfl)) .nil))) ((sadd_yes P Q G H x Y hQ h1 hxQ hYQ))
      · exact core_stepAs _ (by rfl)
      · exact core_stepAs _ (by rfl)
      · exact core_stepAs _ (by rfl)
    intro gs rs a w hgs hrs F HM HBW HR HO HT
    obtain rfl := nl0 rs hrs
    obtain ⟨ga, rfl⟩ := nl1 gs hgs
    clear hrs hgs HR HBW HO
    clear HT
    refine sx_store (i := 12) HM (by kernel_rfl) (by rfl) rfl rfl (k := 0) rfl (o_storeN (F.ev rfl) (F.ev rfl) (HM.get 0 rfl)) (M2 := ((ga, 24, ncs (((x + Y) % Q))) :: (gt, 24, ncs ((X * Z % Q))) :: (gp, 24, ncs (((X + Y) % Q))) :: (gw, 24, cw) :: (gz, 41, a3cs X Y Z) :: (gg, 26, gcs P Q G H) :: R)) (rfl) (fun _ h => h.subl (by first | exact List.Sublist.refl _ | (repeat (first | exact List.Sublist.refl _ | refine List.Sublist.cons_cons _ ?_ | refine List.Sublist.cons _ ?_)))) fun w HM => ?_
    refine sx_assign (i := 13) (d := 19) (x := .tmp 103) (v := .int .i64 0) F ((HM.subl (by first | exact List.Sublist.refl _ | (repeat (first | exact List.Sublist.refl _ | refine List.Sublist.cons_cons _ ?_ | refine List.Sublist.cons _ ?_))))) (by kernel_rfl) (by rfl) (by rfl) (F.ev rfl) fun a F => ?_
    refine sx_done (by kernel_rfl) ?_ _
    repeat (first | refine ex_then ?_ | refine ex_block ?_ | refine wp_seq ?_ | refine wp_block ?_ | refine wp_skip ?_)
    refine sx_enterR (S := fun w' => Mem _ _ w' ((ga, 24, ncs (((x + Y) % Q))) :: (gt, 24, ncs ((X * Z % Q))) :: (gp, 24, ncs (((X + Y) % Q))) :: (gw, 24, cw) :: (gz, 41, a3cs X Y Z) :: (gg, 26, gcs P Q G H) :: R)) HM (fun _ h => h) (by kernel_rfl) fun w HM HBW => ?_
    clear HBW
    try simp only [List.append_eq, List.cons_append, List.nil_append]
    refine sx_batch [⟨0, 105, [], .val (grp P Q G H), true⟩,
      ⟨1, 106, [0], .val (.slice pa n cap), true⟩,
      ⟨2, 107, [1], .val (.int .i64 (i : Nat)), true⟩,
      ⟨3, 108, [1, 2], .val (.pointer (some ⟨gl, ol + i * 4, none⟩)), true⟩,
      ⟨4, 109, [3], .val (num x), true⟩,
      ⟨5, 110, [4], .val (.pointer (some ⟨gz, 8, none⟩)), true⟩,
      ⟨6, 111, [5], .val (num Z), true⟩,
      ⟨11, 20, [], .cell 24 (ncs 0), false⟩,
      ⟨7, 112, [0, 4, 6], .val (.tuple #[num ((x * Z % Q)), .int .i64 0]), false⟩,
      ⟨8, 104, [8], .val (.tuple #[num ((x * Z % Q)), .int .i64 0]), true⟩,
      ⟨9, 113, [9], .val (num ((x * Z % Q))), true⟩,
      ⟨10, 114, [9, 10], .val (.int .i64 0), true⟩] 2 _ F HM (fun _ h => h.subl (by first | exact List.Sublist.refl _ | (repeat (first | exact List.Sublist.refl _ | refine List.Sublist.cons_cons _ ?_ | refine List.Sublist.cons _ ?_)))) (by kernel_rfl) (by rfl) ?_ ?_ ?_ ?_ ?_ ?_ ?_
    · kernel_rfl
    · exact of_decide_eq_true (by kernel_rfl)
    · exact all_cons ⟨_, by rfl, by rfl⟩ (all_cons ⟨_, by rfl, by rfl⟩ (all_cons ⟨_, by rfl, by rfl⟩ (all_cons ⟨_, by rfl, by rfl⟩ (all_cons ⟨_, by rfl, by rfl⟩ (all_cons ⟨_, by rfl, by rfl⟩ (all_cons ⟨_, by rfl, by rfl⟩ (all_cons ⟨_, by rfl, by rfl⟩ (all_cons ⟨_, by rfl, by rfl⟩ (all_cons ⟨_, by rfl, by rfl⟩ (all_cons ⟨_, by rfl, by rfl⟩ (all_cons ⟨_, by rfl, by rfl⟩ (all_nil))))))))))))
    · kernel_rfl
    · refine all_cons ?_ (all_cons ?_ (all_cons ?_ (all_cons ?_ (all_cons ?_ (all_cons ?_ (all_cons ?_ (all_cons ?_ (all_cons ?_ (all_cons ?_ (all_cons ?_ (all_cons ?_ (all_nil))))))))))))
      · exact coreS _ _ _ _ _ _ _ (by rfl) (by rfl) (wants_none) (fun ρ w kn hs => o_loadG (kn _ _ (F.old (by rfl) rfl)) (hs.get 5 rfl))
      · exact coreS _ _ _ _ _ _ _ (by rfl) (by rfl) (wants_none) (fun ρ w kn hs => o_move (kn _ _ (F.old (by rfl) rfl)))
      · exact coreS _ _ _ _ _ _ _ (by rfl) (by rfl) (wants_none) (fun ρ w kn hs => o_move (kn _ _ (F.old (by rfl) rfl)))
      · exact coreS _ _ _ _ _ _ _ (by rfl) (by rfl) (wants_none) (fun ρ w kn hs => o_idxN hlt (by rw [← hpa]; exact (kn _ _ (known_core 1 106 _ _ (of_decide_eq_true (by rfl)) (by rfl) (by rfl) (by rfl)))) (kn _ _ (known_core 2 107 _ _ (of_decide_eq_true (by rfl)) (by rfl) (by rfl) (by rfl))))
      · exact coreS _ _ _ _ _ _ _ (by rfl) (by rfl) (wants_none) (fun ρ w kn hs => o_loadC (kn _ _ (known_core 3 108 _ _ (of_decide_eq_true (by rfl)) (by rfl) (by rfl) (by rfl))) (hc _ hs.bel))
      · exact coreS _ _ _ _ _ _ _ (by rfl) (by rfl) (wants_none) (fun ρ w kn hs => o_idx32 (kn _ _ (F.old (by rfl) rfl)) (kn _ _ (known_const _)))
      · exact coreS _ _ _ _ _ _ _ (by rfl) (by rfl) (wants_none) (fun ρ w kn hs => o_load32 (kn _ _ (known_core 5 110 _ _ (of_decide_eq_true (by rfl)) (by rfl) (by rfl) (by rfl))) (hs.get 4 rfl))
      · exact core_pureAs _ (by rfl)
      · exact core_pureAs _ (by rfl)
      · exact coreS _ _ _ _ _ _ _ (by rfl) (by rfl) (wants_none) (fun ρ w kn hs => o_move (kn _ _ (known_core 8 112 _ _ (of_decide_eq_true (by rfl)) (by rfl) (by rfl) (by rfl))))
      · exact coreS _ _ _ _ _ _ _ (by rfl) (by rfl) (wants_none) (fun ρ w kn hs => o_extract (kn _ _ (known_core 9 104 _ _ (of_decide_eq_true (by rfl)) (by rfl) (by rfl) (by rfl))) rfl)
      · exact coreS _ _ _ _ _ _ _ (by rfl) (by rfl) (wants_none) (fun ρ w kn hs => o_extract (kn _ _ (known_core 9 104 _ _ (of_decide_eq_true (by rfl)) (by rfl) (by rfl) (by rfl))) rfl)
    · refine all_cons ?_ (all_cons ?_ (all_cons ?_ (all_cons ?_ (all_cons ?_ (all_cons ?_ (all_cons ?_ (all_cons ?_ (all_cons ?_ (all_cons ?_ (all_cons ?_ (all_cons ?_ (all_nil))))))))))))
      · exact core_stepAs _ (by rfl)
      · exact core_stepAs _ (by rfl)
      · exact core_stepAs _ (by rfl)
      · exact core_stepAs _ (by rfl)
      · exact core_stepAs _ (by rfl)
      · exact core_stepAs _ (by rfl)
      · exact core_stepAs _ (by rfl)
      · exact fun _ => core_new _ _ _ _ _ _ _ _ (by rfl) (by rfl) (Nat.le_refl _) (fun ρ w => o_allocN)
      · exact fun _ => coreG_call _ 13 _ _ [.tmp 105, .tmp 109, .tmp 111] _ _ _ _ _ _ _ (by rfl) Try.func13 (by kernel_rfl) (by rfl) (by rfl) (wants_none) (.cons (known_core 0 105 _ _ (of_decide_eq_true (by rfl)) (by rfl) (by rfl) (by rfl)) (.cons (known_core 4 109 _ _ (of_decide_eq_true (by rfl)) (by rfl) (by rfl) (by rfl)) (.cons (known_core 6 111 _ _ (of_decide_eq_true (by rfl)) (by rfl) (by rfl) (by rfl)) .nil))) ((smul_yes P Q G H x Z hQ h1 hxQ hZQ))
      · exact core_stepAs _ (by rfl)
      · exact core_stepAs _ (by rfl)
      · exact core_stepAs _ (by rfl)
    intro gs rs a w hgs hrs F HM HBW HR HO HT
    obtain rfl := nl0 rs hrs
    obtain ⟨gb, rfl⟩ := nl1 gs hgs
    clear hrs hgs HR HBW HO
    clear HT
    refine sx_store (i := 12) HM (by kernel_rfl) (by rfl) rfl rfl (k := 0) rfl (o_storeN (F.ev rfl) (F.ev rfl) (HM.get 0 rfl)) (M2 := ((gb, 24, ncs ((x * Z % Q))) :: (ga, 24, ncs (((x + Y) % Q))) :: (gt, 24, ncs ((X * Z % Q))) :: (gp, 24, ncs (((X + Y) % Q))) :: (gw, 24, cw) :: (gz, 41, a3cs X Y Z) :: (gg, 26, gcs P Q G H) :: R)) (rfl) (fun _ h => h.subl (by first | exact List.Sublist.refl _ | (repeat (first | exact List.Sublist.refl _ | refine List.Sublist.cons_cons _ ?_ | refine List.Sublist.cons _ ?_)))) fun w HM => ?_
    refine sx_assign (i := 13) (d := 21) (x := .tmp 114) (v := .int .i64 0) F ((HM.subl (by first | exact List.Sublist.refl _ | (repeat (first | exact List.Sublist.refl _ | refine List.Sublist.cons_cons _ ?_ | refine List.Sublist.cons _ ?_))))) (by kernel_rfl) (by rfl) (by rfl) (F.ev rfl) fun a F => ?_
    refine sx_done (by kernel_rfl) ?_ _
    repeat (first | refine ex_then ?_ | refine ex_block ?_ | refine wp_seq ?_ | refine wp_block ?_ | refine wp_skip ?_)
    refine wp_region_lit ?_
    refine lx_value (v := .int .i64 0) F (wanted_none rfl _) rfl (by rfl) (o_move (F.ev rfl)) fun a F => ?_
    refine lx_value (v := .bool false) F (wanted_none rfl _) rfl (by rfl) (o_bin (u := .int .i64 0) (v := .int .i64 0) (fun ρ hx hy => by simp only [execOp, hx, hy]; simp [go_sem]) (F.ev rfl) rfl) fun a F => ?_
    refine lx_value (v := .bool false) F (wanted_none rfl _) rfl (by rfl) (o_move (F.ev rfl)) fun a F => ?_
    refine lx_value (v := .int .i64 0) F (F.want (t := 117) (c := false) rfl rfl rfl (by rfl) rfl) rfl (by rfl) (o_move (F.ev rfl)) fun a F => ?_
    refine lx_value (v := .bool false) F (F.want (t := 117) (c := false) rfl rfl rfl (by rfl) rfl) rfl (by rfl) (o_bin (u := .int .i64 0) (v := .int .i64 0) (fun ρ hx hy => by simp only [execOp, hx, hy]; simp [go_sem]) (F.ev rfl) rfl) fun a F => ?_
    refine lx_value (v := .bool false) F (wanted_none rfl _) rfl (by rfl) (o_pick (b := false) (r := .bool false) (F.ev rfl) rfl (F.ev rfl) rfl) fun a F => ?_
    refine lx_nil ?_
    repeat (first | refine ex_then ?_ | refine ex_block ?_ | refine wp_seq ?_ | refine wp_block ?_ | refine wp_skip ?_)
    refine wp_cond_false (F.ev rfl) ?_
    repeat (first | refine ex_then ?_ | refine ex_block ?_ | refine wp_seq ?_ | refine wp_block ?_ | refine wp_skip ?_)
    refine wp_region_lit ?_
    refine lx_value (v := v) F (wanted_none rfl _) rfl (by rfl) (o_move (F.ev rfl)) fun a F => ?_
    refine lx_value (v := num (((x + Y) % Q))) F (wanted_none rfl _) rfl (by rfl) (o_loadN (F.ev rfl) (HM.get 1 rfl)) fun a F => ?_
    refine lx_rowM F HM (wanted_none rfl _) rfl (by rfl) (o_slice1 (F.ev rfl)) fun a w gr F HM => ?_
    obtain ⟨v2, w2, hrun, R, HM2, l2, lk2⟩ := appR (ρ := a.eval) (s := .tmp 121) (x := .tmp 123) (A := [(gr, 24, (rows1 (((x + Y) % Q)))), (gb, 24, ncs ((x * Z % Q))), (ga, 24, ncs (((x + Y) % Q))), (gt, 24, ncs ((X * Z % Q))), (gp, 24, ncs (((X + Y) % Q))), (gw, 24, cw), (gz, 41, a3cs X Y Z), (gg, 26, gcs P Q G H)]) HM lv (F.ev rfl) (F.ev rfl) rfl ((Pf.one ((x + Y) % Q)).lie (HM.get 0 rfl)) (by simp) (by rw [hl1]; omega)
    obtain ⟨lun, ddn⟩ := lk2 _ _ lu dd
    replace lu := lun; replace dd := ddn
    replace HM := HM2; have lv := l2
    refine lx_value (v := v2) F (wanted_none rfl _) rfl (by rfl) hrun fun a F => ?_
    refine lx_value (v := v2) F (wanted_none rfl _) rfl (by rfl) (o_assign (F.ev rfl)) fun a F => ?_
    refine lx_nil ?_
    replace HM := HM.erase 0 (M2 := ((gb, 24, ncs ((x * Z % Q))) :: (ga, 24, ncs (((x + Y) % Q))) :: (gt, 24, ncs ((X * Z % Q))) :: (gp, 24, ncs (((X + Y) % Q))) :: (gw, 24, cw) :: (gz, 41, a3cs X Y Z) :: (gg, 26, gcs P Q G H) :: R)) rfl
    repeat (first | refine ex_then ?_ | refine ex_block ?_ | refine wp_seq ?_ | refine wp_block ?_ | refine wp_skip ?_)
    refine wp_region_lit ?_
    refine lx_value (v := v1) F (wanted_none rfl _) rfl (by rfl) (o_move (F.ev rfl)) fun a F => ?_
    refine lx_value (v := num ((x * Z % Q))) F (wanted_none rfl _) rfl (by rfl) (o_loadN (F.ev rfl) (HM.get 0 rfl)) fun a F => ?_
    refine lx_rowM F HM (wanted_none rfl _) rfl (by rfl) (o_slice1 (F.ev rfl)) fun a w gs F HM => ?_
    obtain ⟨v2, w2, hrun, R, HM2, l2, lk2⟩ := appR (ρ := a.eval) (s := .tmp 125) (x := .tmp 127) (A := [(gs, 24, (rows1 ((x * Z % Q)))), (gb, 24, ncs ((x * Z % Q))), (ga, 24, ncs (((x + Y) % Q))), (gt, 24, ncs ((X * Z % Q))), (gp, 24, ncs (((X + Y) % Q))), (gw, 24, cw), (gz, 41, a3cs X Y Z), (gg, 26, gcs P Q G H)]) HM lu (F.ev rfl) (F.ev rfl) rfl ((Pf.one (x * Z % Q)).lie (HM.get 0 rfl)) (by simp) (by rw [hl2]; omega)
    obtain ⟨lvn, ddn⟩ := lk2 _ _ lv dd.symm
    replace lv := lvn; replace dd := ddn.symm
    replace HM := HM2; have lu := l2
    refine lx_value (v := v2) F (wanted_none rfl _) rfl (by rfl) hrun fun a F => ?_
    refine lx_value (v := v2) F (wanted_none rfl _) rfl (by rfl) (o_assign (F.ev rfl)) fun a F => ?_
    refine lx_nil ?_
    replace HM := HM.erase 0 (M2 := ((gb, 24, ncs ((x * Z % Q))) :: (ga, 24, ncs (((x + Y) % Q))) :: (gt, 24, ncs ((X * Z % Q))) :: (gp, 24, ncs (((X + Y) % Q))) :: (gw, 24, cw) :: (gz, 41, a3cs X Y Z) :: (gg, 26, gcs P Q G H) :: R)) rfl
    replace HM := HM.erase 0 (M2 := ((ga, 24, ncs (((x + Y) % Q))) :: (gt, 24, ncs ((X * Z % Q))) :: (gp, 24, ncs (((X + Y) % Q))) :: (gw, 24, cw) :: (gz, 41, a3cs X Y Z) :: (gg, 26, gcs P Q G H) :: R)) rfl
    replace HM := HM.erase 0 (M2 := ((gt, 24, ncs ((X * Z % Q))) :: (gp, 24, ncs (((X + Y) % Q))) :: (gw, 24, cw) :: (gz, 41, a3cs X Y Z) :: (gg, 26, gcs P Q G H) :: R)) rfl
    repeat (first | refine ex_then ?_ | refine ex_block ?_ | refine wp_seq ?_ | refine wp_block ?_ | refine wp_skip ?_)
    refine wp_region_lit ?_
    refine lx_value (v := .int .i64 (i : Nat)) F (wanted_none rfl _) rfl (by rfl) (o_move (F.ev rfl)) fun a F => ?_
    refine lx_value (v := .int .i64 ((i + 1 : Nat) : Int)) F (wanted_none rfl _) rfl (by rfl) (o_bin (u := .int .i64 (i : Nat)) (v := .int .i64 1) (fun ρ hx hy => by simp only [execOp, hx, hy]; simp [go_sem, hwr]) (F.ev rfl) rfl) fun a F => ?_
    refine lx_value (v := .int .i64 ((i + 1 : Nat) : Int)) F (wanted_none rfl _) rfl (by rfl) (o_assign (F.ev rfl)) fun a F => ?_
    refine lx_nil ?_
    rw [← tk1] at lv
    rw [← tk2] at lu
    refine ex_then ?_
    refine ⟨⟨i + 1, _, _, _, by omega, lv, lu, dd, F.sub [17, 1, 15, 16, 3, 5, 7, 11, 13, 14], HM⟩, ?_⟩
    · show n - (intOf (a.tmps.getD 17 undef)).toNat < n - (intOf (aS.tmps.getD 17 undef)).toNat
      rw [F.get 17 _ rfl, FS.get 17 _ rfl]
      show n - ((i + 1 : Nat) : Int).toNat < n - ((i : Nat) : Int).toNat
      omega
  · repeat (first | refine ex_then ?_ | refine ex_block ?_ | refine wp_seq ?_ | refine wp_block ?_ | refine wp_skip ?_)
    refine wp_region_lit ?_
    refine lx_value (v := .int .i64 (i : Nat)) F (wanted_none rfl _) rfl (by rfl) (o_move (F.ev rfl)) fun a F => ?_
    refine lx_value (v := .slice pa n cap) F (wanted_none rfl _) rfl (by rfl) (o_move (F.ev rfl)) fun a F => ?_
    refine lx_value (v := .int .i64 (n : Nat)) F (wanted_none rfl _) rfl (by rfl) (o_len (F.ev rfl)) fun a F => ?_
    refine lx_value (v := .bool false) F (wanted_none rfl _) rfl (by rfl) (o_bin (u := .int .i64 (i : Nat)) (v := .int .i64 (n : Nat)) (fun ρ hx hy => by simp only [execOp, hx, hy]; simp [go_sem]; omega) (F.ev rfl) (F.ev rfl)) fun a F => ?_
    refine lx_nil ?_
    repeat (first | refine ex_then ?_ | refine ex_block ?_ | refine wp_seq ?_ | refine wp_block ?_ | refine wp_skip ?_)
    refine wp_cond_false (F.ev rfl) ?_
    repeat (first | refine ex_then ?_ | refine ex_block ?_ | refine wp_seq ?_ | refine wp_block ?_ | refine wp_skip ?_)
    refine wp_exit ?_
    repeat (first | refine ex_thenE ?_ | refine ex_blockE ?_)
    have hin : i = n := by omega
    have hl1 : (xs.map fun x => (x + Y) % Q).length = n := by simp [r.1]
    have hl2 : (xs.map fun x => x * Z % Q).length = n := by simp [r.1]
    rw [List.take_of_length_le (by omega)] at lv lu
    obtain ⟨av, cv, rfl⟩ := lv.form
    obtain ⟨au, cu, rfl⟩ := lu.form
    rw [hl1] at F lv
    rw [hl2] at F lu
    have q1 := sof_cg h1
    have m1 : ∀ a b : Nat, Cg Q (((a + b) % Q : Nat) : Int) ((a : Int) + (b : Int)) := fun a b => by rw [Int.natCast_emod, Int.natCast_add]; exact Cg.emod Q _
    have m2 : ∀ a b : Nat, Cg Q ((a * b % Q : Nat) : Int) ((a : Int) * (b : Int)) := fun a b => by rw [Int.natCast_emod, Int.natCast_mul]; exact Cg.emod Q _
    obtain ⟨B1, U1, W1⟩ := wts_same (X2 := (X + Y) % Q) (f := fun x => (x + Y) % Q) (c := 1) (U.one Q) (fun x _ => Nat.mod_lt _ (by omega)) (fun x _ y _ => ((m1 x Y).sub (m1 y Y)).trans (Cg.of_eq (by grind))) (fun y _ => ((m1 X Y).sub (m1 y Y)).trans (Cg.of_eq (by grind))) (Nat.mod_lt _ (by omega)) hb hu
    obtain ⟨B2, U2, W2⟩ := wts_same (X2 := X * Z % Q) (f := fun x => x * Z % Q) (c := (Z : Int)) hZu (fun x _ => Nat.mod_lt _ (by omega)) (fun x _ y _ => ((m2 x Z).sub (m2 y Z)).trans (Cg.of_eq (by grind))) (fun y _ => ((m2 X Z).sub (m2 y Z)).trans (Cg.of_eq (by grind))) (Nat.mod_lt _ (by omega)) hb hu
    have hb1 : ∀ z ∈ (xs.map fun x => (x + Y) % Q), z < 2 ^ 256 := fun z hz => Nat.lt_trans ((wtsB_iff.1 B1).2.2.2.2 z hz) hQ
    have hb2 : ∀ z ∈ (xs.map fun x => x * Z % Q), z < 2 ^ 256 := fun z hz => Nat.lt_trans ((wtsB_iff.1 B2).2.2.2.2 z hz) hQ
    have hp256 := Nat.lt_trans (wtsB_iff.1 B1).2.1 hQ
    have ht256 := Nat.lt_trans (wtsB_iff.1 B2).2.1 hQ
    repeat (first | refine ex_then ?_ | refine ex_block ?_ | refine wp_seq ?_ | refine wp_block ?_ | refine wp_skip ?_)
    refine wp_region_lit ?_
    refine lx_value (v := grp P Q G H) F (wanted_none rfl _) rfl (by rfl) (o_loadG (F.ev rfl) (HM.get 4 rfl)) fun a F => ?_
    refine lx_value (v := .slice av n cv) F (wanted_none rfl _) rfl (by rfl) (o_move (F.ev rfl)) fun a F => ?_
    refine lx_value (v := num (((X + Y) % Q))) F (wanted_none rfl _) rfl (by rfl) (o_loadN (F.ev rfl) (HM.get 1 rfl)) fun a F => ?_
    refine lx_callE F (wanted_none rfl _) rfl (by rfl) (run_callF Try.func14 (by kernel_rfl) (by rfl) (.cons (F.ev rfl) (.cons (F.ev rfl) (.cons (F.ev rfl) .nil))) _) ((wts_any P Q G H ((X + Y) % Q) n cv av (xs.map fun x => (x + Y) % Q) _ hQ hp256 (lv.rn HM (fun x hx => by simp [hx]) hb1) (by omega) B1).mono (fun e w2 h => wts_ex (h.1 U1))) fun a w u hu F => ?_
    obtain ⟨z, ga, wa, ca, rfl, hg, hat, hpa2, hwa⟩ := hu
    have hne := bel_lt HM hg
    have hge := Nat.le_trans (Nat.le_trans HM.le HM.bel.size) hg
    replace HM := (HM.on z).add hge (fun x hx => hne x hx) hat
    clear hne hge hg z hat
    refine lx_value (v := .tuple #[.slice (some ⟨ga, 0, none⟩) n n, .int .i64 0]) F (wanted_none rfl _) rfl (by rfl) (o_move (F.ev rfl)) fun a F => ?_
    refine lx_value (v := .slice (some ⟨ga, 0, none⟩) n n) F (wanted_none rfl _) rfl (by rfl) (o_extract (F.ev rfl) rfl) fun a F => ?_
    refine lx_value (v := .int .i64 0) F (wanted_none rfl _) rfl (by rfl) (o_extract (F.ev rfl) rfl) fun a F => ?_
    refine lx_value (v := .slice (some ⟨ga, 0, none⟩) n n) F (wanted_none rfl _) rfl (by rfl) (o_assign (F.ev rfl)) fun a F => ?_
    refine lx_value (v := .int .i64 0) F (wanted_none rfl _) rfl (by rfl) (o_assign (F.ev rfl)) fun a F => ?_
    refine lx_nil ?_
    repeat (first | refine ex_then ?_ | refine ex_block ?_ | refine wp_seq ?_ | refine wp_block ?_ | refine wp_skip ?_)
    refine wp_region_lit ?_
    refine lx_value (v := grp P Q G H) F (wanted_none rfl _) rfl (by rfl) (o_loadG (F.ev rfl) (HM.get 5 rfl)) fun a F => ?_
    refine lx_value (v := .slice au n cu) F (wanted_none rfl _) rfl (by rfl) (o_move (F.ev rfl)) fun a F => ?_
    refine lx_value (v := num ((X * Z % Q))) F (wanted_none rfl _) rfl (by rfl) (o_loadN (F.ev rfl) (HM.get 1 rfl)) fun a F => ?_
    refine lx_callE F (wanted_none rfl _) rfl (by rfl) (run_callF Try.func14 (by kernel_rfl) (by rfl) (.cons (F.ev rfl) (.cons (F.ev rfl) (.cons (F.ev rfl) .nil))) _) ((wts_any P Q G H (X * Z % Q) n cu au (xs.map fun x => x * Z % Q) _ hQ ht256 (lu.rn HM (fun x hx => by simp [hx]) hb2) (by omega) B2).mono (fun e w2 h => wts_ex (h.1 U2))) fun a w u hu F => ?_
    obtain ⟨z, gb, wb, cb, rfl, hg, hat, hpb2, hwb⟩ := hu
    have hne := bel_lt HM hg
    have hge := Nat.le_trans (Nat.le_trans HM.le HM.bel.size) hg
    replace HM := (HM.on z).add hge (fun x hx => hne x hx) hat
    clear hne hge hg z hat
    refine lx_value (v := .tuple #[.slice (some ⟨gb, 0, none⟩) n n, .int .i64 0]) F (wanted_none rfl _) rfl (by rfl) (o_move (F.ev rfl)) fun a F => ?_
    refine lx_value (v := .slice (some ⟨gb, 0, none⟩) n n) F (wanted_none rfl _) rfl (by rfl) (o_extract (F.ev rfl) rfl) fun a F => ?_
    refine lx_value (v := .int .i64 0) F (wanted_none rfl _) rfl (by rfl) (o_extract (F.ev rfl) rfl) fun a F => ?_
    refine lx_value (v := .slice (some ⟨gb, 0, none⟩) n n) F (wanted_none rfl _) rfl (by rfl) (o_assign (F.ev rfl)) fun a F => ?_
    refine lx_value (v := .int .i64 0) F (wanted_none rfl _) rfl (by rfl) (o_assign (F.ev rfl)) fun a F => ?_
    refine lx_nil ?_
    have ea : wa = ws := W1 ws wa hws hwa
    have eb : wb = ws := W2 ws wb hws hwb
    have hwl : ws.length = n := hws.1.trans r.1
    have hw256 : ∀ z ∈ ws, z < 2 ^ 256 := fun z hz => Nat.lt_trans (hws.2.1 z hz) hQ
    rw [ea] at hpa2
    rw [eb] at hpb2
    have hcap : n ≤ 9223372036854775807 := by omega
    repeat (first | refine ex_then ?_ | refine ex_block ?_ | refine wp_seq ?_ | refine wp_block ?_ | refine wp_skip ?_)
    refine wp_region_lit ?_
    refine lx_value (v := .int .i64 0) F (wanted_none rfl _) rfl (by rfl) (o_move (F.ev rfl)) fun a F => ?_
    refine lx_value (v := .bool true) F (wanted_none rfl _) rfl (by rfl) (o_bin (u := .int .i64 0) (v := .int .i64 0) (fun ρ hx hy => by simp only [execOp, hx, hy]; simp [go_sem]) (F.ev rfl) rfl) fun a F => ?_
    refine lx_value (v := .bool true) F (wanted_none rfl _) rfl (by rfl) (o_move (F.ev rfl)) fun a F => ?_
    refine lx_value (v := .int .i64 0) F (F.want (t := 145) (c := true) rfl rfl rfl (by rfl) rfl) rfl (by rfl) (o_move (F.ev rfl)) fun a F => ?_
    refine lx_value (v := .bool true) F (F.want (t := 145) (c := true) rfl rfl rfl (by rfl) rfl) rfl (by rfl) (o_bin (u := .int .i64 0) (v := .int .i64 0) (fun ρ hx hy => by simp only [execOp, hx, hy]; simp [go_sem]) (F.ev rfl) rfl) fun a F => ?_
    refine lx_value (v := .bool true) F (wanted_none rfl _) rfl (by rfl) (o_pick (b := true) (r := .bool true) (F.ev rfl) (F.ev rfl) rfl rfl) fun a F => ?_
    refine lx_value (v := .bool true) F (wanted_none rfl _) rfl (by rfl) (o_move (F.ev rfl)) fun a F => ?_
    refine lx_value (v := .int .i64 0) F (F.want (t := 149) (c := true) rfl rfl rfl (by rfl) rfl) rfl (by rfl) (o_move (F.ev rfl)) fun a F => ?_
    refine lx_value (v := .bool true) F (F.want (t := 149) (c := true) rfl rfl rfl (by rfl) rfl) rfl (by rfl) (o_bin (u := .int .i64 0) (v := .int .i64 0) (fun ρ hx hy => by simp only [execOp, hx, hy]; simp [go_sem]) (F.ev rfl) rfl) fun a F => ?_
    refine lx_value (v := .bool true) F (wanted_none rfl _) rfl (by rfl) (o_pick (b := true) (r := .bool true) (F.ev rfl) (F.ev rfl) rfl rfl) fun a F => ?_
    refine lx_value (v := .bool true) F (wanted_none rfl _) rfl (by rfl) (o_move (F.ev rfl)) fun a F => ?_
    refine lx_value (v := .slice (some ⟨ga, 0, none⟩) n n) F (F.want (t := 153) (c := true) rfl rfl rfl (by rfl) rfl) rfl (by rfl) (o_move (F.ev rfl)) fun a F => ?_
    refine lx_value (v := .slice (some ⟨gw, 0, none⟩) n n) F (F.want (t := 153) (c := true) rfl rfl rfl (by rfl) rfl) rfl (by rfl) (o_move (F.ev rfl)) fun a F => ?_
    refine lx_call F (F.want (t := 153) (c := true) rfl rfl rfl (by rfl) rfl) rfl (by rfl) (run_callF Try.func10 (by kernel_rfl) (by rfl) (.cons (F.ev rfl) (.cons (F.ev rfl) .nil)) _) (same_is3 n n n n _ _ ws ws _ rfl (hpa2.rsA (HM.get 1 rfl) hwl (Nat.le_refl _) hcap hw256) (hpw.rsA (HM.get 4 rfl) hwl (Nat.le_refl _) hcap hw256)) fun a w z F => ?_
    replace HM := HM.on z
    clear z
    refine lx_value (v := .bool true) F (wanted_none rfl _) rfl (by rfl) (o_pick (b := true) (r := .bool true) (F.ev rfl) (F.ev rfl) rfl rfl) fun a F => ?_
    refine lx_value (v := .bool true) F (wanted_none rfl _) rfl (by rfl) (o_move (F.ev rfl)) fun a F => ?_
    refine lx_value (v := .slice (some ⟨gb, 0, none⟩) n n) F (F.want (t := 158) (c := true) rfl rfl rfl (by rfl) rfl) rfl (by rfl) (o_move (F.ev rfl)) fun a F => ?_
    refine lx_value (v := .slice (some ⟨gw, 0, none⟩) n n) F (F.want (t := 158) (c := true) rfl rfl rfl (by rfl) rfl) rfl (by rfl) (o_move (F.ev rfl)) fun a F => ?_
    refine lx_call F (F.want (t := 158) (c := true) rfl rfl rfl (by rfl) rfl) rfl (by rfl) (run_callF Try.func10 (by kernel_rfl) (by rfl) (.cons (F.ev rfl) (.cons (F.ev rfl) .nil)) _) (same_is3 n n n n _ _ ws ws _ rfl (hpb2.rsA (HM.get 0 rfl) hwl (Nat.le_refl _) hcap hw256) (hpw.rsA (HM.get 4 rfl) hwl (Nat.le_refl _) hcap hw256)) fun a w z F => ?_
    replace HM := HM.on z
    clear z
    refine lx_value (v := .bool true) F (wanted_none rfl _) rfl (by rfl) (o_pick (b := true) (r := .bool true) (F.ev rfl) (F.ev rfl) rfl rfl) fun a F => ?_
    refine lx_value (v := .bool true) F (wanted_none rfl _) rfl (by rfl) (o_assign (F.ev rfl)) fun a F => ?_
    refine lx_nil ?_
    repeat (first | refine ex_then ?_ | refine ex_block ?_ | refine wp_seq ?_ | refine wp_block ?_ | refine wp_skip ?_)
    refine wp_ret ?_
    repeat (first | refine ex_thenR ?_ | refine ex_blockR ?_)
    exact sx_ret F HM (res_tmp F rfl (s := 6) rfl)

theorem pmv_walk (P Q G H n cap X Y Z : Nat) (pa : Option Addr) (xs : List Nat) (w0 : World) (hQ : Q < 2 ^ 256) (hX : X < 2 ^ 256) (hY : Y < 2 ^ 256) (hZ : Z < 2 ^ 256) (r : RN w0.heap.size w0 pa n cap xs) : Calls Try.prog 6 #[grp P Q G H, .slice pa n cap, arr3 X Y Z] w0 fun e w' => e = .returned (.bool true) ∧ Below w0.heap.size w0 w' := by
  by_cases hn : 20 < n
  · exact pmv_l P Q G H n cap X Y Z pa xs w0 hQ hX hY hZ r hn
  obtain ⟨V, f, ci, hf⟩ := inv_some P Q G H Z hQ hZ
  obtain ⟨V2, h, ca, hh⟩ := add_some P Q G H X Y hQ hX hY
  by_cases hb : wtsB Q X xs = true
  · by_cases hu : AllU Q xs
    · by_cases hf0 : f = 0
      · subst hf0
        rcases hh with ⟨rfl, k1, k2, k3, rfl⟩ | rfl
        · exact pmv_ok P Q G H n cap X Y Z pa xs w0 hQ hX hY hZ r hn V ci hb hu k1 k2 k3 (hf rfl).2.1 (hf rfl).2.2 (wtsB_iff.1 hb).2.2.2.2
        · exact pmv_h P Q G H n cap X Y Z pa xs w0 hQ hX hY hZ r hn V V2 ci ca hb hu
      · exact pmv_f P Q G H n cap X Y Z pa xs w0 hQ hX hY hZ r hn V V2 f h ci ca hb hu hf0
    · exact pmv_b7 P Q G H n cap X Y Z pa xs w0 hQ hX hY hZ r hn V V2 f h ci ca hb hu
  · exact pmv_b1 P Q G H n cap X Y Z pa xs w0 hQ hX hY hZ r hn V V2 f h ci ca (Bool.eq_false_iff.2 hb)
end Go.Proofs.Ytfjploahkodekaa
