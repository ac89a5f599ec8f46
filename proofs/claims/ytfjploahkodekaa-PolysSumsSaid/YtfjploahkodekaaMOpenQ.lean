/-
  How an argument api.Group is opened.
-/
import Derived.Deep.Cut
import Derived.Test.YtfjploahkodekaaMPt
import Derived.Test.YtfjploahkodekaaMRng
import Derived.Test.YtfjploahkodekaaMShort
namespace Go.Proofs.Ytfjploahkodekaa
set_option maxRecDepth 100000
set_option linter.unusedSimpArgs false
set_option linter.unusedVariables false
open Go.RowKit Go.WideShapes Go.ChangeShapes Go.ChangeAt

theorem Try.cellsArr2 : Try.prog.cellsOf 37 = 8 := by kernel_rfl
theorem Try.cellsG : Try.prog.cellsOf 26 = 16 := by kernel_rfl
section
variable {H : Type} {enc : TypeId × Value → H} {w : World} {held : Bool}
/-- a group -/
theorem open_group {base : Nat} {v : Value} {d : DataW H} {p : List MemPlace} (hv : Value.okWide Try.prog w .any base 26 v) (h : DataW.Trod enc Try.prog w 0 (fun _ => true) held 26 v d p) :
    ∃ P Q G H' : Nat, v = grp P Q G H' ∧ P < 2 ^ 256 ∧ Q < 2 ^ 256 ∧ G < 2 ^ 256 ∧ H' < 2 ^ 256 := by
  obtain ⟨cs, rfl, hsz⟩ : ∃ cs, v = .agg cs ∧ cs.size = Try.prog.cellsOf 26 := by
    simp only [Value.okWide, Try.underlying26] at hv
    obtain ⟨cs, h1, h2, _⟩ := hv
    exact ⟨cs, h1, h2⟩
  obtain ⟨fuel, hf⟩ := h
  obtain ⟨xs, m, hm, _, hl, hlen, hf⟩ := DataW.trod_struct Try.underlying26 hf
  rw [Try.cellsG] at hsz
  obtain ⟨cs⟩ := cs
  match cs, hsz with
  | [c0, c1, c2, c3, c4, c5, c6, c7, c8, c9, c10, c11, c12, c13, c14, c15], _ =>
    match xs, hlen with
    | [y0, y1, y2, y3], _ =>
      simp only [Value.cells] at hf
      have h0 : DataW.trod enc Try.prog w 0 (fun _ => true) held m 24 [c0, c1, c2, c3] = some y0 := by simpa [Try.cells24] using hf 0 _ rfl
      have h1 : DataW.trod enc Try.prog w 0 (fun _ => true) held m 24 [c4, c5, c6, c7] = some y1 := by simpa [Try.cells24] using hf 1 _ rfl
      have h2 : DataW.trod enc Try.prog w 0 (fun _ => true) held m 24 [c8, c9, c10, c11] = some y2 := by simpa [Try.cells24] using hf 2 _ rfl
      have h3 : DataW.trod enc Try.prog w 0 (fun _ => true) held m 24 [c12, c13, c14, c15] = some y3 := by simpa [Try.cells24] using hf 3 _ rfl
      obtain ⟨P, hP, rfl, rfl, rfl, rfl⟩ := open_four h0
      obtain ⟨Q, hQ, rfl, rfl, rfl, rfl⟩ := open_four h1
      obtain ⟨G, hG, rfl, rfl, rfl, rfl⟩ := open_four h2
      obtain ⟨K, hK, rfl, rfl, rfl, rfl⟩ := open_four h3
      exact ⟨P, Q, G, K, rfl, hP, hQ, hG, hK⟩
theorem open_arr2 {base : Nat} {v : Value} {d : DataW H} {p : List MemPlace} (hv : Value.okWide Try.prog w .any base 37 v) (h : DataW.Trod enc Try.prog w 0 (fun _ => true) held 37 v d p) :
    ∃ X Y : Nat, X < 2 ^ 256 ∧ Y < 2 ^ 256 ∧ v = .agg #[.int .u64 (wd X 0 : Nat), .int .u64 (wd X 1 : Nat), .int .u64 (wd X 2 : Nat), .int .u64 (wd X 3 : Nat), .int .u64 (wd Y 0 : Nat), .int .u64 (wd Y 1 : Nat), .int .u64 (wd Y 2 : Nat), .int .u64 (wd Y 3 : Nat)] := by
  obtain ⟨cs, rfl, hsz⟩ := okWide_arr Try.underlying37 hv
  obtain ⟨fuel, hf⟩ := h
  obtain ⟨xs, m, rfl, hx, hl, hn, he⟩ := DataW.trod_array Try.underlying37 hf
  rw [Try.cellsArr2] at hsz
  rw [Try.cells24] at he
  match xs, hn with
  | [x0, x1], _ =>
    have e0 := he 0 (by omega)
    have e1 := he 1 (by omega)
    obtain ⟨cs⟩ := cs
    match cs, hsz with
    | [c0, c1, c2, c3, c4, c5, c6, c7], _ =>
      simp [Value.cells] at e0 e1
      obtain ⟨X, hX, rfl, rfl, rfl, rfl⟩ := open_four e0
      obtain ⟨Y, hY, rfl, rfl, rfl, rfl⟩ := open_four e1
      exact ⟨X, Y, hX, hY, rfl⟩
end
end Go.Proofs.Ytfjploahkodekaa

/-
  polys: what is asked of exponents, a polynomial's value, one, by, At.
-/
namespace Go.Proofs.Ytfjploahkodekaa
set_option maxRecDepth 100000
open Go.RowKit
set_option linter.unusedSimpArgs false
set_option linter.unusedVariables false
attribute [local go_sem ↓] Go.wp_at_zero Go.wp_at_succ

/-- a slice of numbers in a block below n0, to be read -/
def RN (n0 : Nat) (w : World) (a : Option Addr) (n cap : Nat) (xs : List Nat) : Prop := xs.length = n ∧ NSl n0 w a cap xs
theorem RN.get {n0 : Nat} {w : World} {a : Option Addr} {n cap : Nat} {xs : List Nat} (h : RN n0 w a n cap xs) {i : Nat} (hi : i < n) : ∃ g o, a = some ⟨g, o, none⟩ ∧ ∃ hl : i < xs.length, xs[i] < 2 ^ 256 ∧ ∀ u, Below n0 w u → C4 u g (o + i * 4) xs[i] := by
  have hl : i < xs.length := by rw [h.1]; exact hi
  obtain ⟨g, o, ha, hg, h0, h1, h2, h3⟩ := h.2.get hl rfl
  exact ⟨g, o, ha, hl, h.2.2.2.1 _ (List.getElem_mem hl), fun u hb => ⟨(hb.cell (p := ⟨g, o + i * 4, none⟩) hg).trans h0, (hb.cell (p := ⟨g, o + i * 4 + 1, none⟩) hg).trans h1, (hb.cell (p := ⟨g, o + i * 4 + 2, none⟩) hg).trans h2, (hb.cell (p := ⟨g, o + i * 4 + 3, none⟩) hg).trans h3⟩⟩
theorem RN.len {n0 : Nat} {w : World} {a : Option Addr} {n cap : Nat} {xs : List Nat} (h : RN n0 w a n cap xs) : n ≤ cap ∧ cap ≤ 9223372036854775807 := ⟨by rw [← h.1]; exact h.2.1, h.2.2.1⟩
theorem RN.room {n0 : Nat} {w : World} {a : Option Addr} {n cap : Nat} {xs : List Nat} (h : RN n0 w a n cap xs) {i : Nat} (hi : i < n) : IntKind.i64.wrap ((i : Int) + 1) = ((i + 1 : Nat) : Int) := by
  have := h.len
  rw [IntKind.wrap_i64]; omega
theorem RN.wr {n0 : Nat} {w : World} {a : Option Addr} {n cap : Nat} {xs : List Nat} (h : RN n0 w a n cap xs) {i : Nat} (hi : i ≤ n) : IntKind.i64.wrap (i : Int) = (i : Int) := by
  have := h.len
  rw [IntKind.wrap_i64]; omega
theorem RN.on {n0 : Nat} {w w' : World} {a : Option Addr} {n cap : Nat} {xs : List Nat} (h : RN n0 w a n cap xs) (hb : Below n0 w w') : RN n0 w' a n cap xs := ⟨h.1, h.2.below hb⟩
/-- all are exponents -/
def expB (Q : Nat) (xs : List Nat) : Bool := xs.all fun x => decide (1 < Q ∧ x < Q)
theorem expB_all {Q : Nat} {xs : List Nat} (h : expB Q xs = true) : ∀ x ∈ xs, 1 < Q ∧ x < Q := fun x hx => of_decide_eq_true (List.all_eq_true.1 h x hx)
section
variable {a : Act} {N : Nat} {L : List (Nat × Value)} {df : List Deferred} {w : World} {P : Program}
theorem res_2 {fn : Func} (F : Fr a N L df) {s t : Nat} {u v : Value} (hf : fn.results = #[.tmp s, .tmp t]) (h1 : lk L s = some u) (h2 : lk L t = some v) : (results fn a.tmps).run P w = .ok (.tuple #[u, v]) w := by
  have e1 := F.get s _ h1
  have e2 := F.get t _ h2
  rw [Array.getD_eq_getD_getElem?] at e1 e2
  simp [results, hf, go_sem, e1, e2]
theorem res_T {fn : Func} (F : Fr a N L df) {s gs P Q G H M : Nat} (hf : fn.results = #[.cell s 49]) (h1 : lk L s = some (.pointer (some ⟨gs, 0, none⟩)))
    (A1 : At w gs 49 (tcs P Q G H M)) : (results fn a.tmps).run Try.prog w = .ok (tal P Q G H M) w :=
  results_cell_row hf a.tmps w gs _ (tcs P Q G H M) (0, 0) _ (F.get s _ h1) A1 Try.underlying49 rfl Try.sizeT
end
set_option maxRecDepth 100000 in
set_option maxHeartbeats 800000 in
theorem areExp_any (P Q G H n cap : Nat) (pa : Option Addr) (xs : List Nat) (w0 : World) (hQ : Q < 2 ^ 256) (r : RN w0.heap.size w0 pa n cap xs) : Calls Try.prog 17 #[grp P Q G H, .slice pa n cap] w0 fun e w' => e = .returned (.bool (expB Q xs)) ∧ Below w0.heap.size w0 w' := by
  refine sx_enter (args := [grp P Q G H, .slice pa n cap]) Try.func17 rfl Try.ntmps17 (by rfl) fun a F HM => ?_
  repeat (first | refine ex_then ?_ | refine ex_block ?_ | refine wp_seq ?_ | refine wp_block ?_ | refine wp_skip ?_)
  refine wp_region_lit ?_
  refine lx_new F HM (wanted_none rfl _) rfl (by rfl) (o_boxG (F.ev rfl)) fun a w gg F HM => ?_
  refine lx_value (v := .bool false) F (wanted_none rfl _) rfl (by rfl) (o_assign rfl) fun a F => ?_
  refine lx_nil ?_
  repeat (first | refine ex_then ?_ | refine ex_block ?_ | refine wp_seq ?_ | refine wp_block ?_ | refine wp_skip ?_)
  refine wp_region_lit ?_
  refine lx_value (v := .slice pa n cap) F (wanted_none rfl _) rfl (by rfl) (o_move (F.ev rfl)) fun a F => ?_
  refine lx_value (v := .int .i64 (n : Nat)) F (wanted_none rfl _) rfl (by rfl) (o_len (F.ev rfl)) fun a F => ?_
  refine lx_value (v := .int .i64 0) F (wanted_none rfl _) rfl (by rfl) (o_move rfl) fun a F => ?_
  refine lx_nil ?_
  repeat (first | refine ex_then ?_ | refine ex_block ?_ | refine wp_seq ?_ | refine wp_block ?_ | refine wp_skip ?_)
  refine wp_loop (fun a w => ∃ i : Nat, i ≤ n ∧ Fr a 25 [(11, .int .i64 (i : Nat)), (9, .slice pa n cap), (10, .int .i64 (n : Nat)), (2, .pointer (some ⟨gg, 0, none⟩))] [] ∧ Mem w0.heap.size w0 w [(gg, 26, gcs P Q G H)] ∧ expB Q (xs.take i) = true) (fun a _ => n - (intOf (a.tmps.getD 11 undef)).toNat) ⟨0, Nat.zero_le _, F.sub [11, 9, 10, 2], HM, by simp [expB]⟩ ?_
  clear F HM
  rintro aS wS ⟨i, hi, FS, HM, HE⟩
  have F := FS
  by_cases hlt : i < n
  · repeat (first | refine ex_then ?_ | refine ex_block ?_ | refine wp_seq ?_ | refine wp_block ?_ | refine wp_skip ?_)
    refine wp_region_lit ?_
    refine lx_value (v := .bool true) F (wanted_none rfl _) rfl (by rfl) (o_bin (u := .int .i64 (i : Nat)) (v := .int .i64 (n : Nat)) (fun ρ hx hy => by simp only [execOp, hx, hy]; simp [go_sem]; omega) (F.ev rfl) (F.ev rfl)) fun a F => ?_
    refine lx_nil ?_
    repeat (first | refine ex_then ?_ | refine ex_block ?_ | refine wp_seq ?_ | refine wp_block ?_ | refine wp_skip ?_)
    refine wp_cond_true (F.ev rfl) ?_
    obtain ⟨gl, ol, rfl, hil, hxb, hc⟩ := r.get hlt
    have htk : xs.take (i + 1) = xs.take i ++ [xs[i]] := List.take_succ_eq_append_getElem hil
    generalize xs[i] = x at *
    repeat (first | refine ex_then ?_ | refine ex_block ?_ | refine wp_seq ?_ | refine wp_block ?_ | refine wp_skip ?_)
    refine wp_region_lit ?_
    refine lx_value (v := .pointer (some ⟨gl, ol + i * 4, none⟩)) F (wanted_none rfl _) rfl (by rfl) (o_idxN hlt (F.ev rfl) (F.ev rfl)) fun a F => ?_
    refine lx_value (v := num x) F (wanted_none rfl _) rfl (by rfl) (o_loadC (F.ev rfl) (hc _ HM.bel)) fun a F => ?_
    refine lx_new F HM (wanted_none rfl _) rfl (by rfl) (o_allocN) fun a w gx F HM => ?_
    refine lx_store F HM (wanted_none rfl _) rfl (k := 0) rfl (o_storeN (F.ev rfl) (F.ev rfl) (HM.get 0 rfl)) (M2 := [(gx, 24, ncs x), (gg, 26, gcs P Q G H)]) (rfl) fun w HM => ?_
    refine lx_nil ?_
    by_cases hgd : 1 < Q ∧ x < Q
    · repeat (first | refine ex_then ?_ | refine ex_block ?_ | refine wp_seq ?_ | refine wp_block ?_ | refine wp_skip ?_)
      refine wp_region_lit ?_
      refine lx_value (v := grp P Q G H) F (wanted_none rfl _) rfl (by rfl) (o_loadG (F.ev rfl) (HM.get 1 rfl)) fun a F => ?_
      refine lx_value (v := num x) F (wanted_none rfl _) rfl (by rfl) (o_loadN (F.ev rfl) (HM.get 0 rfl)) fun a F => ?_
      refine lx_value (v := num x) F (wanted_none rfl _) rfl (by rfl) (o_loadN (F.ev rfl) (HM.get 0 rfl)) fun a F => ?_
      refine lx_call F (wanted_none rfl _) rfl (by rfl) (run_callF Try.func12 (by kernel_rfl) (by rfl) (.cons (F.ev rfl) (.cons (F.ev rfl) (.cons (F.ev rfl) .nil))) _) ((sadd_yes P Q G H x x hQ hgd.1 hgd.2 hgd.2) _) fun a w z F => ?_
      replace HM := HM.on z
      clear z
      refine lx_value (v := .tuple #[num (((x + x) % Q)), .int .i64 0]) F (wanted_none rfl _) rfl (by rfl) (o_move (F.ev rfl)) fun a F => ?_
      refine lx_value (v := num (((x + x) % Q))) F (wanted_none rfl _) rfl (by rfl) (o_extract (F.ev rfl) rfl) fun a F => ?_
      refine lx_value (v := .int .i64 0) F (wanted_none rfl _) rfl (by rfl) (o_extract (F.ev rfl) rfl) fun a F => ?_
      refine lx_new F HM (wanted_none rfl _) rfl (by rfl) (o_allocN) fun a w gv F HM => ?_
      refine lx_store F HM (wanted_none rfl _) rfl (k := 0) rfl (o_storeN (F.ev rfl) (F.ev rfl) (HM.get 0 rfl)) (M2 := [(gv, 24, ncs (((x + x) % Q))), (gx, 24, ncs x), (gg, 26, gcs P Q G H)]) (rfl) fun w HM => ?_
      refine lx_value (v := .int .i64 0) F (wanted_none rfl _) rfl (by rfl) (o_assign (F.ev rfl)) fun a F => ?_
      refine lx_nil ?_
      repeat (first | refine ex_then ?_ | refine ex_block ?_ | refine wp_seq ?_ | refine wp_block ?_ | refine wp_skip ?_)
      refine wp_region_lit ?_
      refine lx_value (v := .int .i64 0) F (wanted_none rfl _) rfl (by rfl) (o_move (F.ev rfl)) fun a F => ?_
      refine lx_value (v := .bool false) F (wanted_none rfl _) rfl (by rfl) (o_bin (u := .int .i64 0) (v := .int .i64 0) (fun ρ hx hy => by simp only [execOp, hx, hy]; simp [go_sem]) (F.ev rfl) rfl) fun a F => ?_
      refine lx_nil ?_
      repeat (first | refine ex_then ?_ | refine ex_block ?_ | refine wp_seq ?_ | refine wp_block ?_ | refine wp_skip ?_)
      refine wp_cond_false (F.ev rfl) ?_
      repeat (first | refine ex_then ?_ | refine ex_block ?_ | refine wp_seq ?_ | refine wp_block ?_ | refine wp_skip ?_)
      refine wp_region_lit ?_
      refine lx_value (v := .int .i64 ((i + 1 : Nat) : Int)) F (wanted_none rfl _) rfl (by rfl) (o_bin (u := .int .i64 (i : Nat)) (v := .int .i64 1) (fun ρ hx hy => by simp only [execOp, hx, hy]; simp [go_sem, r.room hlt]) (F.ev rfl) rfl) fun a F => ?_
      refine lx_value (v := .int .i64 ((i + 1 : Nat) : Int)) F (wanted_none rfl _) rfl (by rfl) (o_move (F.ev rfl)) fun a F => ?_
      refine lx_nil ?_
      replace HM := HM.erase 0 (M2 := [(gx, 24, ncs x), (gg, 26, gcs P Q G H)]) rfl
      replace HM := HM.erase 0 (M2 := [(gg, 26, gcs P Q G H)]) rfl
      refine ex_then ?_
      refine ⟨⟨i + 1, by omega, F.sub [11, 9, 10, 2], HM, ?_⟩, ?_⟩
      · rw [htk]; unfold expB at HE ⊢; rw [List.all_append, HE]; simp [hgd]
      · show n - (intOf (a.tmps.getD 11 undef)).toNat < n - (intOf (aS.tmps.getD 11 undef)).toNat
        rw [F.get 11 _ rfl, FS.get 11 _ rfl]
        show n - ((i + 1 : Nat) : Int).toNat < n - ((i : Nat) : Int).toNat
        omega
    · repeat (first | refine ex_then ?_ | refine ex_block ?_ | refine wp_seq ?_ | refine wp_block ?_ | refine wp_skip ?_)
      refine wp_region_lit ?_
      refine lx_value (v := grp P Q G H) F (wanted_none rfl _) rfl (by rfl) (o_loadG (F.ev rfl) (HM.get 1 rfl)) fun a F => ?_
      refine lx_value (v := num x) F (wanted_none rfl _) rfl (by rfl) (o_loadN (F.ev rfl) (HM.get 0 rfl)) fun a F => ?_
      refine lx_value (v := num x) F (wanted_none rfl _) rfl (by rfl) (o_loadN (F.ev rfl) (HM.get 0 rfl)) fun a F => ?_
      refine lx_call F (wanted_none rfl _) rfl (by rfl) (run_callF Try.func12 (by kernel_rfl) (by rfl) (.cons (F.ev rfl) (.cons (F.ev rfl) (.cons (F.ev rfl) .nil))) _) ((sadd_no P Q G H x x hQ hxb hxb (fun h => hgd ⟨h.1, h.2.1⟩)) _) fun a w z F => ?_
      replace HM := HM.on z
      clear z
      refine lx_value (v := .tuple #[num 0, .int .i64 1]) F (wanted_none rfl _) rfl (by rfl) (o_move (F.ev rfl)) fun a F => ?_
      refine lx_value (v := num 0) F (wanted_none rfl _) rfl (by rfl) (o_extract (F.ev rfl) rfl) fun a F => ?_
      refine lx_value (v := .int .i64 1) F (wanted_none rfl _) rfl (by rfl) (o_extract (F.ev rfl) rfl) fun a F => ?_
      refine lx_new F HM (wanted_none rfl _) rfl (by rfl) (o_allocN) fun a w gv F HM => ?_
      refine lx_store F HM (wanted_none rfl _) rfl (k := 0) rfl (o_storeN (F.ev rfl) (F.ev rfl) (HM.get 0 rfl)) (M2 := [(gv, 24, ncs 0), (gx, 24, ncs x), (gg, 26, gcs P Q G H)]) (rfl) fun w HM => ?_
      refine lx_value (v := .int .i64 1) F (wanted_none rfl _) rfl (by rfl) (o_assign (F.ev rfl)) fun a F => ?_
      refine lx_nil ?_
      repeat (first | refine ex_then ?_ | refine ex_block ?_ | refine wp_seq ?_ | refine wp_block ?_ | refine wp_skip ?_)
      refine wp_region_lit ?_
      refine lx_value (v := .int .i64 1) F (wanted_none rfl _) rfl (by rfl) (o_move (F.ev rfl)) fun a F => ?_
      refine lx_value (v := .bool true) F (wanted_none rfl _) rfl (by rfl) (o_bin (u := .int .i64 1) (v := .int .i64 0) (fun ρ hx hy => by simp only [execOp, hx, hy]; simp [go_sem]) (F.ev rfl) rfl) fun a F => ?_
      refine lx_nil ?_
      repeat (first | refine ex_then ?_ | refine ex_block ?_ | refine wp_seq ?_ | refine wp_block ?_ | refine wp_skip ?_)
      refine wp_cond_true (F.ev rfl) ?_
      repeat (first | refine ex_then ?_ | refine ex_block ?_ | refine wp_seq ?_ | refine wp_block ?_ | refine wp_skip ?_)
      refine wp_region_lit ?_
      refine lx_value (v := .bool false) F (wanted_none rfl _) rfl (by rfl) (o_assign rfl) fun a F => ?_
      refine lx_nil ?_
      have hV : expB Q xs = false := by
        rw [← List.take_append_drop (i + 1) xs, htk]; unfold expB; rw [List.all_append, List.all_append]; simp [hgd]
      rw [hV]
      repeat (first | refine ex_then ?_ | refine ex_block ?_ | refine wp_seq ?_ | refine wp_block ?_ | refine wp_skip ?_)
      refine wp_ret ?_
      repeat (first | refine ex_thenR ?_ | refine ex_blockR ?_)
      exact sx_ret F HM (res_tmp F rfl (s := 4) rfl)
  · repeat (first | refine ex_then ?_ | refine ex_block ?_ | refine wp_seq ?_ | refine wp_block ?_ | refine wp_skip ?_)
    refine wp_region_lit ?_
    refine lx_value (v := .bool false) F (wanted_none rfl _) rfl (by rfl) (o_bin (u := .int .i64 (i : Nat)) (v := .int .i64 (n : Nat)) (fun ρ hx hy => by simp only [execOp, hx, hy]; simp [go_sem]; omega) (F.ev rfl) (F.ev rfl)) fun a F => ?_
    refine lx_nil ?_
    repeat (first | refine ex_then ?_ | refine ex_block ?_ | refine wp_seq ?_ | refine wp_block ?_ | refine wp_skip ?_)
    refine wp_cond_false (F.ev rfl) ?_
    repeat (first | refine ex_then ?_ | refine ex_block ?_ | refine wp_seq ?_ | refine wp_block ?_ | refine wp_skip ?_)
    refine wp_exit ?_
    repeat (first | refine ex_thenE ?_ | refine ex_blockE ?_)
    have hV : expB Q xs = true := by rw [← HE, List.take_of_length_le (by have := r.1; omega)]
    repeat (first | refine ex_then ?_ | refine ex_block ?_ | refine wp_seq ?_ | refine wp_block ?_ | refine wp_skip ?_)
    refine wp_region_lit ?_
    refine lx_value (v := .bool true) F (wanted_none rfl _) rfl (by rfl) (o_assign rfl) fun a F => ?_
    refine lx_nil ?_
    rw [hV]
    repeat (first | refine ex_then ?_ | refine ex_block ?_ | refine wp_seq ?_ | refine wp_block ?_ | refine wp_skip ?_)
    refine wp_ret ?_
    repeat (first | refine ex_thenR ?_ | refine ex_blockR ?_)
    exact sx_ret F HM (res_tmp F rfl (s := 4) rfl)

end Go.Proofs.Ytfjploahkodekaa

/-
  How arguments that hold slices of numbers are opened.
-/
namespace Go.Proofs.Ytfjploahkodekaa
set_option maxRecDepth 100000
open Go.RowKit Go.WideShapes Go.ChangeShapes Go.ChangeAt
set_option linter.unusedSimpArgs false
set_option linter.unusedVariables false
attribute [local go_sem ↓] Go.wp_at_zero Go.wp_at_succ

theorem Try.cellsSl : Try.prog.cellsOf 27 = 1 := by kernel_rfl
section
variable {H : Type} {enc : TypeId × Value → H} {w : World} {held : Bool}
theorem choose_n {n : Nat} {R : Nat → Nat → Prop} (h : ∀ i, i < n → ∃ p, R i p) : ∃ l : List Nat, l.length = n ∧ ∀ i (hi : i < l.length), R i (l[i]) := by
  induction n with
  | zero => exact ⟨[], rfl, fun i hi => absurd hi (Nat.not_lt_zero _)⟩
  | succ n ih =>
    obtain ⟨l, hl, hR⟩ := ih fun i hi => h i (by omega)
    obtain ⟨p, hp⟩ := h n (by omega)
    refine ⟨l ++ [p], by simp [hl], fun i hi => ?_⟩
    by_cases e : i < l.length
    · rw [List.getElem_append_left e]; exact hR i e
    · have : i = n := by simp at hi; omega
      subst this
      rw [List.getElem_append_right (by omega)]
      simp [hl]; exact hp
theorem open_numsC {fuel : Nat} {v' : Value} {x : DataW H × List MemPlace} (hf : DataW.trod enc Try.prog w 0 (fun _ => true) held fuel 27 [v'] = some x) :
    ∃ (xs : List Nat) (a : Option Addr) (cap : Nat), v' = .slice a xs.length cap ∧ RN w.heap.size w a xs.length cap xs := by
  rcases DataW.trod_slice Try.underlying27 hf with ⟨hc', _⟩ | ⟨a, len, cap, elems, rest, k, hk, hc', _, _, hlc, hcm, hel, hget, _⟩
  · obtain rfl : v' = .slice none 0 0 := by simpa using hc'
    exact ⟨[], none, 0, rfl, rfl, Nat.le_refl _, by decide, fun _ h => (by cases h), Or.inl rfl⟩
  · obtain rfl : v' = .slice (some a) len cap := by simpa using hc'
    rw [Try.cells24] at hget
    have sp0 : 0 < len → a.spot = none := by
      intro hi
      have hg := hget 0 hi
      rw [List.getElem?_eq_getElem (by omega)] at hg
      obtain ⟨ci, hci, ht⟩ := Option.bind_eq_some_iff.1 hg
      obtain ⟨_, hcl, hcell⟩ := World.cells?_some hci
      have h0 := hcell 0 (by omega)
      rw [List.getElem?_eq_getElem (by omega)] at h0
      simpa [Addr.add] using World.cell?_spot h0
    have each : ∀ i, i < len → ∃ p : Nat, p < 2 ^ 256 ∧ a.spot = none ∧ a.block < w.heap.size ∧ ∀ k, k < 4 → w.cell? ⟨a.block, a.off + i * 4 + k, none⟩ = some (.int .u64 (wd p k : Nat)) := by
      intro i hi
      have hg := hget i hi
      rw [List.getElem?_eq_getElem (by omega)] at hg
      obtain ⟨ci, hci, ht⟩ := Option.bind_eq_some_iff.1 hg
      obtain ⟨_, hcl, hcell⟩ := World.cells?_some hci
      match ci, hcl with
      | [c0, c1, c2, c3], _ =>
        obtain ⟨p, hp, rfl, rfl, rfl, rfl⟩ := open_four ht
        have sp : a.spot = none := sp0 (by omega)
        have cell : ∀ j (hj : j < 4), w.cell? ⟨a.block, a.off + i * 4 + j, none⟩ = some (.int .u64 (wd p j : Nat)) := by
          intro j hj
          have := hcell j hj
          obtain ⟨b, off, spot⟩ := a
          simp only at sp
          subst sp
          rw [Addr.add_lit, Addr.add_lit] at this
          rw [this]
          match j, hj with
          | 0, _ => rfl
          | 1, _ => rfl
          | 2, _ => rfl
          | 3, _ => rfl
        exact ⟨p, hp, sp, World.block_lt_of_cell? w ⟨a.block, a.off + i * 4 + 0, none⟩ (cell 0 (by omega)), cell⟩
    obtain ⟨xs, hl, hR⟩ := choose_n each
    refine ⟨xs, some a, cap, by rw [hl], rfl, by rw [hl]; exact hlc, by unfold maxLen at hcm; omega, fun x hx => ?_, ?_⟩
    · obtain ⟨i, hi, rfl⟩ := List.getElem_of_mem hx
      exact (hR i hi).1
    · rcases Nat.eq_zero_or_pos xs.length with h0 | h0
      · exact Or.inl (List.length_eq_zero_iff.1 h0)
      · right
        obtain ⟨_, sp, hb, _⟩ := hR 0 h0
        obtain ⟨b, off, spot⟩ := a
        simp only at sp hb
        subst sp
        exact ⟨b, off, rfl, hb, fun i hi => (hR i hi).2.2.2⟩
theorem open_nums {base : Nat} {v : Value} {d : DataW H} {p : List MemPlace} (hv : Value.okWide Try.prog w .any base 27 v) (h : DataW.Trod enc Try.prog w 0 (fun _ => true) held 27 v d p) :
    ∃ (xs : List Nat) (a : Option Addr) (cap : Nat), v = .slice a xs.length cap ∧ RN w.heap.size w a xs.length cap xs := by
  obtain ⟨fuel, hf⟩ := h
  have hone : ∃ v', v.cells.toList = [v'] ∧ v' = v := by
    rcases v with _ | _ | _ | _ | _ | _ | _ | _ <;> first | exact ⟨_, rfl, rfl⟩ | (simp [Value.okWide, Cell.okWide, Cell.ok, Try.underlying27] at hv)
  obtain ⟨v', hc, rfl⟩ := hone
  rw [hc] at hf
  exact open_numsC hf
theorem Try.cellsN2 : Try.prog.cellsOf 36 = 2 := by kernel_rfl
theorem Try.cellsN3 : Try.prog.cellsOf 41 = 12 := by kernel_rfl
theorem open_nums2 {base : Nat} {v : Value} {d : DataW H} {p : List MemPlace} (hv : Value.okWide Try.prog w .any base 36 v) (h : DataW.Trod enc Try.prog w 0 (fun _ => true) held 36 v d p) :
    ∃ (xs ys : List Nat) (a b : Option Addr) (cap capb : Nat), v = .agg #[.slice a xs.length cap, .slice b ys.length capb] ∧ RN w.heap.size w a xs.length cap xs ∧ RN w.heap.size w b ys.length capb ys := by
  obtain ⟨cs, rfl, hsz⟩ := okWide_arr Try.underlying36 hv
  obtain ⟨fuel, hf⟩ := h
  obtain ⟨xs, m, rfl, hx, hl, hn, he⟩ := DataW.trod_array Try.underlying36 hf
  rw [Try.cellsN2] at hsz
  rw [Try.cellsSl] at he
  match xs, hn with
  | [x0, x1], _ =>
    have e0 := he 0 (by omega)
    have e1 := he 1 (by omega)
    obtain ⟨cs⟩ := cs
    match cs, hsz with
    | [c0, c1], _ =>
      simp [Value.cells] at e0 e1
      obtain ⟨xs, a, cap, rfl, r1⟩ := open_numsC e0
      obtain ⟨ys, b, capb, rfl, r2⟩ := open_numsC e1
      exact ⟨xs, ys, a, b, cap, capb, rfl, r1, r2⟩
theorem open_arr3 {base : Nat} {v : Value} {d : DataW H} {p : List MemPlace} (hv : Value.okWide Try.prog w .any base 41 v) (h : DataW.Trod enc Try.prog w 0 (fun _ => true) held 41 v d p) :
    ∃ X Y Z : Nat, X < 2 ^ 256 ∧ Y < 2 ^ 256 ∧ Z < 2 ^ 256 ∧ v = .agg #[.int .u64 (wd X 0 : Nat), .int .u64 (wd X 1 : Nat), .int .u64 (wd X 2 : Nat), .int .u64 (wd X 3 : Nat), .int .u64 (wd Y 0 : Nat), .int .u64 (wd Y 1 : Nat), .int .u64 (wd Y 2 : Nat), .int .u64 (wd Y 3 : Nat), .int .u64 (wd Z 0 : Nat), .int .u64 (wd Z 1 : Nat), .int .u64 (wd Z 2 : Nat), .int .u64 (wd Z 3 : Nat)] := by
  obtain ⟨cs, rfl, hsz⟩ := okWide_arr Try.underlying41 hv
  obtain ⟨fuel, hf⟩ := h
  obtain ⟨xs, m, rfl, hx, hl, hn, he⟩ := DataW.trod_array Try.underlying41 hf
  rw [Try.cellsN3] at hsz
  rw [Try.cells24] at he
  match xs, hn with
  | [x0, x1, x2], _ =>
    have e0 := he 0 (by omega)
    have e1 := he 1 (by omega)
    have e2 := he 2 (by omega)
    obtain ⟨cs⟩ := cs
    match cs, hsz with
    | [c0, c1, c2, c3, c4, c5, c6, c7, c8, c9, c10, c11], _ =>
      simp [Value.cells] at e0 e1 e2
      obtain ⟨X, hX, rfl, rfl, rfl, rfl⟩ := open_four e0
      obtain ⟨Y, hY, rfl, rfl, rfl, rfl⟩ := open_four e1
      obtain ⟨Z, hZ, rfl, rfl, rfl, rfl⟩ := open_four e2
      exact ⟨X, Y, Z, hX, hY, hZ, rfl⟩
end
end Go.Proofs.Ytfjploahkodekaa
