/-
  polys: At, noughtAt.
-/
import Derived.Deep.Cut
import Derived.Test.YtfjploahkodekaaMP3
import Derived.Test.YtfjploahkodekaaMP4
import Derived.Test.YtfjploahkodekaaMP6
import Derived.Test.YtfjploahkodekaaMShort
namespace Go.Proofs.Ytfjploahkodekaa
set_option maxRecDepth 100000
open Go.RowKit
set_option linter.unusedSimpArgs false
set_option linter.unusedVariables false
attribute [local go_sem ↓] Go.wp_at_zero Go.wp_at_succ

theorem areExp_is {b : Bool} (P Q G H n cap : Nat) (pa : Option Addr) (xs : List Nat) (w0 : World) (hb : expB Q xs = b) (hQ : Q < 2 ^ 256) (r : RN w0.heap.size w0 pa n cap xs) : Calls Try.prog 17 #[grp P Q G H, .slice pa n cap] w0 fun e w' => e = .returned (.bool b) ∧ Below w0.heap.size w0 w' := by
  subst hb; exact areExp_any P Q G H n cap pa xs w0 hQ r
/-- what At asks -/
def atB (Q : Nat) (X : Nat) (ps : List Nat) : Bool := expB Q [X] && expB Q ps
theorem atB_iff {Q X : Nat} {ps : List Nat} : atB Q X ps = true ↔ 1 < Q ∧ X < Q ∧ ∀ c ∈ ps, c < Q := by
  simp [atB, expB, and_assoc]
  intro h1 _
  exact ⟨fun h c hc => (h c hc).2, fun h c hc => ⟨h1, h c hc⟩⟩
set_option maxRecDepth 100000 in
set_option maxHeartbeats 800000 in
theorem at_n1 (P Q G H X n cap : Nat) (pa : Option Addr) (ps : List Nat) (w0 : World) (hQ : Q < 2 ^ 256) (hX : X < 2 ^ 256) (r : RN w0.heap.size w0 pa n cap ps) (hB1 : expB Q [X] = false) : Calls Try.prog 9 #[grp P Q G H, .slice pa n cap, num X] w0 fun e w' => e = .returned (.tuple #[num 0, .int .i64 1]) ∧ Below w0.heap.size w0 w' := by
  refine sx_enter (args := [grp P Q G H, .slice pa n cap, num X]) Try.func9 rfl Try.ntmps9 (by rfl) fun a F HM => ?_
  repeat (first | refine ex_then ?_ | refine ex_block ?_ | refine wp_seq ?_ | refine wp_block ?_ | refine wp_skip ?_)
  refine wp_region_lit ?_
  refine lx_new F HM (wanted_none rfl _) rfl (by rfl) (o_boxG (F.ev rfl)) fun a w gg F HM => ?_
  refine lx_new F HM (wanted_none rfl _) rfl (by rfl) (o_boxN (F.ev rfl)) fun a w gx F HM => ?_
  refine lx_new F HM (wanted_none rfl _) rfl (by rfl) (o_allocN) fun a w go F HM => ?_
  refine lx_value (v := .int .i64 0) F (wanted_none rfl _) rfl (by rfl) (o_assign rfl) fun a F => ?_
  refine lx_nil ?_
  repeat (first | refine ex_then ?_ | refine ex_block ?_ | refine wp_seq ?_ | refine wp_block ?_ | refine wp_skip ?_)
  refine wp_region_lit ?_
  refine lx_value (v := grp P Q G H) F (wanted_none rfl _) rfl (by rfl) (o_loadG (F.ev rfl) (HM.get 2 rfl)) fun a F => ?_
  refine lx_value (v := num X) F (wanted_none rfl _) rfl (by rfl) (o_loadN (F.ev rfl) (HM.get 1 rfl)) fun a F => ?_
  refine lx_rowM F HM (wanted_none rfl _) rfl (by rfl) (o_slice1 (F.ev rfl)) fun a w gr F HM => ?_
  refine lx_call F (wanted_none rfl _) rfl (by rfl) (run_callF Try.func17 (by kernel_rfl) (by rfl) (.cons (F.ev rfl) (.cons (F.ev rfl) .nil)) _) (areExp_is P Q G H 1 1 _ [X] _ hB1 hQ (((Pf.one X).rsA (HM.get 0 rfl) rfl (by decide) (by decide) (by simpa using hX)))) fun a w z F => ?_
  replace HM := HM.on z
  clear z
  refine lx_value (v := .bool true) F (wanted_none rfl _) rfl (by rfl) (o_not (b := false) (r := true) (F.ev rfl) rfl) fun a F => ?_
  refine lx_value (v := .bool true) F (wanted_none rfl _) rfl (by rfl) (o_move (F.ev rfl)) fun a F => ?_
  refine lx_pass F (F.want (t := 13) (c := true) rfl rfl rfl (by rfl) rfl) rfl (by rfl) fun a F => ?_
  refine lx_pass F (F.want (t := 13) (c := true) rfl rfl rfl (by rfl) rfl) rfl (by rfl) fun a F => ?_
  refine lx_pass F (F.want (t := 13) (c := true) rfl rfl rfl (by rfl) rfl) rfl (by rfl) fun a F => ?_
  refine lx_pass F (F.want (t := 13) (c := true) rfl rfl rfl (by rfl) rfl) rfl (by rfl) fun a F => ?_
  refine lx_value (v := .bool true) F (wanted_none rfl _) rfl (by rfl) (o_pick (b := true) (r := .bool true) (F.ev rfl) rfl (F.ev rfl) rfl) fun a F => ?_
  refine lx_nil ?_
  repeat (first | refine ex_then ?_ | refine ex_block ?_ | refine wp_seq ?_ | refine wp_block ?_ | refine wp_skip ?_)
  refine wp_cond_true (F.ev rfl) ?_
  repeat (first | refine ex_then ?_ | refine ex_block ?_ | refine wp_seq ?_ | refine wp_block ?_ | refine wp_skip ?_)
  refine wp_region_lit ?_
  refine lx_value (v := num 0) F (wanted_none rfl _) rfl (by rfl) (o_build0) fun a F => ?_
  refine lx_store F HM (wanted_none rfl _) rfl (k := 1) rfl (o_storeN (F.ev rfl) (F.ev rfl) (HM.get 1 rfl)) (M2 := [(gr, 24, (rows1 X)), (go, 24, ncs 0), (gx, 24, ncs X), (gg, 26, gcs P Q G H)]) (rfl) fun w HM => ?_
  refine lx_value (v := .int .i64 1) F (wanted_none rfl _) rfl (by rfl) (o_assign rfl) fun a F => ?_
  refine lx_nil ?_
  repeat (first | refine ex_then ?_ | refine ex_block ?_ | refine wp_seq ?_ | refine wp_block ?_ | refine wp_skip ?_)
  refine wp_ret ?_
  repeat (first | refine ex_thenR ?_ | refine ex_blockR ?_)
  exact sx_ret F HM (res_NI F (s := 6) (t := 7) rfl rfl rfl (HM.get 1 rfl))

set_option maxRecDepth 100000 in
set_option maxHeartbeats 800000 in
theorem at_n2 (P Q G H X n cap : Nat) (pa : Option Addr) (ps : List Nat) (w0 : World) (hQ : Q < 2 ^ 256) (hX : X < 2 ^ 256) (r : RN w0.heap.size w0 pa n cap ps) (hB1 : expB Q [X] = true) (hB2 : expB Q ps = false) : Calls Try.prog 9 #[grp P Q G H, .slice pa n cap, num X] w0 fun e w' => e = .returned (.tuple #[num 0, .int .i64 1]) ∧ Below w0.heap.size w0 w' := by
  refine sx_enter (args := [grp P Q G H, .slice pa n cap, num X]) Try.func9 rfl Try.ntmps9 (by rfl) fun a F HM => ?_
  repeat (first | refine ex_then ?_ | refine ex_block ?_ | refine wp_seq ?_ | refine wp_block ?_ | refine wp_skip ?_)
  refine wp_region_lit ?_
  refine lx_new F HM (wanted_none rfl _) rfl (by rfl) (o_boxG (F.ev rfl)) fun a w gg F HM => ?_
  refine lx_new F HM (wanted_none rfl _) rfl (by rfl) (o_boxN (F.ev rfl)) fun a w gx F HM => ?_
  refine lx_new F HM (wanted_none rfl _) rfl (by rfl) (o_allocN) fun a w go F HM => ?_
  refine lx_value (v := .int .i64 0) F (wanted_none rfl _) rfl (by rfl) (o_assign rfl) fun a F => ?_
  refine lx_nil ?_
  repeat (first | refine ex_then ?_ | refine ex_block ?_ | refine wp_seq ?_ | refine wp_block ?_ | refine wp_skip ?_)
  refine wp_region_lit ?_
  refine lx_value (v := grp P Q G H) F (wanted_none rfl _) rfl (by rfl) (o_loadG (F.ev rfl) (HM.get 2 rfl)) fun a F => ?_
  refine lx_value (v := num X) F (wanted_none rfl _) rfl (by rfl) (o_loadN (F.ev rfl) (HM.get 1 rfl)) fun a F => ?_
  refine lx_rowM F HM (wanted_none rfl _) rfl (by rfl) (o_slice1 (F.ev rfl)) fun a w gr F HM => ?_
  refine lx_call F (wanted_none rfl _) rfl (by rfl) (run_callF Try.func17 (by kernel_rfl) (by rfl) (.cons (F.ev rfl) (.cons (F.ev rfl) .nil)) _) (areExp_is P Q G H 1 1 _ [X] _ hB1 hQ (((Pf.one X).rsA (HM.get 0 rfl) rfl (by decide) (by decide) (by simpa using hX)))) fun a w z F => ?_
  replace HM := HM.on z
  clear z
  refine lx_value (v := .bool false) F (wanted_none rfl _) rfl (by rfl) (o_not (b := true) (r := false) (F.ev rfl) rfl) fun a F => ?_
  refine lx_value (v := .bool false) F (wanted_none rfl _) rfl (by rfl) (o_move (F.ev rfl)) fun a F => ?_
  refine lx_value (v := grp P Q G H) F (F.want (t := 13) (c := false) rfl rfl rfl (by rfl) rfl) rfl (by rfl) (o_loadG (F.ev rfl) (HM.get 3 rfl)) fun a F => ?_
  refine lx_value (v := .slice pa n cap) F (F.want (t := 13) (c := false) rfl rfl rfl (by rfl) rfl) rfl (by rfl) (o_move (F.ev rfl)) fun a F => ?_
  refine lx_call F (F.want (t := 13) (c := false) rfl rfl rfl (by rfl) rfl) rfl (by rfl) (run_callF Try.func17 (by kernel_rfl) (by rfl) (.cons (F.ev rfl) (.cons (F.ev rfl) .nil)) _) (areExp_is P Q G H n cap pa ps _ hB2 hQ (r.call HM.bel HM.bel.size)) fun a w z F => ?_
  replace HM := HM.on z
  clear z
  refine lx_value (v := .bool true) F (F.want (t := 13) (c := false) rfl rfl rfl (by rfl) rfl) rfl (by rfl) (o_not (b := false) (r := true) (F.ev rfl) rfl) fun a F => ?_
  refine lx_value (v := .bool true) F (wanted_none rfl _) rfl (by rfl) (o_pick (b := false) (r := .bool true) (F.ev rfl) rfl (F.ev rfl) rfl) fun a F => ?_
  refine lx_nil ?_
  repeat (first | refine ex_then ?_ | refine ex_block ?_ | refine wp_seq ?_ | refine wp_block ?_ | refine wp_skip ?_)
  refine wp_cond_true (F.ev rfl) ?_
  repeat (first | refine ex_then ?_ | refine ex_block ?_ | refine wp_seq ?_ | refine wp_block ?_ | refine wp_skip ?_)
  refine wp_region_lit ?_
  refine lx_value (v := num 0) F (wanted_none rfl _) rfl (by rfl) (o_build0) fun a F => ?_
  refine lx_store F HM (wanted_none rfl _) rfl (k := 1) rfl (o_storeN (F.ev rfl) (F.ev rfl) (HM.get 1 rfl)) (M2 := [(gr, 24, (rows1 X)), (go, 24, ncs 0), (gx, 24, ncs X), (gg, 26, gcs P Q G H)]) (rfl) fun w HM => ?_
  refine lx_value (v := .int .i64 1) F (wanted_none rfl _) rfl (by rfl) (o_assign rfl) fun a F => ?_
  refine lx_nil ?_
  repeat (first | refine ex_then ?_ | refine ex_block ?_ | refine wp_seq ?_ | refine wp_block ?_ | refine wp_skip ?_)
  refine wp_ret ?_
  repeat (first | refine ex_thenR ?_ | refine ex_blockR ?_)
  exact sx_ret F HM (res_NI F (s := 6) (t := 7) rfl rfl rfl (HM.get 1 rfl))

set_option maxRecDepth 100000 in
set_option maxHeartbeats 800000 in
theorem at_y (P Q G H X n cap : Nat) (pa : Option Addr) (ps : List Nat) (w0 : World) (hQ : Q < 2 ^ 256) (hX : X < 2 ^ 256) (r : RN w0.heap.size w0 pa n cap ps) (hB1 : expB Q [X] = true) (hB2 : expB Q ps = true) (h1 : 1 < Q) (hXQ : X < Q) (hp : ∀ c ∈ ps, c < Q) : Calls Try.prog 9 #[grp P Q G H, .slice pa n cap, num X] w0 fun e w' => e = .returned (.tuple #[num (sofN Q (evZ (zs ps) X)), .int .i64 0]) ∧ Below w0.heap.size w0 w' := by
  refine sx_enter (args := [grp P Q G H, .slice pa n cap, num X]) Try.func9 rfl Try.ntmps9 (by rfl) fun a F HM => ?_
  repeat (first | refine ex_then ?_ | refine ex_block ?_ | refine wp_seq ?_ | refine wp_block ?_ | refine wp_skip ?_)
  refine wp_region_lit ?_
  refine lx_new F HM (wanted_none rfl _) rfl (by rfl) (o_boxG (F.ev rfl)) fun a w gg F HM => ?_
  refine lx_new F HM (wanted_none rfl _) rfl (by rfl) (o_boxN (F.ev rfl)) fun a w gx F HM => ?_
  refine lx_new F HM (wanted_none rfl _) rfl (by rfl) (o_allocN) fun a w go F HM => ?_
  refine lx_value (v := .int .i64 0) F (wanted_none rfl _) rfl (by rfl) (o_assign rfl) fun a F => ?_
  refine lx_nil ?_
  repeat (first | refine ex_then ?_ | refine ex_block ?_ | refine wp_seq ?_ | refine wp_block ?_ | refine wp_skip ?_)
  refine wp_region_lit ?_
  refine lx_value (v := grp P Q G H) F (wanted_none rfl _) rfl (by rfl) (o_loadG (F.ev rfl) (HM.get 2 rfl)) fun a F => ?_
  refine lx_value (v := num X) F (wanted_none rfl _) rfl (by rfl) (o_loadN (F.ev rfl) (HM.get 1 rfl)) fun a F => ?_
  refine lx_rowM F HM (wanted_none rfl _) rfl (by rfl) (o_slice1 (F.ev rfl)) fun a w gr F HM => ?_
  refine lx_call F (wanted_none rfl _) rfl (by rfl) (run_callF Try.func17 (by kernel_rfl) (by rfl) (.cons (F.ev rfl) (.cons (F.ev rfl) .nil)) _) (areExp_is P Q G H 1 1 _ [X] _ hB1 hQ (((Pf.one X).rsA (HM.get 0 rfl) rfl (by decide) (by decide) (by simpa using hX)))) fun a w z F => ?_
  replace HM := HM.on z
  clear z
  refine lx_value (v := .bool false) F (wanted_none rfl _) rfl (by rfl) (o_not (b := true) (r := false) (F.ev rfl) rfl) fun a F => ?_
  refine lx_value (v := .bool false) F (wanted_none rfl _) rfl (by rfl) (o_move (F.ev rfl)) fun a F => ?_
  refine lx_value (v := grp P Q G H) F (F.want (t := 13) (c := false) rfl rfl rfl (by rfl) rfl) rfl (by rfl) (o_loadG (F.ev rfl) (HM.get 3 rfl)) fun a F => ?_
  refine lx_value (v := .slice pa n cap) F (F.want (t := 13) (c := false) rfl rfl rfl (by rfl) rfl) rfl (by rfl) (o_move (F.ev rfl)) fun a F => ?_
  refine lx_call F (F.want (t := 13) (c := false) rfl rfl rfl (by rfl) rfl) rfl (by rfl) (run_callF Try.func17 (by kernel_rfl) (by rfl) (.cons (F.ev rfl) (.cons (F.ev rfl) .nil)) _) (areExp_is P Q G H n cap pa ps _ hB2 hQ (r.call HM.bel HM.bel.size)) fun a w z F => ?_
  replace HM := HM.on z
  clear z
  refine lx_value (v := .bool false) F (F.want (t := 13) (c := false) rfl rfl rfl (by rfl) rfl) rfl (by rfl) (o_not (b := true) (r := false) (F.ev rfl) rfl) fun a F => ?_
  refine lx_value (v := .bool false) F (wanted_none rfl _) rfl (by rfl) (o_pick (b := false) (r := .bool false) (F.ev rfl) rfl (F.ev rfl) rfl) fun a F => ?_
  refine lx_nil ?_
  repeat (first | refine ex_then ?_ | refine ex_block ?_ | refine wp_seq ?_ | refine wp_block ?_ | refine wp_skip ?_)
  refine wp_cond_false (F.ev rfl) ?_
  repeat (first | refine ex_then ?_ | refine ex_block ?_ | refine wp_seq ?_ | refine wp_block ?_ | refine wp_skip ?_)
  refine wp_region_lit ?_
  refine lx_value (v := grp P Q G H) F (wanted_none rfl _) rfl (by rfl) (o_loadG (F.ev rfl) (HM.get 3 rfl)) fun a F => ?_
  refine lx_value (v := .slice pa n cap) F (wanted_none rfl _) rfl (by rfl) (o_move (F.ev rfl)) fun a F => ?_
  refine lx_value (v := num X) F (wanted_none rfl _) rfl (by rfl) (o_loadN (F.ev rfl) (HM.get 2 rfl)) fun a F => ?_
  refine lx_call F (wanted_none rfl _) rfl (by rfl) (run_callF Try.func21 (by kernel_rfl) (by rfl) (.cons (F.ev rfl) (.cons (F.ev rfl) (.cons (F.ev rfl) .nil))) _) (value_any P Q G H X n cap pa ps _ hQ h1 hXQ hp (r.call HM.bel HM.bel.size)) fun a w z F => ?_
  replace HM := HM.on z
  clear z
  refine lx_store F HM (wanted_none rfl _) rfl (k := 1) rfl (o_storeN (F.ev rfl) (F.ev rfl) (HM.get 1 rfl)) (M2 := [(gr, 24, (rows1 X)), (go, 24, ncs (sofN Q (evZ (zs ps) X))), (gx, 24, ncs X), (gg, 26, gcs P Q G H)]) (rfl) fun w HM => ?_
  refine lx_value (v := .int .i64 0) F (wanted_none rfl _) rfl (by rfl) (o_assign rfl) fun a F => ?_
  refine lx_nil ?_
  repeat (first | refine ex_then ?_ | refine ex_block ?_ | refine wp_seq ?_ | refine wp_block ?_ | refine wp_skip ?_)
  refine wp_ret ?_
  repeat (first | refine ex_thenR ?_ | refine ex_blockR ?_)
  exact sx_ret F HM (res_NI F (s := 6) (t := 7) rfl rfl rfl (HM.get 1 rfl))

theorem at_yes (P Q G H X n cap : Nat) (pa : Option Addr) (ps : List Nat) (w0 : World) (hQ : Q < 2 ^ 256) (h : atB Q X ps = true) (r : RN w0.heap.size w0 pa n cap ps) : Calls Try.prog 9 #[grp P Q G H, .slice pa n cap, num X] w0 fun e w' => e = .returned (.tuple #[num (sofN Q (evZ (zs ps) X)), .int .i64 0]) ∧ Below w0.heap.size w0 w' := by
  obtain ⟨h1, h2, h3⟩ := atB_iff.1 h
  unfold atB at h
  rw [Bool.and_eq_true] at h
  exact at_y P Q G H X n cap pa ps w0 hQ (Nat.lt_trans h2 hQ) r h.1 h.2 h1 h2 h3
theorem at_no (P Q G H X n cap : Nat) (pa : Option Addr) (ps : List Nat) (w0 : World) (hQ : Q < 2 ^ 256) (hX : X < 2 ^ 256) (h : atB Q X ps = false) (r : RN w0.heap.size w0 pa n cap ps) : Calls Try.prog 9 #[grp P Q G H, .slice pa n cap, num X] w0 fun e w' => e = .returned (.tuple #[num 0, .int .i64 1]) ∧ Below w0.heap.size w0 w' := by
  unfold atB at h
  by_cases hb : expB Q [X] = true
  · rw [hb, Bool.true_and] at h
    exact at_n2 P Q G H X n cap pa ps w0 hQ hX r hb h
  · exact at_n1 P Q G H X n cap pa ps w0 hQ hX r (Bool.eq_false_iff.2 hb)
set_option maxRecDepth 100000 in
set_option maxHeartbeats 800000 in
theorem noughtAt_any (P Q G H X gq lq capq n0 : Nat) (os : List Nat) (co : Array Value) (M : List (Nat × TypeId × Array Value)) (w0 w : World) (hQ : Q < 2 ^ 256) (h1 : 1 < Q) (hX : X < Q) (hos : ∀ c ∈ os, c < Q) (hco : Pf co os) (hlq : os.length = lq) (hbig : lq < 2000) (HM : Mem n0 w0 w ((gq, 24, co) :: M)) : Calls Try.prog 24 #[grp P Q G H, .slice (some ⟨gq, 0, none⟩) lq capq, num X] w fun e w2 => ∃ u, e = .returned u ∧ ∃ (gn capn : Nat) (cn : Array Value), u = .slice (some ⟨gn, 0, none⟩) (lq + 1) capn ∧ lq + 1 ≤ capn ∧ capn ≤ 9223372036854775807 ∧ Pf cn (nz Q os X) ∧ Mem n0 w0 w2 ((gn, 24, cn) :: ((gq, 24, co) :: M)) := by
  refine sx_enterW (args := [grp P Q G H, .slice (some ⟨gq, 0, none⟩) lq capq, num X]) HM Try.func24 rfl Try.ntmps24 (by rfl) fun a F HM => ?_
  repeat (first | refine ex_then ?_ | refine ex_block ?_ | refine wp_seq ?_ | refine wp_block ?_ | refine wp_skip ?_)
  refine wp_region_lit ?_
  refine lx_new F HM (wanted_none rfl _) rfl (by rfl) (o_boxG (F.ev rfl)) fun a w gg F HM => ?_
  refine lx_new F HM (wanted_none rfl _) rfl (by rfl) (o_boxN (F.ev rfl)) fun a w gx F HM => ?_
  refine lx_value (v := .slice none 0 0) F (wanted_none rfl _) rfl (by rfl) (o_assign rfl) fun a F => ?_
  refine lx_nil ?_
  repeat (first | refine ex_then ?_ | refine ex_block ?_ | refine wp_seq ?_ | refine wp_block ?_ | refine wp_skip ?_)
  refine wp_region_lit ?_
  refine lx_value (v := grp P Q G H) F (wanted_none rfl _) rfl (by rfl) (o_loadG (F.ev rfl) (HM.get 1 rfl)) fun a F => ?_
  refine lx_value (v := num 0) F (wanted_none rfl _) rfl (by rfl) (o_build0) fun a F => ?_
  refine lx_value (v := num X) F (wanted_none rfl _) rfl (by rfl) (o_loadN (F.ev rfl) (HM.get 0 rfl)) fun a F => ?_
  refine lx_call F (wanted_none rfl _) rfl (by rfl) (run_callF Try.func20 (by kernel_rfl) (by rfl) (.cons (F.ev rfl) (.cons (F.ev rfl) (.cons (F.ev rfl) .nil))) _) ((ssub_yes P Q G H 0 X hQ h1 (by omega) hX) _) fun a w z F => ?_
  replace HM := HM.on z
  clear z
  refine lx_value (v := .tuple #[num (((0 + Q - X) % Q)), .int .i64 0]) F (wanted_none rfl _) rfl (by rfl) (o_move (F.ev rfl)) fun a F => ?_
  refine lx_value (v := num (((0 + Q - X) % Q))) F (wanted_none rfl _) rfl (by rfl) (o_extract (F.ev rfl) rfl) fun a F => ?_
  refine lx_value (v := .int .i64 0) F (wanted_none rfl _) rfl (by rfl) (o_extract (F.ev rfl) rfl) fun a F => ?_
  refine lx_new F HM (wanted_none rfl _) rfl (by rfl) (o_allocN) fun a w gm F HM => ?_
  refine lx_store F HM (wanted_none rfl _) rfl (k := 0) rfl (o_storeN (F.ev rfl) (F.ev rfl) (HM.get 0 rfl)) (M2 := ((gm, 24, ncs (((0 + Q - X) % Q))) :: (gx, 24, ncs X) :: (gg, 26, gcs P Q G H) :: (gq, 24, co) :: M)) (rfl) fun w HM => ?_
  refine lx_value (v := .int .i64 0) F (wanted_none rfl _) rfl (by rfl) (o_assign (F.ev rfl)) fun a F => ?_
  refine lx_nil ?_
  rw [sof_negQ h1 hX] at HM
  repeat (first | refine ex_then ?_ | refine ex_block ?_ | refine wp_seq ?_ | refine wp_block ?_ | refine wp_skip ?_)
  refine wp_region_lit ?_
  refine lx_value (v := num 0) F (wanted_none rfl _) rfl (by rfl) o_build0 fun a F => ?_
  have hlt := HM.lt
  have hbb := Nat.le_trans HM.le HM.bel.size
  refine lx_row F (wanted_none rfl _) rfl (by rfl) (o_slice1 (F.ev rfl)) fun a w2 gr F hat zz hgr => ?_
  rw [← hgr] at hlt hbb
  replace HM := HM.on zz
  have hgs : gr ≤ w2.heap.size := Nat.le_of_lt hat.lt
  clear zz hgr
  refine lx_value (v := .slice (some ⟨gq, 0, none⟩) lq capq) F (wanted_none rfl _) rfl (by rfl) (o_move (F.ev rfl)) fun a F => ?_
  obtain ⟨v2, w3, hrun, hnr, hgw, _, _⟩ := run_appN (ρ := a.eval) (s := .tmp 18) (x := .tmp 19) (NR.one hat) (F.ev rfl) (F.ev rfl) hlq (hco.lie (HM.get 3 rfl)) (by simp; omega) hgs
  refine lx_value (v := v2) F (wanted_none rfl _) rfl (by rfl) hrun fun a F => ?_
  replace HM := HM.row (NR.one hat) hgw hlt hbb
  obtain ⟨gn, capn, cn, rfl, hgn, hatn, hcn1, hcn2, hpn⟩ := hnr.row (by simp)
  replace HM := HM.add (Nat.le_trans hbb hgn) (fun x hx => by have := hlt x hx; omega) hatn
  have hln : ([0] ++ os).length = lq + 1 := by simp [hlq]
  rw [hln] at F hcn1
  clear hrun hnr hgw hatn hat hlt
  refine lx_value (v := .slice (some ⟨gn, 0, none⟩) (lq + 1) capn) F (wanted_none rfl _) rfl (by rfl) (o_assign (F.ev rfl)) fun a F => ?_
  refine lx_nil ?_
  replace HM := HM.front 4 rfl (M2 := ((gq, 24, co) :: (gn, 24, cn) :: (gm, 24, ncs (sofN Q (-(X : Int)))) :: (gx, 24, ncs X) :: (gg, 26, gcs P Q G H) :: M)) rfl
  replace HM := HM.front 1 rfl (M2 := ((gn, 24, cn) :: (gq, 24, co) :: (gm, 24, ncs (sofN Q (-(X : Int)))) :: (gx, 24, ncs X) :: (gg, 26, gcs P Q G H) :: M)) rfl
  have hos2 : ∀ c ∈ [0] ++ os, c < Q := fun c hc => by rcases List.mem_append.1 hc with hc | hc; (· rw [List.mem_singleton.1 hc]; omega); exact hos c hc
  repeat (first | refine ex_then ?_ | refine ex_block ?_ | refine wp_seq ?_ | refine wp_block ?_ | refine wp_skip ?_)
  refine wp_region_lit ?_
  refine lx_value (v := grp P Q G H) F (wanted_none rfl _) rfl (by rfl) (o_loadG (F.ev rfl) (HM.get 4 rfl)) fun a F => ?_
  refine lx_value (v := .slice (some ⟨gn, 0, none⟩) (lq + 1) capn) F (wanted_none rfl _) rfl (by rfl) (o_move (F.ev rfl)) fun a F => ?_
  refine lx_value (v := .slice (some ⟨gq, 0, none⟩) lq capq) F (wanted_none rfl _) rfl (by rfl) (o_move (F.ev rfl)) fun a F => ?_
  refine lx_value (v := num (sofN Q (-(X : Int)))) F (wanted_none rfl _) rfl (by rfl) (o_loadN (F.ev rfl) (HM.get 2 rfl)) fun a F => ?_
  refine lx_call F (wanted_none rfl _) rfl (by rfl) (run_callF Try.func23 (by kernel_rfl) (by rfl) (.cons (F.ev rfl) (.cons (F.ev rfl) (.cons (F.ev rfl) (.cons (F.ev rfl) .nil)))) _) (addTimes_any P Q G H _ gn gq (lq + 1) capn lq capq _ ([0] ++ os) os cn co _ _ _ hQ h1 (sof_lt h1 _) hos2 hos hpn hco hln hlq (by omega) (by omega) HM) fun a w hu F => ?_
  obtain ⟨cn2, hpn2, HM⟩ := hu
  refine lx_nil ?_
  repeat (first | refine ex_then ?_ | refine ex_block ?_ | refine wp_seq ?_ | refine wp_block ?_ | refine wp_skip ?_)
  refine wp_region_lit ?_
  refine lx_value (v := .slice (some ⟨gn, 0, none⟩) (lq + 1) capn) F (wanted_none rfl _) rfl (by rfl) (o_move (F.ev rfl)) fun a F => ?_
  refine lx_value (v := .slice (some ⟨gn, 0, none⟩) (lq + 1) capn) F (wanted_none rfl _) rfl (by rfl) (o_assign (F.ev rfl)) fun a F => ?_
  refine lx_nil ?_
  replace HM := HM.erase 2 (M2 := ((gn, 24, cn2) :: (gq, 24, co) :: (gx, 24, ncs X) :: (gg, 26, gcs P Q G H) :: M)) rfl
  replace HM := HM.erase 2 (M2 := ((gn, 24, cn2) :: (gq, 24, co) :: (gg, 26, gcs P Q G H) :: M)) rfl
  replace HM := HM.erase 2 (M2 := ((gn, 24, cn2) :: (gq, 24, co) :: M)) rfl
  repeat (first | refine ex_then ?_ | refine ex_block ?_ | refine wp_seq ?_ | refine wp_block ?_ | refine wp_skip ?_)
  refine wp_ret ?_
  repeat (first | refine ex_thenR ?_ | refine ex_blockR ?_)
  exact bodyPost_ret (res_tmp F rfl (s := 6) rfl) F.defers ⟨_, rfl, gn, capn, cn2, rfl, hcn1, hcn2, hpn2, HM⟩

theorem o_make {dst : Option Tmp} {ρ : Operand → Value} {w : World} {x y : Operand} {ty : TypeId} {pos : String} {after : Array Edge} {gd : Option (Nat × Bool)} {n : Nat} (hn : n ≤ 2000) (hx : ρ x = .int .i64 (n : Nat)) (hy : ρ y = .int .i64 (n : Nat)) :
    (execOp ρ ⟨dst, .makeSlice 27 x y, ty, pos, after, gd⟩).run Try.prog w = .ok (.value (.slice (some ⟨w.heap.size, 0, none⟩) n n)) (w.alloc (.cells (madeCells (num 0).cells (n * 4)) 24)) := by
  obtain ⟨i0, hi, hz0, hz1, hz2⟩ := info_parts Try.infoNum
  have := run_makeSlice (P := Try.prog) w 27 24 i0 _ Try.underlying27 hi hz0 .i64 .i64 (n : Int) (n : Int) (by omega) (Int.le_refl _) (by rw [hz1]; omega) (by rw [hz2]; omega) (by omega)
  rw [hz1] at this
  simp only [Int.toNat_natCast] at this
  simp [execOp, hx, hy, this]
theorem Pf.made (n : Nat) : Pf (madeCells (num 0).cells (n * 4)) (List.replicate n 0) := by
  have hs : (madeCells (num 0).cells (n * 4)).size = n * 4 := by simp [madeCells]
  refine ⟨Nat.le_of_eq (by rw [List.length_replicate, hs]), fun i hi k hk => ?_⟩
  rw [List.length_replicate] at hi
  have hlt : i * 4 + k < n * 4 := by omega
  have hm : (i * 4 + k) % 4 = k := by omega
  rw [List.getElem_replicate]
  have h0 : (num 0).cells = #[.int .u64 (wd 0 0 : Nat), .int .u64 (wd 0 1 : Nat), .int .u64 (wd 0 2 : Nat), .int .u64 (wd 0 3 : Nat)] := rfl
  simp only [madeCells]
  rw [Array.getElem?_map, Array.getElem?_range, if_pos hlt]
  simp only [Option.map_some, h0]
  rw [show (#[.int .u64 (wd 0 0 : Nat), .int .u64 (wd 0 1 : Nat), .int .u64 (wd 0 2 : Nat), .int .u64 (wd 0 3 : Nat)] : Array Value).size = 4 from rfl, hm]
  match k, hk with
  | 0, _ => rfl
  | 1, _ => rfl
  | 2, _ => rfl
  | 3, _ => rfl
end Go.Proofs.Ytfjploahkodekaa
