/-
 alive of layer 8, and what it calls.
-/
import Derived.Deep.Cut
import Derived.Test.YtbggihkigblnfaaWAlive7
import Derived.Test.YtbggihkigblnfaaWGChk
import Derived.Test.YtbggihkigblnfaaWProd
import Derived.Test.YtbggihkigblnfaaWSxF
import Derived.Test.YtbggihkigblnfaaWTree
namespace Go.Proofs.Ytbggihkigblnfaa
set_option maxRecDepth 100000
open Go.RowKit
set_option linter.unusedSimpArgs false
set_option linter.unusedVariables false
attribute [local go_sem ↓] Go.wp_at_zero Go.wp_at_succ

theorem res_N {fn : Func} {a : Act} {N : Nat} {L : List (Nat × Value)} {df : List Deferred} {w : World} (F : Fr a N L df) {s gs X : Nat} (hf : fn.results = #[.cell s 24]) (h1 : lk L s = some (.pointer (some ⟨gs, 0, none⟩)))
  (A1 : At w gs 24 (ncs X)) : (results fn a.tmps).run Try.prog w = .ok (num X) w := by
 have e1 := F.get s _ h1
 rw [Array.getD_eq_getD_getElem?] at e1
 have c0 : w.cell? ⟨gs, 0, none⟩ = some (.int .u64 (wd X 0 : Nat)) := A1.cell 0
 have c1 : w.cell? ⟨gs, 1, none⟩ = some (.int .u64 (wd X 1 : Nat)) := A1.cell 1
 have c2 : w.cell? ⟨gs, 2, none⟩ = some (.int .u64 (wd X 2 : Nat)) := A1.cell 2
 have c3 : w.cell? ⟨gs, 3, none⟩ = some (.int .u64 (wd X 3 : Nat)) := A1.cell 3
 simp [results, hf, go_sem, e1, c0, c1, c2, c3]
theorem res_G {fn : Func} {a : Act} {N : Nat} {L : List (Nat × Value)} {df : List Deferred} {w : World} (F : Fr a N L df) {s gs P Q G H : Nat} (hf : fn.results = #[.cell s 35]) (h1 : lk L s = some (.pointer (some ⟨gs, 0, none⟩)))
  (A1 : At w gs 35 (gcs P Q G H)) : (results fn a.tmps).run Try.prog w = .ok (grp P Q G H) w := by
 have e1 := F.get s _ h1
 rw [Array.getD_eq_getD_getElem?] at e1
 have c0 : w.cell? ⟨gs, 0, none⟩ = some (.int .u64 (wd P 0 : Nat)) := A1.cell 0
 have c1 : w.cell? ⟨gs, 1, none⟩ = some (.int .u64 (wd P 1 : Nat)) := A1.cell 1
 have c2 : w.cell? ⟨gs, 2, none⟩ = some (.int .u64 (wd P 2 : Nat)) := A1.cell 2
 have c3 : w.cell? ⟨gs, 3, none⟩ = some (.int .u64 (wd P 3 : Nat)) := A1.cell 3
 have c4 : w.cell? ⟨gs, 4, none⟩ = some (.int .u64 (wd Q 0 : Nat)) := A1.cell 4
 have c5 : w.cell? ⟨gs, 5, none⟩ = some (.int .u64 (wd Q 1 : Nat)) := A1.cell 5
 have c6 : w.cell? ⟨gs, 6, none⟩ = some (.int .u64 (wd Q 2 : Nat)) := A1.cell 6
 have c7 : w.cell? ⟨gs, 7, none⟩ = some (.int .u64 (wd Q 3 : Nat)) := A1.cell 7
 have c8 : w.cell? ⟨gs, 8, none⟩ = some (.int .u64 (wd G 0 : Nat)) := A1.cell 8
 have c9 : w.cell? ⟨gs, 9, none⟩ = some (.int .u64 (wd G 1 : Nat)) := A1.cell 9
 have c10 : w.cell? ⟨gs, 10, none⟩ = some (.int .u64 (wd G 2 : Nat)) := A1.cell 10
 have c11 : w.cell? ⟨gs, 11, none⟩ = some (.int .u64 (wd G 3 : Nat)) := A1.cell 11
 have c12 : w.cell? ⟨gs, 12, none⟩ = some (.int .u64 (wd H 0 : Nat)) := A1.cell 12
 have c13 : w.cell? ⟨gs, 13, none⟩ = some (.int .u64 (wd H 1 : Nat)) := A1.cell 13
 have c14 : w.cell? ⟨gs, 14, none⟩ = some (.int .u64 (wd H 2 : Nat)) := A1.cell 14
 have c15 : w.cell? ⟨gs, 15, none⟩ = some (.int .u64 (wd H 3 : Nat)) := A1.cell 15
 simp [results, hf, go_sem, e1, c0, c1, c2, c3, c4, c5, c6, c7, c8, c9, c10, c11, c12, c13, c14, c15]
theorem nsl2 {w : World} {g X Y : Nat} (hX : X < 2 ^ 256) (hY : Y < 2 ^ 256) (h : At w g 24 (rows2 X Y)) : NSl (g + 1) w (some ⟨g, 0, none⟩) 2 [X, Y] :=
 ⟨Nat.le_refl _, by decide, fun x hx => by
  rcases List.mem_cons.1 hx with rfl | hx
  ·exact hX
  ·rw [List.mem_singleton.1 hx]; exact hY, Or.inr ⟨g, 0, rfl, by omega, fun i hi k hk => by
  match i, hi, k, hk with
  | 0, _, 0, _ => exact h.cell 0
  | 0, _, 1, _ => exact h.cell 1
  | 0, _, 2, _ => exact h.cell 2
  | 0, _, 3, _ => exact h.cell 3
  | 1, _, 0, _ => exact h.cell 4
  | 1, _, 1, _ => exact h.cell 5
  | 1, _, 2, _ => exact h.cell 6
  | 1, _, 3, _ => exact h.cell 7⟩⟩
theorem NSl.up {n m : Nat} {w : World} {a : Option Addr} {cap : Nat} {xs : List Nat} (h : NSl n w a cap xs) (hm : n ≤ m) : NSl m w a cap xs := ⟨h.1, h.2.1, h.2.2.1, h.2.2.2.imp id fun ⟨g, o, ha, hg, hc⟩ => ⟨g, o, ha, Nat.lt_of_lt_of_le hg hm, hc⟩⟩
theorem of8_any (x : Nat) (hx : x < 18446744073709551616) (w : World) : Calls Try.prog 22 #[.int .u64 (x : Nat)] w fun e w' => e = .returned (num x) ∧ Below w.heap.size w w' := by
 refine sx_enter (args := [.int .u64 (x : Nat)]) Try.func22 rfl Try.ntmps22 (by rfl) fun a F HM => ?_
 repeat (first | refine ex_then ?_ | refine ex_block ?_ | refine wp_seq ?_ | refine wp_block ?_ | refine wp_skip ?_)
 refine wp_region_lit ?_
 refine lx_new F HM (wanted_none rfl _) rfl (by rfl) (o_allocN) fun a w go F HM => ?_
 refine lx_nil ?_
 repeat (first | refine ex_then ?_ | refine ex_block ?_ | refine wp_seq ?_ | refine wp_block ?_ | refine wp_skip ?_)
 refine wp_region_lit ?_
 refine lx_value (v := .int .u64 (x : Nat)) F (wanted_none rfl _) rfl (by rfl) (o_move (F.ev rfl)) fun a F => ?_
 refine lx_call F (wanted_none rfl _) rfl (by rfl) (run_callF Try.func36 (by kernel_rfl) (by rfl) (.cons (F.ev rfl) .nil) _) ((fun w => of_any x hx w) _) fun a w z F => ?_
 replace HM := HM.on z
 clear z
 refine lx_store F HM (wanted_none rfl _) rfl (k := 0) rfl (o_storeN (F.ev rfl) (F.ev rfl) (HM.get 0 rfl)) (M2 := [(go, 24, ncs x)]) rfl fun w HM => ?_
 refine lx_nil ?_
 repeat (first | refine ex_then ?_ | refine ex_block ?_ | refine wp_seq ?_ | refine wp_block ?_ | refine wp_skip ?_)
 refine wp_ret ?_
 repeat (first | refine ex_thenR ?_ | refine ex_blockR ?_)
 exact sx_ret F HM (res_N F (s := 2) rfl rfl (HM.get 0 rfl))
theorem known8_any (w : World) : Calls Try.prog 45 #[] w fun e w' => e = .returned (grp 23 11 4 9) ∧ Below w.heap.size w w' := by
 refine sx_enter (args := []) Try.func45 rfl Try.ntmps45 (by rfl) fun a F HM => ?_
 repeat (first | refine ex_then ?_ | refine ex_block ?_ | refine wp_seq ?_ | refine wp_block ?_ | refine wp_skip ?_)
 refine wp_region_lit ?_
 refine lx_new F HM (wanted_none rfl _) rfl (by rfl) (o_allocG) fun a w go F HM => ?_
 refine lx_nil ?_
 repeat (first | refine ex_then ?_ | refine ex_block ?_ | refine wp_seq ?_ | refine wp_block ?_ | refine wp_skip ?_)
 refine wp_region_lit ?_
 refine lx_call F (wanted_none rfl _) rfl (by rfl) (run_callF Try.func22 (by kernel_rfl) (by rfl) (.cons rfl .nil) _) ((fun w => of8_any 23 (by decide) w) _) fun a w z F => ?_
 replace HM := HM.on z
 clear z
 refine lx_call F (wanted_none rfl _) rfl (by rfl) (run_callF Try.func22 (by kernel_rfl) (by rfl) (.cons rfl .nil) _) ((fun w => of8_any 11 (by decide) w) _) fun a w z F => ?_
 replace HM := HM.on z
 clear z
 refine lx_call F (wanted_none rfl _) rfl (by rfl) (run_callF Try.func22 (by kernel_rfl) (by rfl) (.cons rfl .nil) _) ((fun w => of8_any 4 (by decide) w) _) fun a w z F => ?_
 replace HM := HM.on z
 clear z
 refine lx_call F (wanted_none rfl _) rfl (by rfl) (run_callF Try.func22 (by kernel_rfl) (by rfl) (.cons rfl .nil) _) ((fun w => of8_any 9 (by decide) w) _) fun a w z F => ?_
 replace HM := HM.on z
 clear z
 refine lx_value (v := grp 23 11 4 9) F (wanted_none rfl _) rfl (by rfl) (o_buildG (F.ev rfl) (F.ev rfl) (F.ev rfl) (F.ev rfl)) fun a F => ?_
 refine lx_store F HM (wanted_none rfl _) rfl (k := 0) rfl (o_storeG (F.ev rfl) (F.ev rfl) (HM.get 0 rfl)) (M2 := [(go, 35, gcs 23 11 4 9)]) rfl fun w HM => ?_
 refine lx_nil ?_
 repeat (first | refine ex_then ?_ | refine ex_block ?_ | refine wp_seq ?_ | refine wp_block ?_ | refine wp_skip ?_)
 refine wp_ret ?_
 repeat (first | refine ex_thenR ?_ | refine ex_blockR ?_)
 exact sx_ret F HM (res_G F (s := 0) rfl rfl (HM.get 0 rfl))
theorem is8_any (X : Nat) (hX : X < 18446744073709551616) (w : World) : Calls Try.prog 46 #[num X, .int .i64 0, .int .u64 (X : Nat)] w fun e w' => e = .returned (.bool true) ∧ Below w.heap.size w w' := by
 refine sx_enter (args := [num X, .int .i64 0, .int .u64 (X : Nat)]) Try.func46 rfl Try.ntmps46 (by rfl) fun a F HM => ?_
 repeat (first | refine ex_then ?_ | refine ex_block ?_ | refine wp_seq ?_ | refine wp_block ?_ | refine wp_skip ?_)
 refine wp_region_lit ?_
 refine lx_new F HM (wanted_none rfl _) rfl (by rfl) (o_boxN (F.ev rfl)) fun a w ga F HM => ?_
 refine lx_value (v := .bool false) F (wanted_none rfl _) rfl (by rfl) (o_assign rfl) fun a F => ?_
 refine lx_nil ?_
 repeat (first | refine ex_then ?_ | refine ex_block ?_ | refine wp_seq ?_ | refine wp_block ?_ | refine wp_skip ?_)
 try simp only [List.append_eq, List.cons_append, List.nil_append]
 refine sx_drawn [⟨0, 7, [], .val (.int .i64 0), true⟩,
   ⟨1, 8, [0], .val (.bool true), true⟩,
   ⟨2, 9, [1], .val (.bool true), true⟩,
   ⟨3, 10, [2], .val (num X), true⟩,
   ⟨4, 11, [2, 3], .val (.int .u64 (X : Nat)), true⟩,
   ⟨5, 12, [2, 4], .val (num X), false⟩,
   ⟨6, 13, [2, 3, 5], .val (.bool true), true⟩,
   ⟨7, 14, [2, 6], .val (.bool true), true⟩] 1 F HM (by kernel_rfl) (by rfl) (by rfl) ?_ ?_ ?_ ?_ ?_ ?_ ?_
 ·kernel_rfl
 ·exact of_decide_eq_true (by kernel_rfl)
 ·(repeat refine all_cons ⟨_, by rfl, by rfl⟩ ?_); exact all_nil
 ·kernel_rfl
 ·(repeat (refine all_cons ?_ ?_; rotate_left)); exact all_nil
  ·exact coreS _ _ _ _ _ _ _ (by rfl) (by rfl) (wants_none) (fun ρ w kn hs => o_move (kn _ _ (F.old (by rfl) rfl)))
  ·exact coreS _ _ _ _ _ _ _ (by rfl) (by rfl) (wants_none) (fun ρ w kn hs => o_bin (u := .int .i64 0) (v := .int .i64 0) (fun ρ hx hy => by simp only [execOp, hx, hy]; simp [go_sem]) (kn _ _ (kc 0 7)) (kn _ _ (known_const _)))
  ·exact coreS _ _ _ _ _ _ _ (by rfl) (by rfl) (wants_none) (fun ρ w kn hs => o_move (kn _ _ (kc 1 8)))
  ·exact coreS _ _ _ _ _ _ _ (by rfl) (by rfl) (wc 2 9 2 (kc 2 9)) (fun ρ w kn hs => o_loadN (kn _ _ (F.old (by rfl) rfl)) (hs.get 0 rfl))
  ·exact coreS _ _ _ _ _ _ _ (by rfl) (by rfl) (wc 2 9 2 (kc 2 9)) (fun ρ w kn hs => o_move (kn _ _ (F.old (by rfl) rfl)))
  ·exact core_pureAs _ (by rfl)
  ·exact coreS _ _ _ _ _ _ _ (by rfl) (by rfl) (wc 2 9 2 (kc 2 9)) (fun ρ w kn hs => o_eqlS (kn _ _ (kc 3 10)) (kn _ _ (kc 5 12)))
  ·exact coreS _ _ _ _ _ _ _ (by rfl) (by rfl) (wants_none) (fun ρ w kn hs => o_pick (b := true) (r := .bool true) (kn _ _ (kc 2 9)) (kn _ _ (kc 6 13)) (kn _ _ (known_const _)) rfl)
 ·(repeat (refine all_cons ?_ ?_; rotate_left)); exact all_nil
  ·exact sA
  ·exact sA
  ·exact sA
  ·exact sA
  ·exact sA
  ·exact fun _ => coreG_call _ 22 _ _ [.tmp 11] _ _ _ _ _ _ _ (by rfl) Try.func22 (by kernel_rfl) (by rfl) (by rfl) (wc 2 9 2 (kc 2 9)) (.cons (kc 4 11) .nil) ((fun w => of8_any X hX w))
  ·exact sA
  ·exact sA
 intro gs rs a w hgs hrs F HM
 obtain rfl := nl0 rs hrs
 clear hrs
 obtain rfl := nl0 gs hgs
 clear hgs
 refine sx_assign (i := 8) (d := 6) (x := .tmp 14) (v := .bool true) F (HM) (by kernel_rfl) (by rfl) (by rfl) (F.ev rfl) fun a F => ?_
 refine sx_done (by kernel_rfl) ?_ _
 repeat (first | refine ex_then ?_ | refine ex_block ?_ | refine wp_seq ?_ | refine wp_block ?_ | refine wp_skip ?_)
 refine wp_ret ?_
 repeat (first | refine ex_thenR ?_ | refine ex_blockR ?_)
 exact sx_ret F HM (res_tmp F rfl (s := 6) rfl)
theorem pri_23 : Pr.Pri 23 := pri_by 3 (by decide) (by decide) (by decide +kernel)
theorem pri_11 : Pr.Pri 11 := pri_by 2 (by decide) (by decide) (by decide +kernel)
theorem holds_23 : (Pr.Rsn.mk 23 0 []).holds = true := by simp [Pr.Rsn.holds, Pr.Rsn.cnt, Pr.cnts, Pr.Rsn.ok, Pr.priB_iff.mpr pri_23]
theorem holds_11 : (Pr.Rsn.mk 11 0 []).holds = true := by simp [Pr.Rsn.holds, Pr.Rsn.cnt, Pr.cnts, Pr.Rsn.ok, Pr.priB_iff.mpr pri_11]
theorem sl_nil (w : World) : Sl w none 0 [] := ⟨Nat.le_refl _, Nat.zero_le _, fun _ => rfl, Or.inl rfl⟩
theorem k_in4 (w : World) : Calls Try.prog 20 #[grp 23 11 4 9, num 4] w fun e w' => e = .returned (.bool true) ∧ Below w.heap.size w w' := by
 have := gin_any 23 11 4 9 4 (by decide) (by decide) (by decide) w
 rwa [show inB 23 11 4 = true from by decide +kernel] at this
theorem k_in5 (w : World) : Calls Try.prog 20 #[grp 23 11 4 9, num 5] w fun e w' => e = .returned (.bool false) ∧ Below w.heap.size w w' := by
 have := gin_any 23 11 4 9 5 (by decide) (by decide) (by decide) w
 rwa [show inB 23 11 5 = false from by decide +kernel] at this
theorem k_in0 (w : World) : Calls Try.prog 20 #[grp 23 11 4 9, num 0] w fun e w' => e = .returned (.bool false) ∧ Below w.heap.size w w' := by
 have := gin_any 23 11 4 9 0 (by decide) (by decide) (by decide) w
 rwa [show inB 23 11 0 = false from by decide +kernel] at this
theorem k_ck1 (w : World) : Calls Try.prog 47 #[grp 23 11 4 9, rv 23 0 (.slice none 0 0), rv 11 0 (.slice none 0 0)] w fun e w' => e = .returned (.bool true) ∧ Below w.heap.size w w' := by
 have := check8_any 23 11 4 9 (.mk 23 0 []) (.mk 11 0 []) none none 0 0 w (by decide) (by decide) (by decide) (by decide) (by decide) (by decide) (by decide) (by decide) (sl_nil w) (sl_nil w)
 rw [holds_23, holds_11] at this
 rwa [show ((decide ((Pr.Rsn.mk 23 0 []).n = 23) && decide ((Pr.Rsn.mk 11 0 []).n = 11)) && goesB 11 23 && true && true && genB 23 11 4 && genB 23 11 9) = true from by decide +kernel] at this
theorem k_ck2 (w : World) : Calls Try.prog 47 #[grp 23 11 4 9, rv 11 0 (.slice none 0 0), rv 23 0 (.slice none 0 0)] w fun e w' => e = .returned (.bool false) ∧ Below w.heap.size w w' := by
 have := check8_any 23 11 4 9 (.mk 11 0 []) (.mk 23 0 []) none none 0 0 w (by decide) (by decide) (by decide) (by decide) (by decide) (by decide) (by decide) (by decide) (sl_nil w) (sl_nil w)
 rw [holds_23, holds_11] at this
 rwa [show ((decide ((Pr.Rsn.mk 11 0 []).n = 23) && decide ((Pr.Rsn.mk 23 0 []).n = 11)) && goesB 11 23 && true && true && genB 23 11 4 && genB 23 11 9) = false from by decide +kernel] at this
theorem k_mul (w : World) : Calls Try.prog 14 #[grp 23 11 4 9, num 4, num 9] w fun e w' => e = .returned (.tuple #[num 13, .int .i64 0]) ∧ Below w.heap.size w w' := by
 have := gmul_yes 23 11 4 9 4 9 (by decide) (by decide) (by decide) (by decide +kernel) (by decide +kernel) w
 rwa [show 4 * 9 % 23 = 13 from by decide] at this
theorem k_exp (w : World) : Calls Try.prog 16 #[grp 23 11 4 9, num 4, num 11] w fun e w' => e = .returned (.tuple #[num 1, .int .i64 0]) ∧ Below w.heap.size w w' := by
 have := gexp_yes 23 11 4 9 4 11 (by decide) (by decide) (by decide) (by decide +kernel) w
 rwa [show 4 ^ 11 % 23 = 1 from by decide] at this
theorem k_inv (w : World) : Calls Try.prog 15 #[grp 23 11 4 9, num 4] w fun e w' => e = .returned (.tuple #[num 6, .int .i64 0]) ∧ Below w.heap.size w w' :=
 ginv_yes 23 11 4 9 4 6 (by decide) (by decide) (by decide +kernel) (by decide) (by decide) w
theorem k_mul0 (w : World) : Calls Try.prog 14 #[grp 23 11 4 9, num 0, num 4] w fun e w' => e = .returned (.tuple #[num 0, .int .i64 1]) ∧ Below w.heap.size w w' :=
 gmul_no 23 11 4 9 0 4 (by decide) (by decide) (by decide) (by decide +kernel) w
def np (a b : Nat) (ha : a < 2 ^ 256) (hb : b < 2 ^ 256) : NP := ⟨(a, b), ha, hb⟩
theorem k_prod (w : World) (g h : Nat) (hg : At w g 24 (rows2 4 9)) (hh : At w h 24 (rows2 1 2)) : Calls Try.prog 28 #[grp 23 11 4 9, .slice (some ⟨g, 0, none⟩) 2 2, .slice (some ⟨h, 0, none⟩) 2 2] w fun e w' => e = .returned (.tuple #[num 2, .int .i64 0]) ∧ Below w.heap.size w w' := by
 have := prod_good 23 11 4 9 [np 4 1 (by decide) (by decide), np 9 2 (by decide) (by decide)] (some ⟨g, 0, none⟩) (some ⟨h, 0, none⟩) 2 2 (by decide) (by decide) w ((nsl2 (by decide) (by decide) hg).up hg.lt) ((nsl2 (by decide) (by decide) hh).up hh.lt)
 rw [if_pos (show mayAll 23 [np 4 1 (by decide) (by decide), np 9 2 (by decide) (by decide)] = true from by decide +kernel)] at this
 rwa [show prodN 23 [np 4 1 (by decide) (by decide), np 9 2 (by decide) (by decide)] = 2 from by decide +kernel] at this
set_option maxRecDepth 100000 in
set_option maxHeartbeats 8000000 in
theorem prod_low (P Q G H la ca lb cb : Nat) (pa pb : Option Addr) (hP : P < 2 ^ 256) (hk : cmpN P 1 ≤ 0) (w : World) : Calls Try.prog 28 #[grp P Q G H, .slice pa la ca, .slice pb lb cb] w fun e w' => e = .returned (.tuple #[num 0, .int .i64 1]) ∧ Below w.heap.size w w' := by
 refine sx_enter (args := [grp P Q G H, .slice pa la ca, .slice pb lb cb]) Try.func28 rfl Try.ntmps28 (by rfl) fun a F HM => ?_
 repeat (first | refine ex_then ?_ | refine ex_block ?_ | refine wp_seq ?_ | refine wp_block ?_ | refine wp_skip ?_)
 refine wp_region_lit ?_
 refine lx_new F HM (wanted_none rfl _) rfl (by rfl) (o_boxG (F.ev rfl)) fun a w gr F HM => ?_
 refine lx_new F HM (wanted_none rfl _) rfl (by rfl) (o_allocN) fun a w go F HM => ?_
 refine lx_new F HM (wanted_none rfl _) rfl (by rfl) (o_allocE) fun a w ge F HM => ?_
 refine lx_nil ?_
 repeat (first | refine ex_then ?_ | refine ex_block ?_ | refine wp_seq ?_ | refine wp_block ?_ | refine wp_skip ?_)
 refine wp_region_lit ?_
 refine lx_call F (wanted_none rfl _) rfl (by rfl) (run_callF Try.func36 (by kernel_rfl) (by rfl) (.cons rfl .nil) _) ((fun w => of_any 1 (by decide) w) _) fun a w z F => ?_
 replace HM := HM.on z
 clear z
 refine lx_new F HM (wanted_none rfl _) rfl (by rfl) (o_allocN) fun a w gl F HM => ?_
 refine lx_store F HM (wanted_none rfl _) rfl (k := 0) rfl (o_storeN (F.ev rfl) (F.ev rfl) (HM.get 0 rfl)) (M2 := [(gl, 24, ncs 1), (ge, 36, #[.int .i64 0]), (go, 24, ncs 0), (gr, 35, gcs P Q G H)]) rfl fun w HM => ?_
 refine lx_nil ?_
 repeat (first | refine ex_then ?_ | refine ex_block ?_ | refine wp_seq ?_ | refine wp_block ?_ | refine wp_skip ?_)
 refine wp_region_lit ?_
 refine lx_value (v := .pointer (some ⟨gr, 0, none⟩)) F (wanted_none rfl _) rfl (by rfl) (o_fieldG0 (F.ev rfl)) fun a F => ?_
 refine lx_value (v := num P) F (wanted_none rfl _) rfl (by rfl) (o_loadG0 (F.ev rfl) (HM.get 3 rfl)) fun a F => ?_
 refine lx_value (v := num 1) F (wanted_none rfl _) rfl (by rfl) (o_loadN (F.ev rfl) (HM.get 0 rfl)) fun a F => ?_
 refine lx_call F (wanted_none rfl _) rfl (by rfl) (run_callF Try.func29 (by kernel_rfl) (by rfl) (.cons (F.ev rfl) (.cons (F.ev rfl) .nil)) _) ((fun w => cmp_any P 1 hP (by decide) w) _) fun a w z F => ?_
 replace HM := HM.on z
 clear z
 refine lx_value (v := .bool true) F (wanted_none rfl _) rfl (by rfl) (o_bin (u := .int .i64 (cmpN P 1)) (v := .int .i64 0) (fun ρ hx hy => by simp only [execOp, hx, hy]; simp [go_sem]; exact hk) (F.ev rfl) rfl) fun a F => ?_
 refine lx_value (v := .bool true) F (wanted_none rfl _) rfl (by rfl) (o_move (F.ev rfl)) fun a F => ?_
 refine lx_pass F (F.want (t := 19) (c := true) rfl rfl rfl (by rfl) rfl) rfl (by rfl) fun a F => ?_
 refine lx_pass F (F.want (t := 19) (c := true) rfl rfl rfl (by rfl) rfl) rfl (by rfl) fun a F => ?_
 refine lx_pass F (F.want (t := 19) (c := true) rfl rfl rfl (by rfl) rfl) rfl (by rfl) fun a F => ?_
 refine lx_pass F (F.want (t := 19) (c := true) rfl rfl rfl (by rfl) rfl) rfl (by rfl) fun a F => ?_
 refine lx_pass F (F.want (t := 19) (c := true) rfl rfl rfl (by rfl) rfl) rfl (by rfl) fun a F => ?_
 refine lx_value (v := .bool true) F (wanted_none rfl _) rfl (by rfl) (o_pick (b := true) (r := .bool true) (F.ev rfl) rfl (F.ev rfl) rfl) fun a F => ?_
 refine lx_nil ?_
 repeat (first | refine ex_then ?_ | refine ex_block ?_ | refine wp_seq ?_ | refine wp_block ?_ | refine wp_skip ?_)
 refine wp_cond_true (F.ev rfl) ?_
 repeat (first | refine ex_then ?_ | refine ex_block ?_ | refine wp_seq ?_ | refine wp_block ?_ | refine wp_skip ?_)
 refine wp_region_lit ?_
 refine lx_value (v := num 0) F (wanted_none rfl _) rfl (by rfl) (o_build0) fun a F => ?_
 refine lx_store F HM (wanted_none rfl _) rfl (k := 2) rfl (o_storeN (F.ev rfl) (F.ev rfl) (HM.get 2 rfl)) (M2 := [(gl, 24, ncs 1), (ge, 36, #[.int .i64 0]), (go, 24, ncs 0), (gr, 35, gcs P Q G H)]) rfl fun w HM => ?_
 refine lx_store F HM (wanted_none rfl _) rfl (k := 1) rfl (o_storeE (F.ev rfl) rfl (HM.get 1 rfl)) (M2 := [(gl, 24, ncs 1), (ge, 36, #[.int .i64 1]), (go, 24, ncs 0), (gr, 35, gcs P Q G H)]) rfl fun w HM => ?_
 refine lx_nil ?_
 repeat (first | refine ex_then ?_ | refine ex_block ?_ | refine wp_seq ?_ | refine wp_block ?_ | refine wp_skip ?_)
 refine wp_ret ?_
 repeat (first | refine ex_thenR ?_ | refine ex_blockR ?_)
 exact sx_ret F HM (res_NE F (s := 6) (t := 7) rfl rfl rfl (HM.get 2 rfl) (HM.get 1 rfl))

set_option maxRecDepth 100000 in
set_option maxHeartbeats 8000000 in
theorem prod_len (P Q G H la ca lb cb : Nat) (pa pb : Option Addr) (hP : P < 2 ^ 256) (hk : 0 < cmpN P 1) (hl : ¬ la = lb) (w : World) : Calls Try.prog 28 #[grp P Q G H, .slice pa la ca, .slice pb lb cb] w fun e w' => e = .returned (.tuple #[num 0, .int .i64 1]) ∧ Below w.heap.size w w' := by
 refine sx_enter (args := [grp P Q G H, .slice pa la ca, .slice pb lb cb]) Try.func28 rfl Try.ntmps28 (by rfl) fun a F HM => ?_
 repeat (first | refine ex_then ?_ | refine ex_block ?_ | refine wp_seq ?_ | refine wp_block ?_ | refine wp_skip ?_)
 refine wp_region_lit ?_
 refine lx_new F HM (wanted_none rfl _) rfl (by rfl) (o_boxG (F.ev rfl)) fun a w gr F HM => ?_
 refine lx_new F HM (wanted_none rfl _) rfl (by rfl) (o_allocN) fun a w go F HM => ?_
 refine lx_new F HM (wanted_none rfl _) rfl (by rfl) (o_allocE) fun a w ge F HM => ?_
 refine lx_nil ?_
 repeat (first | refine ex_then ?_ | refine ex_block ?_ | refine wp_seq ?_ | refine wp_block ?_ | refine wp_skip ?_)
 refine wp_region_lit ?_
 refine lx_call F (wanted_none rfl _) rfl (by rfl) (run_callF Try.func36 (by kernel_rfl) (by rfl) (.cons rfl .nil) _) ((fun w => of_any 1 (by decide) w) _) fun a w z F => ?_
 replace HM := HM.on z
 clear z
 refine lx_new F HM (wanted_none rfl _) rfl (by rfl) (o_allocN) fun a w gl F HM => ?_
 refine lx_store F HM (wanted_none rfl _) rfl (k := 0) rfl (o_storeN (F.ev rfl) (F.ev rfl) (HM.get 0 rfl)) (M2 := [(gl, 24, ncs 1), (ge, 36, #[.int .i64 0]), (go, 24, ncs 0), (gr, 35, gcs P Q G H)]) rfl fun w HM => ?_
 refine lx_nil ?_
 repeat (first | refine ex_then ?_ | refine ex_block ?_ | refine wp_seq ?_ | refine wp_block ?_ | refine wp_skip ?_)
 refine wp_region_lit ?_
 refine lx_value (v := .pointer (some ⟨gr, 0, none⟩)) F (wanted_none rfl _) rfl (by rfl) (o_fieldG0 (F.ev rfl)) fun a F => ?_
 refine lx_value (v := num P) F (wanted_none rfl _) rfl (by rfl) (o_loadG0 (F.ev rfl) (HM.get 3 rfl)) fun a F => ?_
 refine lx_value (v := num 1) F (wanted_none rfl _) rfl (by rfl) (o_loadN (F.ev rfl) (HM.get 0 rfl)) fun a F => ?_
 refine lx_call F (wanted_none rfl _) rfl (by rfl) (run_callF Try.func29 (by kernel_rfl) (by rfl) (.cons (F.ev rfl) (.cons (F.ev rfl) .nil)) _) ((fun w => cmp_any P 1 hP (by decide) w) _) fun a w z F => ?_
 replace HM := HM.on z
 clear z
 refine lx_value (v := .bool false) F (wanted_none rfl _) rfl (by rfl) (o_bin (u := .int .i64 (cmpN P 1)) (v := .int .i64 0) (fun ρ hx hy => by simp only [execOp, hx, hy]; simp [go_sem]; exact hk) (F.ev rfl) rfl) fun a F => ?_
 refine lx_value (v := .bool false) F (wanted_none rfl _) rfl (by rfl) (o_move (F.ev rfl)) fun a F => ?_
 refine lx_value (v := .slice pa la ca) F (F.want (t := 19) (c := false) rfl rfl rfl (by rfl) rfl) rfl (by rfl) (o_move (F.ev rfl)) fun a F => ?_
 refine lx_value (v := .int .i64 (la : Nat)) F (F.want (t := 19) (c := false) rfl rfl rfl (by rfl) rfl) rfl (by rfl) (o_len (F.ev rfl)) fun a F => ?_
 refine lx_value (v := .slice pb lb cb) F (F.want (t := 19) (c := false) rfl rfl rfl (by rfl) rfl) rfl (by rfl) (o_move (F.ev rfl)) fun a F => ?_
 refine lx_value (v := .int .i64 (lb : Nat)) F (F.want (t := 19) (c := false) rfl rfl rfl (by rfl) rfl) rfl (by rfl) (o_len (F.ev rfl)) fun a F => ?_
 refine lx_value (v := .bool true) F (F.want (t := 19) (c := false) rfl rfl rfl (by rfl) rfl) rfl (by rfl) (o_bin (u := .int .i64 (la : Nat)) (v := .int .i64 (lb : Nat)) (fun ρ hx hy => by simp only [execOp, hx, hy]; simp [go_sem]; omega) (F.ev rfl) (F.ev rfl)) fun a F => ?_
 refine lx_value (v := .bool true) F (wanted_none rfl _) rfl (by rfl) (o_pick (b := false) (r := .bool true) (F.ev rfl) rfl (F.ev rfl) rfl) fun a F => ?_
 refine lx_nil ?_
 repeat (first | refine ex_then ?_ | refine ex_block ?_ | refine wp_seq ?_ | refine wp_block ?_ | refine wp_skip ?_)
 refine wp_cond_true (F.ev rfl) ?_
 repeat (first | refine ex_then ?_ | refine ex_block ?_ | refine wp_seq ?_ | refine wp_block ?_ | refine wp_skip ?_)
 refine wp_region_lit ?_
 refine lx_value (v := num 0) F (wanted_none rfl _) rfl (by rfl) (o_build0) fun a F => ?_
 refine lx_store F HM (wanted_none rfl _) rfl (k := 2) rfl (o_storeN (F.ev rfl) (F.ev rfl) (HM.get 2 rfl)) (M2 := [(gl, 24, ncs 1), (ge, 36, #[.int .i64 0]), (go, 24, ncs 0), (gr, 35, gcs P Q G H)]) rfl fun w HM => ?_
 refine lx_store F HM (wanted_none rfl _) rfl (k := 1) rfl (o_storeE (F.ev rfl) rfl (HM.get 1 rfl)) (M2 := [(gl, 24, ncs 1), (ge, 36, #[.int .i64 1]), (go, 24, ncs 0), (gr, 35, gcs P Q G H)]) rfl fun w HM => ?_
 refine lx_nil ?_
 repeat (first | refine ex_then ?_ | refine ex_block ?_ | refine wp_seq ?_ | refine wp_block ?_ | refine wp_skip ?_)
 refine wp_ret ?_
 repeat (first | refine ex_thenR ?_ | refine ex_blockR ?_)
 exact sx_ret F HM (res_NE F (s := 6) (t := 7) rfl rfl rfl (HM.get 2 rfl) (HM.get 1 rfl))

theorem k_prod0 (w : World) (g : Nat) : Calls Try.prog 28 #[grp 23 11 4 9, .slice (some ⟨g, 0, none⟩) 1 1, .slice none 0 0] w fun e w' => e = .returned (.tuple #[num 0, .int .i64 1]) ∧ Below w.heap.size w w' :=
 prod_len 23 11 4 9 1 1 0 0 (some ⟨g, 0, none⟩) none (by decide) (cmpN_pos (by decide)) (by decide) w
set_option maxRecDepth 100000 in
set_option maxHeartbeats 8000000 in
theorem alive8_any (w : World) : Calls Try.prog 23 #[] w fun e w' => e = .returned (.bool true) ∧ Below w.heap.size w w' := by
 refine sx_enter (args := []) Try.func23 rfl Try.ntmps23 (by rfl) fun a F HM => ?_
 repeat (first | refine ex_then ?_ | refine ex_block ?_ | refine wp_seq ?_ | refine wp_block ?_ | refine wp_skip ?_)
 refine wp_region_lit ?_
 refine lx_value (v := .bool false) F (wanted_none rfl _) rfl (by rfl) (o_assign rfl) fun a F => ?_
 refine lx_nil ?_
 repeat (first | refine ex_then ?_ | refine ex_block ?_ | refine wp_seq ?_ | refine wp_block ?_ | refine wp_skip ?_)
 refine wp_region_lit ?_
 refine lx_call F (wanted_none rfl _) rfl (by rfl) (run_callF Try.func45 (by kernel_rfl) (by rfl) .nil _) (known8_any _) fun a w z F => ?_
 replace HM := HM.on z
 clear z
 refine lx_new F HM (wanted_none rfl _) rfl (by rfl) (o_allocG) fun a w gg F HM => ?_
 refine lx_store F HM (wanted_none rfl _) rfl (k := 0) rfl (o_storeG (F.ev rfl) (F.ev rfl) (HM.get 0 rfl)) (M2 := [(gg, 35, gcs 23 11 4 9)]) rfl fun w HM => ?_
 refine lx_nil ?_
 repeat (first | refine ex_then ?_ | refine ex_block ?_ | refine wp_seq ?_ | refine wp_block ?_ | refine wp_skip ?_)
 try simp only [List.append_eq, List.cons_append, List.nil_append]
 refine sx_drawn [⟨0, 18, [], .val (grp 23 11 4 9), true⟩,
   ⟨7, 2, [], .cell 24 (ncs 0), false⟩,
   ⟨1, 19, [0], .val (num 4), false⟩,
   ⟨2, 20, [2], .val (num 9), false⟩,
   ⟨3, 21, [0, 2, 3], .val (.tuple #[num 13, .int .i64 0]), false⟩,
   ⟨4, 17, [4], .val (.tuple #[num 13, .int .i64 0]), true⟩,
   ⟨5, 22, [5], .val (num 13), true⟩,
   ⟨6, 23, [5, 6], .val (.int .i64 0), true⟩] 2 F HM (by kernel_rfl) (by rfl) (by rfl) ?_ ?_ ?_ ?_ ?_ ?_ ?_
 ·kernel_rfl
 ·exact of_decide_eq_true (by kernel_rfl)
 ·(repeat refine all_cons ⟨_, by rfl, by rfl⟩ ?_); exact all_nil
 ·kernel_rfl
 ·(repeat (refine all_cons ?_ ?_; rotate_left)); exact all_nil
  ·exact coreS _ _ _ _ _ _ _ (by rfl) (by rfl) (wants_none) (fun ρ w kn hs => o_loadG (kn _ _ (F.old (by rfl) rfl)) (hs.get 0 rfl))
  ·exact core_pureAs _ (by rfl)
  ·exact core_pureAs _ (by rfl)
  ·exact core_pureAs _ (by rfl)
  ·exact core_pureAs _ (by rfl)
  ·exact coreS _ _ _ _ _ _ _ (by rfl) (by rfl) (wants_none) (fun ρ w kn hs => o_move (kn _ _ (kc 4 21)))
  ·exact coreS _ _ _ _ _ _ _ (by rfl) (by rfl) (wants_none) (fun ρ w kn hs => o_extract (kn _ _ (kc 5 17)) rfl)
  ·exact coreS _ _ _ _ _ _ _ (by rfl) (by rfl) (wants_none) (fun ρ w kn hs => o_extract (kn _ _ (kc 5 17)) rfl)
 ·(repeat (refine all_cons ?_ ?_; rotate_left)); exact all_nil
  ·exact sA
  ·exact fun _ => core_new _ _ _ _ _ _ _ _ (by rfl) (by rfl) (Nat.le_refl _) (fun ρ w => o_allocN)
  ·exact fun _ => coreG_call _ 22 _ _ [.const (.int .u64 4)] _ _ _ _ _ _ _ (by rfl) Try.func22 (by kernel_rfl) (by rfl) (by rfl) (wants_none) (.cons (known_const _) .nil) ((fun w => of8_any 4 (by decide) w))
  ·exact fun _ => coreG_call _ 22 _ _ [.const (.int .u64 9)] _ _ _ _ _ _ _ (by rfl) Try.func22 (by kernel_rfl) (by rfl) (by rfl) (wants_none) (.cons (known_const _) .nil) ((fun w => of8_any 9 (by decide) w))
  ·exact fun _ => coreG_call _ 14 _ _ [.tmp 18, .tmp 19, .tmp 20] _ _ _ _ _ _ _ (by rfl) Try.func14 (by kernel_rfl) (by rfl) (by rfl) (wants_none) (.cons (kc 0 18) (.cons (kc 2 19) (.cons (kc 3 20) .nil))) (k_mul)
  ·exact sA
  ·exact sA
  ·exact sA
 intro gs rs a w hgs hrs F HM
 obtain rfl := nl0 rs hrs
 clear hrs
 obtain ⟨ga, rfl⟩ := nl1 gs hgs
 clear hgs
 refine sx_store (i := 8) HM (by kernel_rfl) (by rfl) rfl rfl (k := 0) rfl (o_storeN (F.ev rfl) (F.ev rfl) (HM.get 0 rfl)) (M2 := [(ga, 24, ncs 13), (gg, 35, gcs 23 11 4 9)]) rfl (fun _ h => h.tail (A := [(ga, 24, ncs 13)])) fun w HM => ?_
 refine sx_assign (i := 9) (d := 3) (x := .tmp 23) (v := .int .i64 0) F (HM.tail (A := [(ga, 24, ncs 13)])) (by kernel_rfl) (by rfl) (by rfl) (F.ev rfl) fun a F => ?_
 refine sx_done (by kernel_rfl) ?_ _
 repeat (first | refine ex_then ?_ | refine ex_block ?_ | refine wp_seq ?_ | refine wp_block ?_ | refine wp_skip ?_)
 try simp only [List.append_eq, List.cons_append, List.nil_append]
 refine sx_drawn [⟨0, 25, [], .val (grp 23 11 4 9), true⟩,
   ⟨7, 4, [], .cell 24 (ncs 0), false⟩,
   ⟨1, 26, [0], .val (num 4), false⟩,
   ⟨2, 27, [2], .val (num 11), false⟩,
   ⟨3, 28, [0, 2, 3], .val (.tuple #[num 1, .int .i64 0]), false⟩,
   ⟨4, 24, [4], .val (.tuple #[num 1, .int .i64 0]), true⟩,
   ⟨5, 29, [5], .val (num 1), true⟩,
   ⟨6, 30, [5, 6], .val (.int .i64 0), true⟩] 2 F HM (by kernel_rfl) (by rfl) (by rfl) ?_ ?_ ?_ ?_ ?_ ?_ ?_
 ·kernel_rfl
 ·exact of_decide_eq_true (by kernel_rfl)
 ·(repeat refine all_cons ⟨_, by rfl, by rfl⟩ ?_); exact all_nil
 ·kernel_rfl
 ·(repeat (refine all_cons ?_ ?_; rotate_left)); exact all_nil
  ·exact coreS _ _ _ _ _ _ _ (by rfl) (by rfl) (wants_none) (fun ρ w kn hs => o_loadG (kn _ _ (F.old (by rfl) rfl)) (hs.get 1 rfl))
  ·exact core_pureAs _ (by rfl)
  ·exact core_pureAs _ (by rfl)
  ·exact core_pureAs _ (by rfl)
  ·exact core_pureAs _ (by rfl)
  ·exact coreS _ _ _ _ _ _ _ (by rfl) (by rfl) (wants_none) (fun ρ w kn hs => o_move (kn _ _ (kc 4 28)))
  ·exact coreS _ _ _ _ _ _ _ (by rfl) (by rfl) (wants_none) (fun ρ w kn hs => o_extract (kn _ _ (kc 5 24)) rfl)
  ·exact coreS _ _ _ _ _ _ _ (by rfl) (by rfl) (wants_none) (fun ρ w kn hs => o_extract (kn _ _ (kc 5 24)) rfl)
 ·(repeat (refine all_cons ?_ ?_; rotate_left)); exact all_nil
  ·exact sA
  ·exact fun _ => core_new _ _ _ _ _ _ _ _ (by rfl) (by rfl) (Nat.le_refl _) (fun ρ w => o_allocN)
  ·exact fun _ => coreG_call _ 22 _ _ [.const (.int .u64 4)] _ _ _ _ _ _ _ (by rfl) Try.func22 (by kernel_rfl) (by rfl) (by rfl) (wants_none) (.cons (known_const _) .nil) ((fun w => of8_any 4 (by decide) w))
  ·exact fun _ => coreG_call _ 22 _ _ [.const (.int .u64 11)] _ _ _ _ _ _ _ (by rfl) Try.func22 (by kernel_rfl) (by rfl) (by rfl) (wants_none) (.cons (known_const _) .nil) ((fun w => of8_any 11 (by decide) w))
  ·exact fun _ => coreG_call _ 16 _ _ [.tmp 25, .tmp 26, .tmp 27] _ _ _ _ _ _ _ (by rfl) Try.func16 (by kernel_rfl) (by rfl) (by rfl) (wants_none) (.cons (kc 0 25) (.cons (kc 2 26) (.cons (kc 3 27) .nil))) (k_exp)
  ·exact sA
  ·exact sA
  ·exact sA
 intro gs rs a w hgs hrs F HM
 obtain rfl := nl0 rs hrs
 clear hrs
 obtain ⟨gb, rfl⟩ := nl1 gs hgs
 clear hgs
 refine sx_store (i := 8) HM (by kernel_rfl) (by rfl) rfl rfl (k := 0) rfl (o_storeN (F.ev rfl) (F.ev rfl) (HM.get 0 rfl)) (M2 := [(gb, 24, ncs 1), (ga, 24, ncs 13), (gg, 35, gcs 23 11 4 9)]) rfl (fun _ h => h.tail (A := [(gb, 24, ncs 1)])) fun w HM => ?_
 refine sx_assign (i := 9) (d := 5) (x := .tmp 30) (v := .int .i64 0) F (HM.tail (A := [(gb, 24, ncs 1)])) (by kernel_rfl) (by rfl) (by rfl) (F.ev rfl) fun a F => ?_
 refine sx_done (by kernel_rfl) ?_ _
 repeat (first | refine ex_then ?_ | refine ex_block ?_ | refine wp_seq ?_ | refine wp_block ?_ | refine wp_skip ?_)
 try simp only [List.append_eq, List.cons_append, List.nil_append]
 refine sx_drawn [⟨0, 32, [], .val (grp 23 11 4 9), true⟩,
   ⟨6, 6, [], .cell 24 (ncs 0), false⟩,
   ⟨1, 33, [0], .val (num 4), false⟩,
   ⟨2, 34, [0, 2], .val (.tuple #[num 6, .int .i64 0]), false⟩,
   ⟨3, 31, [3], .val (.tuple #[num 6, .int .i64 0]), true⟩,
   ⟨4, 35, [4], .val (num 6), true⟩,
   ⟨5, 36, [4, 5], .val (.int .i64 0), true⟩] 2 F HM (by kernel_rfl) (by rfl) (by rfl) ?_ ?_ ?_ ?_ ?_ ?_ ?_
 ·kernel_rfl
 ·exact of_decide_eq_true (by kernel_rfl)
 ·(repeat refine all_cons ⟨_, by rfl, by rfl⟩ ?_); exact all_nil
 ·kernel_rfl
 ·(repeat (refine all_cons ?_ ?_; rotate_left)); exact all_nil
  ·exact coreS _ _ _ _ _ _ _ (by rfl) (by rfl) (wants_none) (fun ρ w kn hs => o_loadG (kn _ _ (F.old (by rfl) rfl)) (hs.get 2 rfl))
  ·exact core_pureAs _ (by rfl)
  ·exact core_pureAs _ (by rfl)
  ·exact core_pureAs _ (by rfl)
  ·exact coreS _ _ _ _ _ _ _ (by rfl) (by rfl) (wants_none) (fun ρ w kn hs => o_move (kn _ _ (kc 3 34)))
  ·exact coreS _ _ _ _ _ _ _ (by rfl) (by rfl) (wants_none) (fun ρ w kn hs => o_extract (kn _ _ (kc 4 31)) rfl)
  ·exact coreS _ _ _ _ _ _ _ (by rfl) (by rfl) (wants_none) (fun ρ w kn hs => o_extract (kn _ _ (kc 4 31)) rfl)
 ·(repeat (refine all_cons ?_ ?_; rotate_left)); exact all_nil
  ·exact sA
  ·exact fun _ => core_new _ _ _ _ _ _ _ _ (by rfl) (by rfl) (Nat.le_refl _) (fun ρ w => o_allocN)
  ·exact fun _ => coreG_call _ 22 _ _ [.const (.int .u64 4)] _ _ _ _ _ _ _ (by rfl) Try.func22 (by kernel_rfl) (by rfl) (by rfl) (wants_none) (.cons (known_const _) .nil) ((fun w => of8_any 4 (by decide) w))
  ·exact fun _ => coreG_call _ 15 _ _ [.tmp 32, .tmp 33] _ _ _ _ _ _ _ (by rfl) Try.func15 (by kernel_rfl) (by rfl) (by rfl) (wants_none) (.cons (kc 0 32) (.cons (kc 2 33) .nil)) (k_inv)
  ·exact sA
  ·exact sA
  ·exact sA
 intro gs rs a w hgs hrs F HM
 obtain rfl := nl0 rs hrs
 clear hrs
 obtain ⟨gc, rfl⟩ := nl1 gs hgs
 clear hgs
 refine sx_store (i := 7) HM (by kernel_rfl) (by rfl) rfl rfl (k := 0) rfl (o_storeN (F.ev rfl) (F.ev rfl) (HM.get 0 rfl)) (M2 := [(gc, 24, ncs 6), (gb, 24, ncs 1), (ga, 24, ncs 13), (gg, 35, gcs 23 11 4 9)]) rfl (fun _ h => h.tail (A := [(gc, 24, ncs 6)])) fun w HM => ?_
 refine sx_assign (i := 8) (d := 7) (x := .tmp 36) (v := .int .i64 0) F (HM.tail (A := [(gc, 24, ncs 6)])) (by kernel_rfl) (by rfl) (by rfl) (F.ev rfl) fun a F => ?_
 refine sx_done (by kernel_rfl) ?_ _
 repeat (first | refine ex_then ?_ | refine ex_block ?_ | refine wp_seq ?_ | refine wp_block ?_ | refine wp_skip ?_)
 try simp only [List.append_eq, List.cons_append, List.nil_append]
 refine sx_drawn [⟨0, 38, [], .val (grp 23 11 4 9), true⟩,
   ⟨11, 8, [], .cell 24 (ncs 0), false⟩,
   ⟨1, 39, [0], .val (num 4), false⟩,
   ⟨2, 40, [2], .val (num 9), false⟩,
   ⟨3, 41, [2, 3], .row 24 (rows2 4 9) 2, false⟩,
   ⟨4, 42, [3], .val (num 1), false⟩,
   ⟨5, 43, [5], .val (num 2), false⟩,
   ⟨6, 44, [5, 6], .row 24 (rows2 1 2) 2, false⟩,
   ⟨7, 45, [0, 4, 6, 7], .val (.tuple #[num 2, .int .i64 0]), false⟩,
   ⟨8, 37, [8], .val (.tuple #[num 2, .int .i64 0]), true⟩,
   ⟨9, 46, [9], .val (num 2), true⟩,
   ⟨10, 47, [9, 10], .val (.int .i64 0), true⟩] 2 F HM (by kernel_rfl) (by rfl) (by rfl) ?_ ?_ ?_ ?_ ?_ ?_ ?_
 ·kernel_rfl
 ·exact of_decide_eq_true (by kernel_rfl)
 ·(repeat refine all_cons ⟨_, by rfl, by rfl⟩ ?_); exact all_nil
 ·kernel_rfl
 ·(repeat (refine all_cons ?_ ?_; rotate_left)); exact all_nil
  ·exact coreS _ _ _ _ _ _ _ (by rfl) (by rfl) (wants_none) (fun ρ w kn hs => o_loadG (kn _ _ (F.old (by rfl) rfl)) (hs.get 3 rfl))
  ·exact core_pureAs _ (by rfl)
  ·exact core_pureAs _ (by rfl)
  ·exact core_pureAs _ (by rfl)
  ·exact core_pureAs _ (by rfl)
  ·exact core_pureAs _ (by rfl)
  ·exact core_pureAs _ (by rfl)
  ·exact core_pureAs _ (by rfl)
  ·exact core_pureAs _ (by rfl)
  ·exact coreS _ _ _ _ _ _ _ (by rfl) (by rfl) (wants_none) (fun ρ w kn hs => o_move (kn _ _ (kc 8 45)))
  ·exact coreS _ _ _ _ _ _ _ (by rfl) (by rfl) (wants_none) (fun ρ w kn hs => o_extract (kn _ _ (kc 9 37)) rfl)
  ·exact coreS _ _ _ _ _ _ _ (by rfl) (by rfl) (wants_none) (fun ρ w kn hs => o_extract (kn _ _ (kc 9 37)) rfl)
 ·(repeat (refine all_cons ?_ ?_; rotate_left)); exact all_nil
  ·exact sA
  ·exact fun _ => core_new _ _ _ _ _ _ _ _ (by rfl) (by rfl) (Nat.le_refl _) (fun ρ w => o_allocN)
  ·exact fun _ => coreG_call _ 22 _ _ [.const (.int .u64 4)] _ _ _ _ _ _ _ (by rfl) Try.func22 (by kernel_rfl) (by rfl) (by rfl) (wants_none) (.cons (known_const _) .nil) ((fun w => of8_any 4 (by decide) w))
  ·exact fun _ => coreG_call _ 22 _ _ [.const (.int .u64 9)] _ _ _ _ _ _ _ (by rfl) Try.func22 (by kernel_rfl) (by rfl) (by rfl) (wants_none) (.cons (known_const _) .nil) ((fun w => of8_any 9 (by decide) w))
  ·exact fun _ => core_row _ _ _ _ _ _ _ _ (by rfl) (by rfl) (fun ρ w kn => o_slice2 (kn _ _ (kc 2 39)) (kn _ _ (kc 3 40)))
  ·exact fun _ => coreG_call _ 22 _ _ [.const (.int .u64 1)] _ _ _ _ _ _ _ (by rfl) Try.func22 (by kernel_rfl) (by rfl) (by rfl) (wants_none) (.cons (known_const _) .nil) ((fun w => of8_any 1 (by decide) w))
  ·exact fun _ => coreG_call _ 22 _ _ [.const (.int .u64 2)] _ _ _ _ _ _ _ (by rfl) Try.func22 (by kernel_rfl) (by rfl) (by rfl) (wants_none) (.cons (known_const _) .nil) ((fun w => of8_any 2 (by decide) w))
  ·exact fun _ => core_row _ _ _ _ _ _ _ _ (by rfl) (by rfl) (fun ρ w kn => o_slice2 (kn _ _ (kc 5 42)) (kn _ _ (kc 6 43)))
  ·intro _
   refine coreX_call _ 28 _ _ [.tmp 38, .tmp 41, .tmp 44] _ _ _ _ _ (by rfl) Try.func28 (by kernel_rfl) (by rfl) (by rfl) (fun vs w hl hb hp => ?_)
   obtain ⟨gx, hevx, hatx⟩ := row_of hl hp 4 41 24 (rows2 4 9) 2 (of_decide_eq_true (by rfl)) (by rfl) (by rfl) (by rfl)
   obtain ⟨gy, hevy, haty⟩ := row_of hl hp 7 44 24 (rows2 1 2) 2 (of_decide_eq_true (by rfl)) (by rfl) (by rfl) (by rfl)
   exact ⟨[grp 23 11 4 9, .slice (some ⟨gx, 0, none⟩) 2 2, .slice (some ⟨gy, 0, none⟩) 2 2], (mev_cons ((kc 0 38) vs w hl hp) (mev_cons (hevx) (mev_cons (hevy) mev_nil))), k_prod w _ _ hatx haty⟩
  ·exact sA
  ·exact sA
  ·exact sA
 intro gs rs a w hgs hrs F HM
 obtain ⟨gx, gy, rfl⟩ := nl2 rs hrs
 clear hrs
 obtain ⟨gd, rfl⟩ := nl1 gs hgs
 clear hgs
 refine sx_store (i := 12) HM (by kernel_rfl) (by rfl) rfl rfl (k := 0) rfl (o_storeN (F.ev rfl) (F.ev rfl) (HM.get 0 rfl)) (M2 := [(gd, 24, ncs 2), (gc, 24, ncs 6), (gb, 24, ncs 1), (ga, 24, ncs 13), (gg, 35, gcs 23 11 4 9)]) rfl (fun _ h => h.tail (A := [(gd, 24, ncs 2)])) fun w HM => ?_
 refine sx_assign (i := 13) (d := 9) (x := .tmp 47) (v := .int .i64 0) F (HM.tail (A := [(gd, 24, ncs 2)])) (by kernel_rfl) (by rfl) (by rfl) (F.ev rfl) fun a F => ?_
 refine sx_done (by kernel_rfl) ?_ _
 repeat (first | refine ex_then ?_ | refine ex_block ?_ | refine wp_seq ?_ | refine wp_block ?_ | refine wp_skip ?_)
 try simp only [List.append_eq, List.cons_append, List.nil_append]
 refine sx_drawn [⟨0, 49, [], .val (grp 23 11 4 9), true⟩,
   ⟨7, 10, [], .cell 24 (ncs 0), false⟩,
   ⟨1, 50, [0], .val (num 0), false⟩,
   ⟨2, 51, [2], .val (num 4), false⟩,
   ⟨3, 52, [0, 2, 3], .val (.tuple #[num 0, .int .i64 1]), false⟩,
   ⟨4, 48, [4], .val (.tuple #[num 0, .int .i64 1]), true⟩,
   ⟨5, 53, [5], .val (num 0), true⟩,
   ⟨6, 54, [5, 6], .val (.int .i64 1), true⟩] 2 F HM (by kernel_rfl) (by rfl) (by rfl) ?_ ?_ ?_ ?_ ?_ ?_ ?_
 ·kernel_rfl
 ·exact of_decide_eq_true (by kernel_rfl)
 ·(repeat refine all_cons ⟨_, by rfl, by rfl⟩ ?_); exact all_nil
 ·kernel_rfl
 ·(repeat (refine all_cons ?_ ?_; rotate_left)); exact all_nil
  ·exact coreS _ _ _ _ _ _ _ (by rfl) (by rfl) (wants_none) (fun ρ w kn hs => o_loadG (kn _ _ (F.old (by rfl) rfl)) (hs.get 4 rfl))
  ·exact core_pureAs _ (by rfl)
  ·exact core_pureAs _ (by rfl)
  ·exact core_pureAs _ (by rfl)
  ·exact core_pureAs _ (by rfl)
  ·exact coreS _ _ _ _ _ _ _ (by rfl) (by rfl) (wants_none) (fun ρ w kn hs => o_move (kn _ _ (kc 4 52)))
  ·exact coreS _ _ _ _ _ _ _ (by rfl) (by rfl) (wants_none) (fun ρ w kn hs => o_extract (kn _ _ (kc 5 48)) rfl)
  ·exact coreS _ _ _ _ _ _ _ (by rfl) (by rfl) (wants_none) (fun ρ w kn hs => o_extract (kn _ _ (kc 5 48)) rfl)
 ·(repeat (refine all_cons ?_ ?_; rotate_left)); exact all_nil
  ·exact sA
  ·exact fun _ => core_new _ _ _ _ _ _ _ _ (by rfl) (by rfl) (Nat.le_refl _) (fun ρ w => o_allocN)
  ·exact fun _ => coreG_call _ 22 _ _ [.const (.int .u64 0)] _ _ _ _ _ _ _ (by rfl) Try.func22 (by kernel_rfl) (by rfl) (by rfl) (wants_none) (.cons (known_const _) .nil) ((fun w => of8_any 0 (by decide) w))
  ·exact fun _ => coreG_call _ 22 _ _ [.const (.int .u64 4)] _ _ _ _ _ _ _ (by rfl) Try.func22 (by kernel_rfl) (by rfl) (by rfl) (wants_none) (.cons (known_const _) .nil) ((fun w => of8_any 4 (by decide) w))
  ·exact fun _ => coreG_call _ 14 _ _ [.tmp 49, .tmp 50, .tmp 51] _ _ _ _ _ _ _ (by rfl) Try.func14 (by kernel_rfl) (by rfl) (by rfl) (wants_none) (.cons (kc 0 49) (.cons (kc 2 50) (.cons (kc 3 51) .nil))) (k_mul0)
  ·exact sA
  ·exact sA
  ·exact sA
 intro gs rs a w hgs hrs F HM
 obtain rfl := nl0 rs hrs
 clear hrs
 obtain ⟨gi, rfl⟩ := nl1 gs hgs
 clear hgs
 refine sx_store (i := 8) HM (by kernel_rfl) (by rfl) rfl rfl (k := 0) rfl (o_storeN (F.ev rfl) (F.ev rfl) (HM.get 0 rfl)) (M2 := [(gi, 24, ncs 0), (gd, 24, ncs 2), (gc, 24, ncs 6), (gb, 24, ncs 1), (ga, 24, ncs 13), (gg, 35, gcs 23 11 4 9)]) rfl (fun _ h => h.tail (A := [(gi, 24, ncs 0)])) fun w HM => ?_
 refine sx_assign (i := 9) (d := 11) (x := .tmp 54) (v := .int .i64 1) F (HM.tail (A := [(gi, 24, ncs 0)])) (by kernel_rfl) (by rfl) (by rfl) (F.ev rfl) fun a F => ?_
 refine sx_done (by kernel_rfl) ?_ _
 repeat (first | refine ex_then ?_ | refine ex_block ?_ | refine wp_seq ?_ | refine wp_block ?_ | refine wp_skip ?_)
 try simp only [List.append_eq, List.cons_append, List.nil_append]
 refine sx_drawn [⟨0, 56, [], .val (grp 23 11 4 9), true⟩,
   ⟨7, 12, [], .cell 24 (ncs 0), false⟩,
   ⟨1, 57, [0], .val (num 4), false⟩,
   ⟨2, 58, [2], .row 24 (rows1 4) 1, false⟩,
   ⟨3, 59, [0, 2, 3], .val (.tuple #[num 0, .int .i64 1]), false⟩,
   ⟨4, 55, [4], .val (.tuple #[num 0, .int .i64 1]), true⟩,
   ⟨5, 60, [5], .val (num 0), true⟩,
   ⟨6, 61, [5, 6], .val (.int .i64 1), true⟩] 2 F HM (by kernel_rfl) (by rfl) (by rfl) ?_ ?_ ?_ ?_ ?_ ?_ ?_
 ·kernel_rfl
 ·exact of_decide_eq_true (by kernel_rfl)
 ·(repeat refine all_cons ⟨_, by rfl, by rfl⟩ ?_); exact all_nil
 ·kernel_rfl
 ·(repeat (refine all_cons ?_ ?_; rotate_left)); exact all_nil
  ·exact coreS _ _ _ _ _ _ _ (by rfl) (by rfl) (wants_none) (fun ρ w kn hs => o_loadG (kn _ _ (F.old (by rfl) rfl)) (hs.get 5 rfl))
  ·exact core_pureAs _ (by rfl)
  ·exact core_pureAs _ (by rfl)
  ·exact core_pureAs _ (by rfl)
  ·exact core_pureAs _ (by rfl)
  ·exact coreS _ _ _ _ _ _ _ (by rfl) (by rfl) (wants_none) (fun ρ w kn hs => o_move (kn _ _ (kc 4 59)))
  ·exact coreS _ _ _ _ _ _ _ (by rfl) (by rfl) (wants_none) (fun ρ w kn hs => o_extract (kn _ _ (kc 5 55)) rfl)
  ·exact coreS _ _ _ _ _ _ _ (by rfl) (by rfl) (wants_none) (fun ρ w kn hs => o_extract (kn _ _ (kc 5 55)) rfl)
 ·(repeat (refine all_cons ?_ ?_; rotate_left)); exact all_nil
  ·exact sA
  ·exact fun _ => core_new _ _ _ _ _ _ _ _ (by rfl) (by rfl) (Nat.le_refl _) (fun ρ w => o_allocN)
  ·exact fun _ => coreG_call _ 22 _ _ [.const (.int .u64 4)] _ _ _ _ _ _ _ (by rfl) Try.func22 (by kernel_rfl) (by rfl) (by rfl) (wants_none) (.cons (known_const _) .nil) ((fun w => of8_any 4 (by decide) w))
  ·exact fun _ => core_row _ _ _ _ _ _ _ _ (by rfl) (by rfl) (fun ρ w kn => o_slice1 (kn _ _ (kc 2 57)))
  ·intro _
   refine coreX_call _ 28 _ _ [.tmp 56, .tmp 58, .const (.slice none 0 0)] _ _ _ _ _ (by rfl) Try.func28 (by kernel_rfl) (by rfl) (by rfl) (fun vs w hl hb hp => ?_)
   obtain ⟨gx, hevx, hatx⟩ := row_of hl hp 3 58 24 (rows1 4) 1 (of_decide_eq_true (by rfl)) (by rfl) (by rfl) (by rfl)
   exact ⟨[grp 23 11 4 9, .slice (some ⟨gx, 0, none⟩) 1 1, .slice none 0 0], (mev_cons ((kc 0 56) vs w hl hp) (mev_cons (hevx) (mev_cons (rfl) mev_nil))), k_prod0 w _⟩
  ·exact sA
  ·exact sA
  ·exact sA
 intro gs rs a w hgs hrs F HM
 obtain ⟨gx, rfl⟩ := nl1 rs hrs
 clear hrs
 obtain ⟨gj, rfl⟩ := nl1 gs hgs
 clear hgs
 refine sx_store (i := 8) HM (by kernel_rfl) (by rfl) rfl rfl (k := 0) rfl (o_storeN (F.ev rfl) (F.ev rfl) (HM.get 0 rfl)) (M2 := [(gj, 24, ncs 0), (gi, 24, ncs 0), (gd, 24, ncs 2), (gc, 24, ncs 6), (gb, 24, ncs 1), (ga, 24, ncs 13), (gg, 35, gcs 23 11 4 9)]) rfl (fun _ h => h.tail (A := [(gj, 24, ncs 0)])) fun w HM => ?_
 refine sx_assign (i := 9) (d := 13) (x := .tmp 61) (v := .int .i64 1) F (HM.tail (A := [(gj, 24, ncs 0)])) (by kernel_rfl) (by rfl) (by rfl) (F.ev rfl) fun a F => ?_
 refine sx_done (by kernel_rfl) ?_ _
 repeat (first | refine ex_then ?_ | refine ex_block ?_ | refine wp_seq ?_ | refine wp_block ?_ | refine wp_skip ?_)
 refine wp_region_lit ?_
 refine lx_call F (wanted_none rfl _) rfl (by rfl) (run_callF Try.func22 (by kernel_rfl) (by rfl) (.cons rfl .nil) _) ((fun w => of8_any 23 (by decide) w) _) fun a w z F => ?_
 replace HM := HM.on z
 clear z
 refine lx_value (v := rv 23 0 (.slice none 0 0)) F (wanted_none rfl _) rfl (by rfl) (o_buildR (F.ev rfl)) fun a F => ?_
 refine lx_new F HM (wanted_none rfl _) rfl (by rfl) (o_allocR) fun a w gp F HM => ?_
 refine lx_store F HM (wanted_none rfl _) rfl (k := 0) rfl (o_storeR (F.ev rfl) (F.ev rfl) (HM.get 0 rfl) rfl) (M2 := [(gp, 27, rcs 23 0 (.slice none 0 0)), (gj, 24, ncs 0), (gi, 24, ncs 0), (gd, 24, ncs 2), (gc, 24, ncs 6), (gb, 24, ncs 1), (ga, 24, ncs 13), (gg, 35, gcs 23 11 4 9)]) rfl fun w HM => ?_
 refine lx_nil ?_
 repeat (first | refine ex_then ?_ | refine ex_block ?_ | refine wp_seq ?_ | refine wp_block ?_ | refine wp_skip ?_)
 refine wp_region_lit ?_
 refine lx_call F (wanted_none rfl _) rfl (by rfl) (run_callF Try.func22 (by kernel_rfl) (by rfl) (.cons rfl .nil) _) ((fun w => of8_any 11 (by decide) w) _) fun a w z F => ?_
 replace HM := HM.on z
 clear z
 refine lx_value (v := rv 11 0 (.slice none 0 0)) F (wanted_none rfl _) rfl (by rfl) (o_buildR (F.ev rfl)) fun a F => ?_
 refine lx_new F HM (wanted_none rfl _) rfl (by rfl) (o_allocR) fun a w gq F HM => ?_
 refine lx_store F HM (wanted_none rfl _) rfl (k := 0) rfl (o_storeR (F.ev rfl) (F.ev rfl) (HM.get 0 rfl) rfl) (M2 := [(gq, 27, rcs 11 0 (.slice none 0 0)), (gp, 27, rcs 23 0 (.slice none 0 0)), (gj, 24, ncs 0), (gi, 24, ncs 0), (gd, 24, ncs 2), (gc, 24, ncs 6), (gb, 24, ncs 1), (ga, 24, ncs 13), (gg, 35, gcs 23 11 4 9)]) rfl fun w HM => ?_
 refine lx_nil ?_
 repeat (first | refine ex_then ?_ | refine ex_block ?_ | refine wp_seq ?_ | refine wp_block ?_ | refine wp_skip ?_)
 try simp only [List.append_eq, List.cons_append, List.nil_append]
 refine sx_drawn [⟨0, 66, [], .val (grp 23 11 4 9), true⟩,
   ⟨1, 67, [0], .val (num 4), false⟩,
   ⟨2, 68, [0, 1], .val (.bool true), false⟩,
   ⟨3, 69, [2], .val (.bool true), true⟩,
   ⟨4, 70, [3], .val (grp 23 11 4 9), true⟩,
   ⟨5, 71, [3, 4], .val (num 5), false⟩,
   ⟨6, 72, [3, 4, 5], .val (.bool false), false⟩,
   ⟨7, 73, [3, 6], .val (.bool true), true⟩,
   ⟨8, 74, [3, 7], .val (.bool true), true⟩,
   ⟨9, 75, [8], .val (.bool true), true⟩,
   ⟨10, 76, [9], .val (grp 23 11 4 9), true⟩,
   ⟨11, 77, [9, 10], .val (num 0), false⟩,
   ⟨12, 78, [9, 10, 11], .val (.bool false), false⟩,
   ⟨13, 79, [9, 12], .val (.bool true), true⟩,
   ⟨14, 80, [9, 13], .val (.bool true), true⟩,
   ⟨15, 81, [14], .val (.bool true), true⟩,
   ⟨16, 82, [15], .val (num 13), true⟩,
   ⟨17, 83, [15, 16], .val (.int .i64 0), true⟩,
   ⟨18, 84, [15, 16, 17], .val (.bool true), false⟩,
   ⟨19, 85, [15, 18], .val (.bool true), true⟩,
   ⟨20, 86, [19], .val (.bool true), true⟩,
   ⟨21, 87, [20], .val (num 1), true⟩,
   ⟨22, 88, [20, 21], .val (.int .i64 0), true⟩,
   ⟨23, 89, [20, 21, 22], .val (.bool true), false⟩,
   ⟨24, 90, [20, 23], .val (.bool true), true⟩,
   ⟨25, 91, [24], .val (.bool true), true⟩,
   ⟨26, 92, [25], .val (num 6), true⟩,
   ⟨27, 93, [25, 26], .val (.int .i64 0), true⟩,
   ⟨28, 94, [25, 26, 27], .val (.bool true), false⟩,
   ⟨29, 95, [25, 28], .val (.bool true), true⟩,
   ⟨30, 96, [29], .val (.bool true), true⟩,
   ⟨31, 97, [30], .val (num 2), true⟩,
   ⟨32, 98, [30, 31], .val (.int .i64 0), true⟩,
   ⟨33, 99, [30, 31, 32], .val (.bool true), false⟩,
   ⟨34, 100, [30, 33], .val (.bool true), true⟩,
   ⟨35, 101, [34], .val (.bool true), true⟩,
   ⟨36, 102, [35], .val (grp 23 11 4 9), true⟩,
   ⟨37, 103, [35, 36], .val (rv 23 0 (.slice none 0 0)), true⟩,
   ⟨38, 104, [35, 37], .val (rv 11 0 (.slice none 0 0)), true⟩,
   ⟨39, 105, [35, 36, 37, 38], .val (.bool true), false⟩,
   ⟨40, 106, [35, 39], .val (.bool true), true⟩,
   ⟨41, 107, [40], .val (.bool true), true⟩,
   ⟨42, 108, [41], .val (grp 23 11 4 9), true⟩,
   ⟨43, 109, [41, 42], .val (rv 11 0 (.slice none 0 0)), true⟩,
   ⟨44, 110, [41, 43], .val (rv 23 0 (.slice none 0 0)), true⟩,
   ⟨45, 111, [41, 42, 43, 44], .val (.bool false), false⟩,
   ⟨46, 112, [41, 45], .val (.bool true), true⟩,
   ⟨47, 113, [41, 46], .val (.bool true), true⟩,
   ⟨48, 114, [47], .val (.bool true), true⟩,
   ⟨49, 115, [48], .val (.int .i64 1), true⟩,
   ⟨50, 116, [48, 49], .val (.bool true), true⟩,
   ⟨51, 117, [48, 50], .val (.bool true), true⟩,
   ⟨52, 118, [51], .val (.bool true), true⟩,
   ⟨53, 119, [52], .val (.int .i64 1), true⟩,
   ⟨54, 120, [52, 53], .val (.bool true), true⟩,
   ⟨55, 121, [52, 54], .val (.bool true), true⟩] 1 F HM (by kernel_rfl) (by rfl) (by rfl) ?_ ?_ ?_ ?_ ?_ ?_ ?_
 ·kernel_rfl
 ·exact of_decide_eq_true (by kernel_rfl)
 ·(repeat refine all_cons ⟨_, by rfl, by rfl⟩ ?_); exact all_nil
 ·kernel_rfl
 ·(repeat (refine all_cons ?_ ?_; rotate_left)); exact all_nil
  ·exact coreS _ _ _ _ _ _ _ (by rfl) (by rfl) (wants_none) (fun ρ w kn hs => o_loadG (kn _ _ (F.old (by rfl) rfl)) (hs.get 8 rfl))
  ·exact core_pureAs _ (by rfl)
  ·exact core_pureAs _ (by rfl)
  ·exact coreS _ _ _ _ _ _ _ (by rfl) (by rfl) (wants_none) (fun ρ w kn hs => o_move (kn _ _ (kc 2 68)))
  ·exact coreS _ _ _ _ _ _ _ (by rfl) (by rfl) (wc 3 69 3 (kc 3 69)) (fun ρ w kn hs => o_loadG (kn _ _ (F.old (by rfl) rfl)) (hs.get 8 rfl))
  ·exact core_pureAs _ (by rfl)
  ·exact core_pureAs _ (by rfl)
  ·exact coreS _ _ _ _ _ _ _ (by rfl) (by rfl) (wc 3 69 3 (kc 3 69)) (fun ρ w kn hs => o_not (b := false) (r := true) (kn _ _ (kc 6 72)) rfl)
  ·exact coreS _ _ _ _ _ _ _ (by rfl) (by rfl) (wants_none) (fun ρ w kn hs => o_pick (b := true) (r := .bool true) (kn _ _ (kc 3 69)) (kn _ _ (kc 7 73)) (kn _ _ (known_const _)) rfl)
  ·exact coreS _ _ _ _ _ _ _ (by rfl) (by rfl) (wants_none) (fun ρ w kn hs => o_move (kn _ _ (kc 8 74)))
  ·exact coreS _ _ _ _ _ _ _ (by rfl) (by rfl) (wc 9 75 9 (kc 9 75)) (fun ρ w kn hs => o_loadG (kn _ _ (F.old (by rfl) rfl)) (hs.get 8 rfl))
  ·exact core_pureAs _ (by rfl)
  ·exact core_pureAs _ (by rfl)
  ·exact coreS _ _ _ _ _ _ _ (by rfl) (by rfl) (wc 9 75 9 (kc 9 75)) (fun ρ w kn hs => o_not (b := false) (r := true) (kn _ _ (kc 12 78)) rfl)
  ·exact coreS _ _ _ _ _ _ _ (by rfl) (by rfl) (wants_none) (fun ρ w kn hs => o_pick (b := true) (r := .bool true) (kn _ _ (kc 9 75)) (kn _ _ (kc 13 79)) (kn _ _ (known_const _)) rfl)
  ·exact coreS _ _ _ _ _ _ _ (by rfl) (by rfl) (wants_none) (fun ρ w kn hs => o_move (kn _ _ (kc 14 80)))
  ·exact coreS _ _ _ _ _ _ _ (by rfl) (by rfl) (wc 15 81 15 (kc 15 81)) (fun ρ w kn hs => o_loadN (kn _ _ (F.old (by rfl) rfl)) (hs.get 7 rfl))
  ·exact coreS _ _ _ _ _ _ _ (by rfl) (by rfl) (wc 15 81 15 (kc 15 81)) (fun ρ w kn hs => o_move (kn _ _ (F.old (by rfl) rfl)))
  ·exact core_pureAs _ (by rfl)
  ·exact coreS _ _ _ _ _ _ _ (by rfl) (by rfl) (wants_none) (fun ρ w kn hs => o_pick (b := true) (r := .bool true) (kn _ _ (kc 15 81)) (kn _ _ (kc 18 84)) (kn _ _ (known_const _)) rfl)
  ·exact coreS _ _ _ _ _ _ _ (by rfl) (by rfl) (wants_none) (fun ρ w kn hs => o_move (kn _ _ (kc 19 85)))
  ·exact coreS _ _ _ _ _ _ _ (by rfl) (by rfl) (wc 20 86 20 (kc 20 86)) (fun ρ w kn hs => o_loadN (kn _ _ (F.old (by rfl) rfl)) (hs.get 6 rfl))
  ·exact coreS _ _ _ _ _ _ _ (by rfl) (by rfl) (wc 20 86 20 (kc 20 86)) (fun ρ w kn hs => o_move (kn _ _ (F.old (by rfl) rfl)))
  ·exact core_pureAs _ (by rfl)
  ·exact coreS _ _ _ _ _ _ _ (by rfl) (by rfl) (wants_none) (fun ρ w kn hs => o_pick (b := true) (r := .bool true) (kn _ _ (kc 20 86)) (kn _ _ (kc 23 89)) (kn _ _ (known_const _)) rfl)
  ·exact coreS _ _ _ _ _ _ _ (by rfl) (by rfl) (wants_none) (fun ρ w kn hs => o_move (kn _ _ (kc 24 90)))
  ·exact coreS _ _ _ _ _ _ _ (by rfl) (by rfl) (wc 25 91 25 (kc 25 91)) (fun ρ w kn hs => o_loadN (kn _ _ (F.old (by rfl) rfl)) (hs.get 5 rfl))
  ·exact coreS _ _ _ _ _ _ _ (by rfl) (by rfl) (wc 25 91 25 (kc 25 91)) (fun ρ w kn hs => o_move (kn _ _ (F.old (by rfl) rfl)))
  ·exact core_pureAs _ (by rfl)
  ·exact coreS _ _ _ _ _ _ _ (by rfl) (by rfl) (wants_none) (fun ρ w kn hs => o_pick (b := true) (r := .bool true) (kn _ _ (kc 25 91)) (kn _ _ (kc 28 94)) (kn _ _ (known_const _)) rfl)
  ·exact coreS _ _ _ _ _ _ _ (by rfl) (by rfl) (wants_none) (fun ρ w kn hs => o_move (kn _ _ (kc 29 95)))
  ·exact coreS _ _ _ _ _ _ _ (by rfl) (by rfl) (wc 30 96 30 (kc 30 96)) (fun ρ w kn hs => o_loadN (kn _ _ (F.old (by rfl) rfl)) (hs.get 4 rfl))
  ·exact coreS _ _ _ _ _ _ _ (by rfl) (by rfl) (wc 30 96 30 (kc 30 96)) (fun ρ w kn hs => o_move (kn _ _ (F.old (by rfl) rfl)))
  ·exact core_pureAs _ (by rfl)
  ·exact coreS _ _ _ _ _ _ _ (by rfl) (by rfl) (wants_none) (fun ρ w kn hs => o_pick (b := true) (r := .bool true) (kn _ _ (kc 30 96)) (kn _ _ (kc 33 99)) (kn _ _ (known_const _)) rfl)
  ·exact coreS _ _ _ _ _ _ _ (by rfl) (by rfl) (wants_none) (fun ρ w kn hs => o_move (kn _ _ (kc 34 100)))
  ·exact coreS _ _ _ _ _ _ _ (by rfl) (by rfl) (wc 35 101 35 (kc 35 101)) (fun ρ w kn hs => o_loadG (kn _ _ (F.old (by rfl) rfl)) (hs.get 8 rfl))
  ·exact coreS _ _ _ _ _ _ _ (by rfl) (by rfl) (wc 35 101 35 (kc 35 101)) (fun ρ w kn hs => o_loadR (kn _ _ (F.old (by rfl) rfl)) (hs.get 1 rfl))
  ·exact coreS _ _ _ _ _ _ _ (by rfl) (by rfl) (wc 35 101 35 (kc 35 101)) (fun ρ w kn hs => o_loadR (kn _ _ (F.old (by rfl) rfl)) (hs.get 0 rfl))
  ·exact core_pureAs _ (by rfl)
  ·exact coreS _ _ _ _ _ _ _ (by rfl) (by rfl) (wants_none) (fun ρ w kn hs => o_pick (b := true) (r := .bool true) (kn _ _ (kc 35 101)) (kn _ _ (kc 39 105)) (kn _ _ (known_const _)) rfl)
  ·exact coreS _ _ _ _ _ _ _ (by rfl) (by rfl) (wants_none) (fun ρ w kn hs => o_move (kn _ _ (kc 40 106)))
  ·exact coreS _ _ _ _ _ _ _ (by rfl) (by rfl) (wc 41 107 41 (kc 41 107)) (fun ρ w kn hs => o_loadG (kn _ _ (F.old (by rfl) rfl)) (hs.get 8 rfl))
  ·exact coreS _ _ _ _ _ _ _ (by rfl) (by rfl) (wc 41 107 41 (kc 41 107)) (fun ρ w kn hs => o_loadR (kn _ _ (F.old (by rfl) rfl)) (hs.get 0 rfl))
  ·exact coreS _ _ _ _ _ _ _ (by rfl) (by rfl) (wc 41 107 41 (kc 41 107)) (fun ρ w kn hs => o_loadR (kn _ _ (F.old (by rfl) rfl)) (hs.get 1 rfl))
  ·exact core_pureAs _ (by rfl)
  ·exact coreS _ _ _ _ _ _ _ (by rfl) (by rfl) (wc 41 107 41 (kc 41 107)) (fun ρ w kn hs => o_not (b := false) (r := true) (kn _ _ (kc 45 111)) rfl)
  ·exact coreS _ _ _ _ _ _ _ (by rfl) (by rfl) (wants_none) (fun ρ w kn hs => o_pick (b := true) (r := .bool true) (kn _ _ (kc 41 107)) (kn _ _ (kc 46 112)) (kn _ _ (known_const _)) rfl)
  ·exact coreS _ _ _ _ _ _ _ (by rfl) (by rfl) (wants_none) (fun ρ w kn hs => o_move (kn _ _ (kc 47 113)))
  ·exact coreS _ _ _ _ _ _ _ (by rfl) (by rfl) (wc 48 114 48 (kc 48 114)) (fun ρ w kn hs => o_move (kn _ _ (F.old (by rfl) rfl)))
  ·exact coreS _ _ _ _ _ _ _ (by rfl) (by rfl) (wc 48 114 48 (kc 48 114)) (fun ρ w kn hs => o_bin (u := .int .i64 1) (v := .int .i64 1) (fun ρ hx hy => by simp only [execOp, hx, hy]; simp [go_sem]) (kn _ _ (kc 49 115)) (kn _ _ (known_const _)))
  ·exact coreS _ _ _ _ _ _ _ (by rfl) (by rfl) (wants_none) (fun ρ w kn hs => o_pick (b := true) (r := .bool true) (kn _ _ (kc 48 114)) (kn _ _ (kc 50 116)) (kn _ _ (known_const _)) rfl)
  ·exact coreS _ _ _ _ _ _ _ (by rfl) (by rfl) (wants_none) (fun ρ w kn hs => o_move (kn _ _ (kc 51 117)))
  ·exact coreS _ _ _ _ _ _ _ (by rfl) (by rfl) (wc 52 118 52 (kc 52 118)) (fun ρ w kn hs => o_move (kn _ _ (F.old (by rfl) rfl)))
  ·exact coreS _ _ _ _ _ _ _ (by rfl) (by rfl) (wc 52 118 52 (kc 52 118)) (fun ρ w kn hs => o_bin (u := .int .i64 1) (v := .int .i64 1) (fun ρ hx hy => by simp only [execOp, hx, hy]; simp [go_sem]) (kn _ _ (kc 53 119)) (kn _ _ (known_const _)))
  ·exact coreS _ _ _ _ _ _ _ (by rfl) (by rfl) (wants_none) (fun ρ w kn hs => o_pick (b := true) (r := .bool true) (kn _ _ (kc 52 118)) (kn _ _ (kc 54 120)) (kn _ _ (known_const _)) rfl)
 ·(repeat (refine all_cons ?_ ?_; rotate_left)); exact all_nil
  ·exact sA
  ·exact fun _ => coreG_call _ 22 _ _ [.const (.int .u64 4)] _ _ _ _ _ _ _ (by rfl) Try.func22 (by kernel_rfl) (by rfl) (by rfl) (wants_none) (.cons (known_const _) .nil) ((fun w => of8_any 4 (by decide) w))
  ·exact fun _ => coreG_call _ 20 _ _ [.tmp 66, .tmp 67] _ _ _ _ _ _ _ (by rfl) Try.func20 (by kernel_rfl) (by rfl) (by rfl) (wants_none) (.cons (kc 0 66) (.cons (kc 1 67) .nil)) (k_in4)
  ·exact sA
  ·exact sA
  ·exact fun _ => coreG_call _ 22 _ _ [.const (.int .u64 5)] _ _ _ _ _ _ _ (by rfl) Try.func22 (by kernel_rfl) (by rfl) (by rfl) (wc 3 69 3 (kc 3 69)) (.cons (known_const _) .nil) ((fun w => of8_any 5 (by decide) w))
  ·exact fun _ => coreG_call _ 20 _ _ [.tmp 70, .tmp 71] _ _ _ _ _ _ _ (by rfl) Try.func20 (by kernel_rfl) (by rfl) (by rfl) (wc 3 69 3 (kc 3 69)) (.cons (kc 4 70) (.cons (kc 5 71) .nil)) (k_in5)
  ·exact sA
  ·exact sA
  ·exact sA
  ·exact sA
  ·exact fun _ => coreG_call _ 22 _ _ [.const (.int .u64 0)] _ _ _ _ _ _ _ (by rfl) Try.func22 (by kernel_rfl) (by rfl) (by rfl) (wc 9 75 9 (kc 9 75)) (.cons (known_const _) .nil) ((fun w => of8_any 0 (by decide) w))
  ·exact fun _ => coreG_call _ 20 _ _ [.tmp 76, .tmp 77] _ _ _ _ _ _ _ (by rfl) Try.func20 (by kernel_rfl) (by rfl) (by rfl) (wc 9 75 9 (kc 9 75)) (.cons (kc 10 76) (.cons (kc 11 77) .nil)) (k_in0)
  ·exact sA
  ·exact sA
  ·exact sA
  ·exact sA
  ·exact sA
  ·exact fun _ => coreG_call _ 46 _ _ [.tmp 82, .tmp 83, .const (.int .u64 13)] _ _ _ _ _ _ _ (by rfl) Try.func46 (by kernel_rfl) (by rfl) (by rfl) (wc 15 81 15 (kc 15 81)) (.cons (kc 16 82) (.cons (kc 17 83) (.cons (known_const _) .nil))) ((fun w => is8_any 13 (by decide) w))
  ·exact sA
  ·exact sA
  ·exact sA
  ·exact sA
  ·exact fun _ => coreG_call _ 46 _ _ [.tmp 87, .tmp 88, .const (.int .u64 1)] _ _ _ _ _ _ _ (by rfl) Try.func46 (by kernel_rfl) (by rfl) (by rfl) (wc 20 86 20 (kc 20 86)) (.cons (kc 21 87) (.cons (kc 22 88) (.cons (known_const _) .nil))) ((fun w => is8_any 1 (by decide) w))
  ·exact sA
  ·exact sA
  ·exact sA
  ·exact sA
  ·exact fun _ => coreG_call _ 46 _ _ [.tmp 92, .tmp 93, .const (.int .u64 6)] _ _ _ _ _ _ _ (by rfl) Try.func46 (by kernel_rfl) (by rfl) (by rfl) (wc 25 91 25 (kc 25 91)) (.cons (kc 26 92) (.cons (kc 27 93) (.cons (known_const _) .nil))) ((fun w => is8_any 6 (by decide) w))
  ·exact sA
  ·exact sA
  ·exact sA
  ·exact sA
  ·exact fun _ => coreG_call _ 46 _ _ [.tmp 97, .tmp 98, .const (.int .u64 2)] _ _ _ _ _ _ _ (by rfl) Try.func46 (by kernel_rfl) (by rfl) (by rfl) (wc 30 96 30 (kc 30 96)) (.cons (kc 31 97) (.cons (kc 32 98) (.cons (known_const _) .nil))) ((fun w => is8_any 2 (by decide) w))
  ·exact sA
  ·exact sA
  ·exact sA
  ·exact sA
  ·exact sA
  ·exact fun _ => coreG_call _ 47 _ _ [.tmp 102, .tmp 103, .tmp 104] _ _ _ _ _ _ _ (by rfl) Try.func47 (by kernel_rfl) (by rfl) (by rfl) (wc 35 101 35 (kc 35 101)) (.cons (kc 36 102) (.cons (kc 37 103) (.cons (kc 38 104) .nil))) (k_ck1)
  ·exact sA
  ·exact sA
  ·exact sA
  ·exact sA
  ·exact sA
  ·exact fun _ => coreG_call _ 47 _ _ [.tmp 108, .tmp 109, .tmp 110] _ _ _ _ _ _ _ (by rfl) Try.func47 (by kernel_rfl) (by rfl) (by rfl) (wc 41 107 41 (kc 41 107)) (.cons (kc 42 108) (.cons (kc 43 109) (.cons (kc 44 110) .nil))) (k_ck2)
  ·exact sA
  ·exact sA
  ·exact sA
  ·exact sA
  ·exact sA
  ·exact sA
  ·exact sA
  ·exact sA
  ·exact sA
  ·exact sA
 intro gs rs a w hgs hrs F HM
 obtain rfl := nl0 rs hrs
 clear hrs
 obtain rfl := nl0 gs hgs
 clear hgs
 refine sx_assign (i := 56) (d := 0) (x := .tmp 121) (v := .bool true) F (HM) (by kernel_rfl) (by rfl) (by rfl) (F.ev rfl) fun a F => ?_
 refine sx_done (by kernel_rfl) ?_ _
 repeat (first | refine ex_then ?_ | refine ex_block ?_ | refine wp_seq ?_ | refine wp_block ?_ | refine wp_skip ?_)
 refine wp_ret ?_
 repeat (first | refine ex_thenR ?_ | refine ex_blockR ?_)
 exact sx_ret F HM (res_tmp F rfl (s := 0) rfl)
end Go.Proofs.Ytbggihkigblnfaa
