/-
  polys: a polynomial's value.
-/
import Derived.Deep.Cut
import Derived.Test.YtfjploahkodekaaMOpenQ
import Derived.Test.YtfjploahkodekaaMShort
namespace Go.Proofs.Ytfjploahkodekaa
set_option maxRecDepth 100000
open Go.RowKit
set_option linter.unusedSimpArgs false
set_option linter.unusedVariables false
attribute [local go_sem ↓] Go.wp_at_zero Go.wp_at_succ

theorem hstep {Q x c : Nat} (h1 : 1 < Q) (z : Int) : (sofN Q z * x % Q + c) % Q = sofN Q ((c : Int) + (x : Int) * z) := by
  refine Cg.eq (Nat.mod_lt _ (by omega)) (sof_lt h1 _) ?_
  rw [Int.natCast_emod, Int.natCast_add, Int.natCast_emod, Int.natCast_mul]
  refine (Cg.emod Q _).trans (((Cg.emod Q _).add (Cg.refl Q _)).trans ?_)
  refine ((((sof_cg h1 z).mul (Cg.refl Q (x : Int))).add (Cg.refl Q (c : Int))).trans (Cg.of_eq ?_)).trans (sof_cg h1 _).symm
  grind
set_option maxRecDepth 100000 in
set_option maxHeartbeats 800000 in
theorem downward_any (P Q G H X gt n0 n cap : Nat) (pa : Option Addr) (ps : List Nat) (M : List (Nat × TypeId × Array Value)) (w0 w : World) (hQ : Q < 2 ^ 256) (h1 : 1 < Q) (hX : X < Q) (hp : ∀ c ∈ ps, c < Q) (r : RN n0 w0 pa n cap ps) (HM : Mem n0 w0 w ((gt, 49, tcs P Q G H 0) :: M)) : Calls Try.prog 36 #[.slice pa n cap, num X, .func (.func 33) #[.pointer (some ⟨gt, 0, none⟩)] #[], .func (.func 37) #[.pointer (some ⟨gt, 0, none⟩)] #[]] w fun e w2 => e = .returned (.tuple #[]) ∧ Mem n0 w0 w2 ((gt, 49, tcs P Q G H (sofN Q (evZ (zs ps) X))) :: M) := by
  refine sx_enterW (args := [.slice pa n cap, num X, .func (.func 33) #[.pointer (some ⟨gt, 0, none⟩)] #[], .func (.func 37) #[.pointer (some ⟨gt, 0, none⟩)] #[]]) HM Try.func36 rfl Try.ntmps36 (by rfl) fun a F HM => ?_
  repeat (first | refine ex_then ?_ | refine ex_block ?_ | refine wp_seq ?_ | refine wp_block ?_ | refine wp_skip ?_)
  refine wp_region_lit ?_
  refine lx_new F HM (wanted_none rfl _) rfl (by rfl) (o_boxN (F.ev rfl)) fun a w gx F HM => ?_
  refine lx_nil ?_
  replace HM := HM.front 1 rfl (M2 := ((gt, 49, tcs P Q G H 0) :: (gx, 24, ncs X) :: M)) rfl
  repeat (first | refine ex_then ?_ | refine ex_block ?_ | refine wp_seq ?_ | refine wp_block ?_ | refine wp_skip ?_)
  refine wp_region_lit ?_
  refine lx_value (v := .slice pa n cap) F (wanted_none rfl _) rfl (by rfl) (o_move (F.ev rfl)) fun a F => ?_
  refine lx_value (v := .int .i64 (n : Nat)) F (wanted_none rfl _) rfl (by rfl) (o_len (F.ev rfl)) fun a F => ?_
  refine lx_value (v := .int .i64 0) F (wanted_none rfl _) rfl (by rfl) (o_move rfl) fun a F => ?_
  refine lx_nil ?_
  repeat (first | refine ex_then ?_ | refine ex_block ?_ | refine wp_seq ?_ | refine wp_block ?_ | refine wp_skip ?_)
  refine wp_loop (fun a w => ∃ i S : Nat, i ≤ n ∧ S = sofN Q (evZ (zs (ps.drop (n - i))) X) ∧ Fr a 28 [(11, .int .i64 (i : Nat)), (0, .slice pa n cap), (10, .int .i64 (n : Nat)), (2, .func (.func 33) #[.pointer (some ⟨gt, 0, none⟩)] #[]), (3, .func (.func 37) #[.pointer (some ⟨gt, 0, none⟩)] #[]), (5, .pointer (some ⟨gx, 0, none⟩))] [] ∧ Mem n0 w0 w ((gt, 49, tcs P Q G H S) :: (gx, 24, ncs X) :: M)) (fun a _ => n - (intOf (a.tmps.getD 11 undef)).toNat) ⟨0, 0, Nat.zero_le _, by rw [Nat.sub_zero, List.drop_of_length_le (Nat.le_of_eq r.1)]; exact (sof_zero h1).symm, F.sub [11, 0, 10, 2, 3, 5], HM⟩ ?_
  clear F HM
  rintro aS wS ⟨i, S, hi, hS, FS, HM⟩
  have F := FS
  by_cases hlt : i < n
  · repeat (first | refine ex_then ?_ | refine ex_block ?_ | refine wp_seq ?_ | refine wp_block ?_ | refine wp_skip ?_)
    refine wp_region_lit ?_
    refine lx_value (v := .bool true) F (wanted_none rfl _) rfl (by rfl) (o_bin (u := .int .i64 (i : Nat)) (v := .int .i64 (n : Nat)) (fun ρ hx hy => by simp only [execOp, hx, hy]; simp [go_sem]; omega) (F.ev rfl) (F.ev rfl)) fun a F => ?_
    refine lx_nil ?_
    repeat (first | refine ex_then ?_ | refine ex_block ?_ | refine wp_seq ?_ | refine wp_block ?_ | refine wp_skip ?_)
    refine wp_cond_true (F.ev rfl) ?_
    repeat (first | refine ex_then ?_ | refine ex_block ?_ | refine wp_seq ?_ | refine wp_block ?_ | refine wp_skip ?_)
    refine wp_region_lit ?_
    refine lx_value (v := .int .i64 (i : Nat)) F (wanted_none rfl _) rfl (by rfl) (o_move (F.ev rfl)) fun a F => ?_
    refine lx_value (v := .int .i64 (i : Nat)) F (wanted_none rfl _) rfl (by rfl) (o_assign (F.ev rfl)) fun a F => ?_
    refine lx_nil ?_
    have hlt2 : n - 1 - i < n := by omega
    obtain ⟨gl, ol, rfl, hil, hxb, hc⟩ := r.get hlt2
    have htk : ps.drop (n - (i + 1)) = ps[n - 1 - i] :: ps.drop (n - i) := by rw [show n - (i + 1) = n - 1 - i by omega, List.drop_eq_getElem_cons hil, show n - 1 - i + 1 = n - i by omega]
    have hcQ := hp _ (List.getElem_mem hil)
    generalize ps[n - 1 - i] = c at *
    have hSQ : S < Q := by rw [hS]; exact sof_lt h1 _
    have hT := Nat.mod_lt (S * X) (show 0 < Q by omega)
    have hm1 : IntKind.i64.wrap ((n : Int) - 1) = ((n - 1 : Nat) : Int) := by have := r.len; rw [IntKind.wrap_i64]; omega
    have hm2 : IntKind.i64.wrap (((n - 1 : Nat) : Int) - (i : Int)) = ((n - 1 - i : Nat) : Int) := by have := r.len; rw [IntKind.wrap_i64]; omega
    repeat (first | refine ex_then ?_ | refine ex_block ?_ | refine wp_seq ?_ | refine wp_block ?_ | refine wp_skip ?_)
    refine wp_region_lit ?_
    refine lx_value (v := .func (.func 33) #[.pointer (some ⟨gt, 0, none⟩)] #[]) F (wanted_none rfl _) rfl (by rfl) (o_move (F.ev rfl)) fun a F => ?_
    refine lx_value (v := num X) F (wanted_none rfl _) rfl (by rfl) (o_loadN (F.ev rfl) (HM.get 1 rfl)) fun a F => ?_
    refine lx_call F (wanted_none rfl _) rfl (by rfl) (run_callVB (rl := [.pointer (some ⟨gt, 0, none⟩)]) Try.func33 (by kernel_rfl) (by rfl) (F.ev rfl) (.cons (F.ev rfl) .nil) _) (ttimes_any P Q G H S X gt _ _ _ _ hQ h1 hSQ hX HM) fun a w HM F => ?_
    refine lx_nil ?_
    repeat (first | refine ex_then ?_ | refine ex_block ?_ | refine wp_seq ?_ | refine wp_block ?_ | refine wp_skip ?_)
    refine wp_region_lit ?_
    refine lx_value (v := .func (.func 37) #[.pointer (some ⟨gt, 0, none⟩)] #[]) F (wanted_none rfl _) rfl (by rfl) (o_move (F.ev rfl)) fun a F => ?_
    refine lx_value (v := .slice (some ⟨gl, ol, none⟩) n cap) F (wanted_none rfl _) rfl (by rfl) (o_move (F.ev rfl)) fun a F => ?_
    refine lx_value (v := .slice (some ⟨gl, ol, none⟩) n cap) F (wanted_none rfl _) rfl (by rfl) (o_move (F.ev rfl)) fun a F => ?_
    refine lx_value (v := .int .i64 (n : Nat)) F (wanted_none rfl _) rfl (by rfl) (o_len (F.ev rfl)) fun a F => ?_
    refine lx_value (v := .int .i64 ((n - 1 : Nat) : Int)) F (wanted_none rfl _) rfl (by rfl) (o_bin (u := .int .i64 (n : Nat)) (v := .int .i64 1) (fun ρ hx hy => by simp only [execOp, hx, hy]; simp [go_sem, hm1]) (F.ev rfl) rfl) fun a F => ?_
    refine lx_value (v := .int .i64 (i : Nat)) F (wanted_none rfl _) rfl (by rfl) (o_move (F.ev rfl)) fun a F => ?_
    refine lx_value (v := .int .i64 ((n - 1 - i : Nat) : Int)) F (wanted_none rfl _) rfl (by rfl) (o_bin (u := .int .i64 ((n - 1 : Nat) : Int)) (v := .int .i64 (i : Nat)) (fun ρ hx hy => by simp only [execOp, hx, hy]; simp [go_sem, hm2]) (F.ev rfl) (F.ev rfl)) fun a F => ?_
    refine lx_value (v := .pointer (some ⟨gl, ol + (n - 1 - i) * 4, none⟩)) F (wanted_none rfl _) rfl (by rfl) (o_idxN hlt2 (F.ev rfl) (F.ev rfl)) fun a F => ?_
    refine lx_value (v := num c) F (wanted_none rfl _) rfl (by rfl) (o_loadC (F.ev rfl) (hc _ HM.bel)) fun a F => ?_
    refine lx_call F (wanted_none rfl _) rfl (by rfl) (run_callVB (rl := [.pointer (some ⟨gt, 0, none⟩)]) Try.func37 (by kernel_rfl) (by rfl) (F.ev rfl) (.cons (F.ev rfl) .nil) _) (tadd_any P Q G H _ c gt _ _ _ _ hQ h1 hT hcQ HM) fun a w HM F => ?_
    refine lx_nil ?_
    repeat (first | refine ex_then ?_ | refine ex_block ?_ | refine wp_seq ?_ | refine wp_block ?_ | refine wp_skip ?_)
    refine wp_region_lit ?_
    refine lx_value (v := .int .i64 ((i + 1 : Nat) : Int)) F (wanted_none rfl _) rfl (by rfl) (o_bin (u := .int .i64 (i : Nat)) (v := .int .i64 1) (fun ρ hx hy => by simp only [execOp, hx, hy]; simp [go_sem, r.room hlt]) (F.ev rfl) rfl) fun a F => ?_
    refine lx_value (v := .int .i64 ((i + 1 : Nat) : Int)) F (wanted_none rfl _) rfl (by rfl) (o_move (F.ev rfl)) fun a F => ?_
    refine lx_nil ?_
    refine ex_then ?_
    refine ⟨⟨i + 1, (S * X % Q + c) % Q, by omega, ?_, F.sub [11, 0, 10, 2, 3, 5], HM⟩, ?_⟩
    · rw [htk, hS, hstep h1]; rfl
    · show n - (intOf (a.tmps.getD 11 undef)).toNat < n - (intOf (aS.tmps.getD 11 undef)).toNat
      rw [F.get 11 _ rfl, FS.get 11 _ rfl]
      show n - ((i + 1 : Nat) : Int).toNat < n - ((i : Nat) : Int).toNat
      omega
  · repeat (first | refine ex_then ?_ | refine ex_block ?_ | refine wp_seq ?_ | refine wp_block ?_ | refine wp_skip ?_)
    refine wp_region_lit ?_
    refine lx_value (v := .bool false) F (wanted_none rfl _) rfl (by rfl) (o_bin (u := .int .i64 (i : Nat)) (v := .int .i64 (n : Nat)) (fun ρ hx hy => by simp only [execOp, hx, hy]; simp [go_sem]; omega) (F.ev rfl) (F.ev rfl)) fun a F => ?_
    refine lx_nil ?_
    repeat (first | refine ex_then ?_ | refine ex_block ?_ | refine wp_seq ?_ | refine wp_block ?_ | refine wp_skip ?_)
    refine wp_cond_false (F.ev rfl) ?_
    repeat (first | refine ex_then ?_ | refine ex_block ?_ | refine wp_seq ?_ | refine wp_block ?_ | refine wp_skip ?_)
    refine wp_exit ?_
    repeat (first | refine ex_thenE ?_ | refine ex_blockE ?_)
    obtain rfl : i = n := by omega
    rw [Nat.sub_self, List.drop_zero] at hS
    subst hS
    replace HM := HM.erase 1 (M2 := ((gt, 49, tcs P Q G H (sofN Q (evZ (zs ps) X))) :: M)) rfl
    repeat (first | refine ex_then ?_ | refine ex_block ?_ | refine wp_seq ?_ | refine wp_block ?_ | refine wp_skip ?_)
    exact bodyPost_end (res_none rfl) F.defers ⟨rfl, HM⟩

set_option maxRecDepth 100000 in
set_option maxHeartbeats 800000 in
theorem value_any (P Q G H X n cap : Nat) (pa : Option Addr) (ps : List Nat) (w0 : World) (hQ : Q < 2 ^ 256) (h1 : 1 < Q) (hX : X < Q) (hp : ∀ c ∈ ps, c < Q) (r : RN w0.heap.size w0 pa n cap ps) : Calls Try.prog 21 #[grp P Q G H, .slice pa n cap, num X] w0 fun e w' => e = .returned (num (sofN Q (evZ (zs ps) X))) ∧ Below w0.heap.size w0 w' := by
  refine sx_enter (args := [grp P Q G H, .slice pa n cap, num X]) Try.func21 rfl Try.ntmps21 (by rfl) fun a F HM => ?_
  repeat (first | refine ex_then ?_ | refine ex_block ?_ | refine wp_seq ?_ | refine wp_block ?_ | refine wp_skip ?_)
  refine wp_region_lit ?_
  refine lx_new F HM (wanted_none rfl _) rfl (by rfl) (o_boxG (F.ev rfl)) fun a w gg F HM => ?_
  refine lx_new F HM (wanted_none rfl _) rfl (by rfl) (o_boxN (F.ev rfl)) fun a w gx F HM => ?_
  refine lx_new F HM (wanted_none rfl _) rfl (by rfl) (o_allocN) fun a w go F HM => ?_
  refine lx_nil ?_
  repeat (first | refine ex_then ?_ | refine ex_block ?_ | refine wp_seq ?_ | refine wp_block ?_ | refine wp_skip ?_)
  refine wp_region_lit ?_
  refine lx_value (v := grp P Q G H) F (wanted_none rfl _) rfl (by rfl) (o_loadG (F.ev rfl) (HM.get 2 rfl)) fun a F => ?_
  refine lx_value (v := tal P Q G H 0) F (wanted_none rfl _) rfl (by rfl) (o_buildT1 (F.ev rfl)) fun a F => ?_
  refine lx_new F HM (wanted_none rfl _) rfl (by rfl) (o_allocT) fun a w gt F HM => ?_
  refine lx_store F HM (wanted_none rfl _) rfl (k := 0) rfl (o_storeT (F.ev rfl) (F.ev rfl) (HM.get 0 rfl)) (M2 := [(gt, 49, tcs P Q G H 0), (go, 24, ncs 0), (gx, 24, ncs X), (gg, 26, gcs P Q G H)]) (by rw [setsT]; rfl) fun w HM => ?_
  refine lx_nil ?_
  repeat (first | refine ex_then ?_ | refine ex_block ?_ | refine wp_seq ?_ | refine wp_block ?_ | refine wp_skip ?_)
  refine wp_region_lit ?_
  refine lx_value (v := .slice pa n cap) F (wanted_none rfl _) rfl (by rfl) (o_move (F.ev rfl)) fun a F => ?_
  refine lx_value (v := num X) F (wanted_none rfl _) rfl (by rfl) (o_loadN (F.ev rfl) (HM.get 2 rfl)) fun a F => ?_
  refine lx_value (v := .func (.func 33) #[.pointer (some ⟨gt, 0, none⟩)] #[]) F (wanted_none rfl _) rfl (by rfl) (o_mkB (F.ev rfl)) fun a F => ?_
  refine lx_value (v := .func (.func 37) #[.pointer (some ⟨gt, 0, none⟩)] #[]) F (wanted_none rfl _) rfl (by rfl) (o_mkB (F.ev rfl)) fun a F => ?_
  refine lx_call F (wanted_none rfl _) rfl (by rfl) (run_callF Try.func36 (by kernel_rfl) (by rfl) (.cons (F.ev rfl) (.cons (F.ev rfl) (.cons (F.ev rfl) (.cons (F.ev rfl) .nil)))) _) (downward_any P Q G H X gt _ n cap pa ps _ _ _ hQ h1 hX hp r HM) fun a w HM F => ?_
  refine lx_nil ?_
  repeat (first | refine ex_then ?_ | refine ex_block ?_ | refine wp_seq ?_ | refine wp_block ?_ | refine wp_skip ?_)
  refine wp_region_lit ?_
  refine lx_value (v := .pointer (some ⟨gt, 16, none⟩)) F (wanted_none rfl _) rfl (by rfl) (o_fieldT1 (F.ev rfl)) fun a F => ?_
  refine lx_value (v := num (sofN Q (evZ (zs ps) X))) F (wanted_none rfl _) rfl (by rfl) (o_loadT1 (F.ev rfl) (HM.get 0 rfl)) fun a F => ?_
  refine lx_store F HM (wanted_none rfl _) rfl (k := 1) rfl (o_storeN (F.ev rfl) (F.ev rfl) (HM.get 1 rfl)) (M2 := [(gt, 49, tcs P Q G H (sofN Q (evZ (zs ps) X))), (go, 24, ncs (sofN Q (evZ (zs ps) X))), (gx, 24, ncs X), (gg, 26, gcs P Q G H)]) (rfl) fun w HM => ?_
  refine lx_nil ?_
  repeat (first | refine ex_then ?_ | refine ex_block ?_ | refine wp_seq ?_ | refine wp_block ?_ | refine wp_skip ?_)
  refine wp_ret ?_
  repeat (first | refine ex_thenR ?_ | refine ex_blockR ?_)
  exact sx_ret F HM (res_N F (s := 6) rfl rfl (HM.get 1 rfl))

end Go.Proofs.Ytfjploahkodekaa
