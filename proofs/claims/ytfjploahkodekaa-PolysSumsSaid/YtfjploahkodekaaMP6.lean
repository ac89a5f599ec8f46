/-
  polys: addTimes, noughtAt, lessOthers.
-/
import Derived.Deep.Cut
import Derived.Maps.AppendAt
import Derived.Test.YtfjploahkodekaaMOpenQ
import Derived.Test.YtfjploahkodekaaMShort
namespace Go.Proofs.Ytfjploahkodekaa
set_option maxRecDepth 100000
open Go.RowKit
set_option linter.unusedSimpArgs false
set_option linter.unusedVariables false
attribute [local go_sem ↓] Go.wp_at_zero Go.wp_at_succ

/-- a row with one number in it changed -/
def setC (cs : Array Value) (i V : Nat) : Array Value := sets cs (0 + i * 4) [.int .u64 (wd V 0 : Nat), .int .u64 (wd V 1 : Nat), .int .u64 (wd V 2 : Nat), .int .u64 (wd V 3 : Nat)]
theorem Pf.setC {cs : Array Value} {xs : List Nat} (h : Pf cs xs) {i : Nat} (hi : i < xs.length) (V : Nat) : Pf (setC cs i V) (xs.set i V) := h.set hi V
theorem RN.call {n0 : Nat} {w0 w : World} {a : Option Addr} {n cap : Nat} {xs : List Nat} (h : RN n0 w0 a n cap xs) (hb : Below n0 w0 w) (hn : n0 ≤ w.heap.size) : RN w.heap.size w a n cap xs := ⟨h.1, (h.2.below hb).up hn⟩
theorem flat_at : ∀ (ys : List Nat) (j : Nat) (u : Value), (flat ys)[j]? = some u → ∃ i k, ∃ h : i < ys.length, k < 4 ∧ j = i * 4 + k ∧ u = .int .u64 (wd ys[i] k : Nat)
  | [], j, u, h => by simp [flat] at h
  | Y :: ys, 0, u, h => ⟨0, 0, by simp, by decide, rfl, by simpa [flat] using h.symm⟩
  | Y :: ys, 1, u, h => ⟨0, 1, by simp, by decide, rfl, by simpa [flat] using h.symm⟩
  | Y :: ys, 2, u, h => ⟨0, 2, by simp, by decide, rfl, by simpa [flat] using h.symm⟩
  | Y :: ys, 3, u, h => ⟨0, 3, by simp, by decide, rfl, by simpa [flat] using h.symm⟩
  | Y :: ys, j + 4, u, h => by
    obtain ⟨i, k, hi, hk, e, hu⟩ := flat_at ys j u (by simpa [flat] using h)
    exact ⟨i + 1, k, by simpa using hi, hk, by omega, by simpa using hu⟩
/-- these numbers lie there -/
def LieAt (w : World) (g o : Nat) (ys : List Nat) : Prop := ∀ i x, ys[i]? = some x → C4 w g (o + i * 4) x
theorem LieAt.news {w : World} {g o : Nat} {ys : List Nat} (h : LieAt w g o ys) : ∀ j u, (flat ys)[j]? = some u → w.cell? ((⟨g, o, none⟩ : Addr).add j) = some u := fun j u hu => by
  obtain ⟨i, k, hi, hk, rfl, rfl⟩ := flat_at ys j u hu
  rw [Addr.add_mid]
  obtain ⟨h0, h1, h2, h3⟩ := h i ys[i] (List.getElem?_eq_getElem hi)
  match k, hk with
  | 0, _ => exact h0
  | 1, _ => rw [← Nat.add_assoc]; exact h1
  | 2, _ => rw [← Nat.add_assoc]; exact h2
  | 3, _ => rw [← Nat.add_assoc]; exact h3
theorem flat_cells (ys : List Nat) : ∀ u ∈ flat ys, u.oneCell' = true := fun u hu => by
  obtain ⟨j, hj, rfl⟩ := List.getElem_of_mem hu
  obtain ⟨i, k, _, _, _, e⟩ := flat_at ys j _ (List.getElem?_eq_getElem hj)
  rw [e]; rfl
theorem run_appN {dst : Option Tmp} {ρ : Operand → Value} {w : World} {base m c g o : Nat} {v : Value} {xs ys : List Nat} {s x : Operand} {ty : TypeId} {pos : String} {after : Array Edge} {gd : Option (Nat × Bool)} (hv : NR base w v xs) (hs : ρ s = v) (hx : ρ x = .slice (some ⟨g, o, none⟩) m c) (hm : ys.length = m)
    (hl : LieAt w g o ys) (hn : xs.length + m ≤ 2000) (hb : base ≤ w.heap.size) :
    ∃ v' w', (execOp ρ ⟨dst, .call { callee := .builtin .append, args := #[s, x], argTypes := #[27, 27] }, ty, pos, after, gd⟩).run Try.prog w = .ok (.value v') w' ∧ NR base w' v' (xs ++ ys) ∧ w.grownBy w' v.ownBlock ∧ (v' = .slice none 0 0 ↔ v = .slice none 0 0 ∧ m = 0) ∧ (v'.ownBlock = v.ownBlock ∨ v'.ownBlock = some w.heap.size) := by
  subst hm
  obtain ⟨i0, hi, hz0, hz1, hz2⟩ := info_parts Try.infoNum
  obtain ⟨v', w', hr, h2, h3, h4, h5⟩ := run_append_own_at (P := Try.prog) w base 27 ty 24 i0 _ 4 32 Try.underlying27 hi hz0 hz1 hz2 rfl (by decide) v xs.length (flat xs) hv ⟨g, o, none⟩ ys.length c (flat ys) (flat_len ys) hl.news (flat_cells ys) (by unfold maxLen; omega) (by omega) hb
  refine ⟨v', w', ?_, ?_, h3, h4, h5⟩
  · unfold execOp
    simp only [resolve, invoke, builtin, Sem.run_bind, Sem.run_pure, Result.andThen_ok, List.map_toArray, List.map_cons, List.map_nil, hs, hx, hr]
  · unfold NR
    rw [flat_app, List.length_append]
    exact h2
theorem NR.row {base : Nat} {w : World} {v : Value} {xs : List Nat} (h : NR base w v xs) (hx : xs ≠ []) : ∃ g cap cur, v = .slice (some ⟨g, 0, none⟩) xs.length cap ∧ base ≤ g ∧ At w g 24 cur ∧ xs.length ≤ cap ∧ cap ≤ 9223372036854775807 ∧ Pf cur xs := by
  rcases h.2 with ⟨_, h0⟩ | ⟨g, cap, cur, rfl, hg, hc, h1, h2, h3, h4⟩
  · exact absurd (List.length_eq_zero_iff.1 h0) hx
  · refine ⟨g, cap, cur, rfl, hg, hc, h1, h2, by rw [h3]; exact Nat.mul_le_mul_right _ h1, fun i hi k hk => ?_⟩
    have hf := flat_get xs i hi k hk
    rw [← h4, List.getElem?_take] at hf
    split at hf
    · simpa using hf
    · cases hf
theorem NR.one {w : World} {g X : Nat} (h : At w g 24 (rows1 X)) : NR g w (.slice (some ⟨g, 0, none⟩) 1 1) [X] := ⟨rfl, Or.inr ⟨g, 1, _, rfl, Nat.le_refl _, h, Nat.le_refl _, by decide, rfl, rfl⟩⟩
theorem Pf.lie {w : World} {g : Nat} {cs : Array Value} {t : TypeId} {xs : List Nat} (h : Pf cs xs) (hat : At w g t cs) : LieAt w g 0 xs := fun i x hi => h.c4 hat hi
theorem sof_negQ {Q X : Nat} (h1 : 1 < Q) (hX : X < Q) : (0 + Q - X) % Q = sofN Q (-(X : Int)) := by
  have := sof_sub h1 0 (X : Int)
  rw [sof_zero h1, sof_self hX h1, show (0 : Int) - (X : Int) = -(X : Int) by omega] at this
  exact this
theorem less_step (A : Nat) (xs : List Nat) (but i : Nat) (hi : i < xs.length) : prZ (A : Int) ((zs (xs.take (i + 1))).eraseIdx but) = if i = but then prZ (A : Int) ((zs (xs.take i)).eraseIdx but) else prZ (A : Int) ((zs (xs.take i)).eraseIdx but) * ((A : Int) - (xs[i] : Int)) := by
  have e : zs (xs.take (i + 1)) = zs (xs.take i) ++ [(xs[i] : Int)] := by rw [List.take_succ_eq_append_getElem hi]; exact List.map_append
  have hl : (zs (xs.take i)).length = i := by rw [zs_len, List.length_take]; omega
  rw [e]
  by_cases hb : i = but
  · subst hb
    rw [if_pos rfl, List.eraseIdx_append_of_length_le (by omega), hl, Nat.sub_self]
    rw [List.eraseIdx_of_length_le (Nat.le_of_eq hl)]
    simp
  · rw [if_neg hb]
    by_cases hlt : but < i
    · rw [List.eraseIdx_append_of_lt_length (by omega), prZ_app]
      simp [prZ]
    · rw [List.eraseIdx_append_of_length_le (by omega), List.eraseIdx_of_length_le (show [(xs[i] : Int)].length ≤ but - (zs (xs.take i)).length by rw [hl]; simp; omega), List.eraseIdx_of_length_le (by omega), prZ_app]
      simp [prZ]
theorem less_mul {Q A x : Nat} {z p : Int} (h1 : 1 < Q) (hA : A < Q) (hx : x < Q) : sofN Q (z * p) * ((A + Q - x) % Q) % Q = sofN Q (z * (p * ((A : Int) - (x : Int)))) := by
  have h2 : (A + Q - x) % Q = sofN Q ((A : Int) - (x : Int)) := by
    have := sof_sub h1 (A : Int) (x : Int)
    rwa [sof_self hA h1, sof_self hx h1] at this
  rw [h2, sof_mul h1, Int.mul_assoc]
set_option maxRecDepth 100000 in
set_option maxHeartbeats 800000 in
theorem addTimes_any (P Q G H T gp gq lp cap lq capq n0 : Nat) (ps os : List Nat) (cp co : Array Value) (M : List (Nat × TypeId × Array Value)) (w0 w : World) (hQ : Q < 2 ^ 256) (h1 : 1 < Q) (hT : T < Q) (hps : ∀ c ∈ ps, c < Q) (hos : ∀ c ∈ os, c < Q) (hcp : Pf cp ps) (hco : Pf co os) (hlp : ps.length = lp) (hlq : os.length = lq) (hle : lq ≤ lp) (hbig : lp ≤ 2000) (HM : Mem n0 w0 w ((gp, 24, cp) :: (gq, 24, co) :: M)) :
    Calls Try.prog 23 #[grp P Q G H, .slice (some ⟨gp, 0, none⟩) lp cap, .slice (some ⟨gq, 0, none⟩) lq capq, num T] w fun e w2 => e = .returned (.tuple #[]) ∧ ∃ cp2, Pf cp2 (addT Q ps os T) ∧ Mem n0 w0 w2 ((gp, 24, cp2) :: (gq, 24, co) :: M) := by
  refine sx_enterW (args := [grp P Q G H, .slice (some ⟨gp, 0, none⟩) lp cap, .slice (some ⟨gq, 0, none⟩) lq capq, num T]) HM Try.func23 rfl Try.ntmps23 (by rfl) fun a F HM => ?_
  repeat (first | refine ex_then ?_ | refine ex_block ?_ | refine wp_seq ?_ | refine wp_block ?_ | refine wp_skip ?_)
  refine wp_region_lit ?_
  refine lx_new F HM (wanted_none rfl _) rfl (by rfl) (o_boxG (F.ev rfl)) fun a w gg F HM => ?_
  refine lx_new F HM (wanted_none rfl _) rfl (by rfl) (o_boxN (F.ev rfl)) fun a w gx F HM => ?_
  refine lx_nil ?_
  repeat (first | refine ex_then ?_ | refine ex_block ?_ | refine wp_seq ?_ | refine wp_block ?_ | refine wp_skip ?_)
  refine wp_region_lit ?_
  refine lx_value (v := .slice (some ⟨gq, 0, none⟩) lq capq) F (wanted_none rfl _) rfl (by rfl) (o_move (F.ev rfl)) fun a F => ?_
  refine lx_value (v := .int .i64 (lq : Nat)) F (wanted_none rfl _) rfl (by rfl) (o_len (F.ev rfl)) fun a F => ?_
  refine lx_value (v := .int .i64 0) F (wanted_none rfl _) rfl (by rfl) (o_move rfl) fun a F => ?_
  refine lx_nil ?_
  repeat (first | refine ex_then ?_ | refine ex_block ?_ | refine wp_seq ?_ | refine wp_block ?_ | refine wp_skip ?_)
  refine wp_loop (fun a w => ∃ (i : Nat) (cs : Array Value), i ≤ lq ∧ Pf cs (addT Q ps (os.take i) T) ∧ Fr a 34 [(13, .int .i64 (i : Nat)), (1, .slice (some ⟨gp, 0, none⟩) lp cap), (11, .slice (some ⟨gq, 0, none⟩) lq capq), (12, .int .i64 (lq : Nat)), (4, .pointer (some ⟨gg, 0, none⟩)), (7, .pointer (some ⟨gx, 0, none⟩))] [] ∧ Mem n0 w0 w ((gx, 24, ncs T) :: (gg, 26, gcs P Q G H) :: (gp, 24, cs) :: (gq, 24, co) :: M)) (fun a _ => lq - (intOf (a.tmps.getD 13 undef)).toNat) ⟨0, cp, Nat.zero_le _, by rw [List.take_zero, addT_nil]; exact hcp, F.sub [13, 1, 11, 12, 4, 7], HM⟩ ?_
  clear F HM
  rintro aS wS ⟨i, cs, hi, hcs, FS, HM⟩
  have F := FS
  by_cases hlt : i < lq
  · repeat (first | refine ex_then ?_ | refine ex_block ?_ | refine wp_seq ?_ | refine wp_block ?_ | refine wp_skip ?_)
    refine wp_region_lit ?_
    refine lx_value (v := .bool true) F (wanted_none rfl _) rfl (by rfl) (o_bin (u := .int .i64 (i : Nat)) (v := .int .i64 (lq : Nat)) (fun ρ hx hy => by simp only [execOp, hx, hy]; simp [go_sem]; omega) (F.ev rfl) (F.ev rfl)) fun a F => ?_
    refine lx_nil ?_
    repeat (first | refine ex_then ?_ | refine ex_block ?_ | refine wp_seq ?_ | refine wp_block ?_ | refine wp_skip ?_)
    refine wp_cond_true (F.ev rfl) ?_
    have hio : i < os.length := by omega
    have hip : i < ps.length := by omega
    have hilp : i < lp := by omega
    have hod : os[i]? = some os[i] := List.getElem?_eq_getElem hio
    have hpc : (addT Q ps (os.take i) T)[i]? = some ps[i] := by rw [List.getElem?_eq_getElem (by rw [addT_len]; exact hip), addT_take_get]
    have hst := addT_step Q ps os T i hio hip
    have hdQ := hos _ (List.getElem_mem hio)
    have hcQ := hps _ (List.getElem_mem hip)
    have hil : i < (addT Q ps (os.take i) T).length := by rw [addT_len]; exact hip
    generalize os[i] = d at *
    generalize ps[i] = c at *
    have hT2 := Nat.mod_lt (d * T) (show 0 < Q by omega)
    repeat (first | refine ex_then ?_ | refine ex_block ?_ | refine wp_seq ?_ | refine wp_block ?_ | refine wp_skip ?_)
    refine wp_region_lit ?_
    refine lx_value (v := .int .i64 (i : Nat)) F (wanted_none rfl _) rfl (by rfl) (o_move (F.ev rfl)) fun a F => ?_
    refine lx_value (v := .pointer (some ⟨gq, 0 + i * 4, none⟩)) F (wanted_none rfl _) rfl (by rfl) (o_idxN hlt (F.ev rfl) (F.ev rfl)) fun a F => ?_
    refine lx_value (v := num d) F (wanted_none rfl _) rfl (by rfl) (o_loadC (F.ev rfl) (hco.c4 (HM.get 3 rfl) hod)) fun a F => ?_
    refine lx_new F HM (wanted_none rfl _) rfl (by rfl) (o_allocN) fun a w gc F HM => ?_
    refine lx_value (v := .int .i64 (i : Nat)) F (wanted_none rfl _) rfl (by rfl) (o_assign (F.ev rfl)) fun a F => ?_
    refine lx_store F HM (wanted_none rfl _) rfl (k := 0) rfl (o_storeN (F.ev rfl) (F.ev rfl) (HM.get 0 rfl)) (M2 := ((gc, 24, ncs d) :: (gx, 24, ncs T) :: (gg, 26, gcs P Q G H) :: (gp, 24, cs) :: (gq, 24, co) :: M)) (rfl) fun w HM => ?_
    refine lx_nil ?_
    repeat (first | refine ex_then ?_ | refine ex_block ?_ | refine wp_seq ?_ | refine wp_block ?_ | refine wp_skip ?_)
    refine wp_region_lit ?_
    refine lx_value (v := grp P Q G H) F (wanted_none rfl _) rfl (by rfl) (o_loadG (F.ev rfl) (HM.get 2 rfl)) fun a F => ?_
    refine lx_value (v := num d) F (wanted_none rfl _) rfl (by rfl) (o_loadN (F.ev rfl) (HM.get 0 rfl)) fun a F => ?_
    refine lx_value (v := tal P Q G H d) F (wanted_none rfl _) rfl (by rfl) (o_buildT (F.ev rfl) (F.ev rfl)) fun a F => ?_
    refine lx_new F HM (wanted_none rfl _) rfl (by rfl) (o_allocT) fun a w gt F HM => ?_
    refine lx_store F HM (wanted_none rfl _) rfl (k := 0) rfl (o_storeT (F.ev rfl) (F.ev rfl) (HM.get 0 rfl)) (M2 := ((gt, 49, tcs P Q G H d) :: (gc, 24, ncs d) :: (gx, 24, ncs T) :: (gg, 26, gcs P Q G H) :: (gp, 24, cs) :: (gq, 24, co) :: M)) (by rw [setsT]; rfl) fun w HM => ?_
    refine lx_nil ?_
    repeat (first | refine ex_then ?_ | refine ex_block ?_ | refine wp_seq ?_ | refine wp_block ?_ | refine wp_skip ?_)
    refine wp_region_lit ?_
    refine lx_value (v := num T) F (wanted_none rfl _) rfl (by rfl) (o_loadN (F.ev rfl) (HM.get 2 rfl)) fun a F => ?_
    refine lx_call F (wanted_none rfl _) rfl (by rfl) (run_callF Try.func33 (by kernel_rfl) (by rfl) (.cons (F.ev rfl) (.cons (F.ev rfl) .nil)) _) (ttimes_any P Q G H d T gt _ _ _ _ hQ h1 hdQ hT HM) fun a w HM F => ?_
    refine lx_nil ?_
    repeat (first | refine ex_then ?_ | refine ex_block ?_ | refine wp_seq ?_ | refine wp_block ?_ | refine wp_skip ?_)
    refine wp_region_lit ?_
    refine lx_value (v := .slice (some ⟨gp, 0, none⟩) lp cap) F (wanted_none rfl _) rfl (by rfl) (o_move (F.ev rfl)) fun a F => ?_
    refine lx_value (v := .int .i64 (i : Nat)) F (wanted_none rfl _) rfl (by rfl) (o_move (F.ev rfl)) fun a F => ?_
    refine lx_value (v := .pointer (some ⟨gp, 0 + i * 4, none⟩)) F (wanted_none rfl _) rfl (by rfl) (o_idxN hilp (F.ev rfl) (F.ev rfl)) fun a F => ?_
    refine lx_value (v := num c) F (wanted_none rfl _) rfl (by rfl) (o_loadC (F.ev rfl) (hcs.c4 (HM.get 4 rfl) hpc)) fun a F => ?_
    refine lx_call F (wanted_none rfl _) rfl (by rfl) (run_callF Try.func37 (by kernel_rfl) (by rfl) (.cons (F.ev rfl) (.cons (F.ev rfl) .nil)) _) (tadd_any P Q G H _ c gt _ _ _ _ hQ h1 hT2 hcQ HM) fun a w HM F => ?_
    refine lx_nil ?_
    repeat (first | refine ex_then ?_ | refine ex_block ?_ | refine wp_seq ?_ | refine wp_block ?_ | refine wp_skip ?_)
    refine wp_region_lit ?_
    refine lx_value (v := .slice (some ⟨gp, 0, none⟩) lp cap) F (wanted_none rfl _) rfl (by rfl) (o_move (F.ev rfl)) fun a F => ?_
    refine lx_value (v := .int .i64 (i : Nat)) F (wanted_none rfl _) rfl (by rfl) (o_move (F.ev rfl)) fun a F => ?_
    refine lx_value (v := .pointer (some ⟨gt, 16, none⟩)) F (wanted_none rfl _) rfl (by rfl) (o_fieldT1 (F.ev rfl)) fun a F => ?_
    refine lx_value (v := num ((d * T % Q + c) % Q)) F (wanted_none rfl _) rfl (by rfl) (o_loadT1 (F.ev rfl) (HM.get 0 rfl)) fun a F => ?_
    refine lx_value (v := .pointer (some ⟨gp, 0 + i * 4, none⟩)) F (wanted_none rfl _) rfl (by rfl) (o_idxN hilp (F.ev rfl) (F.ev rfl)) fun a F => ?_
    refine lx_store F HM (wanted_none rfl _) rfl (k := 4) rfl (o_storeC (F.ev rfl) (F.ev rfl) (HM.get 4 rfl) (hcs.room hil)) (M2 := ((gt, 49, tcs P Q G H ((d * T % Q + c) % Q)) :: (gc, 24, ncs d) :: (gx, 24, ncs T) :: (gg, 26, gcs P Q G H) :: (gp, 24, ((setC cs i ((d * T % Q + c) % Q)))) :: (gq, 24, co) :: M)) (rfl) fun w HM => ?_
    refine lx_nil ?_
    replace HM := HM.erase 0 (M2 := ((gc, 24, ncs d) :: (gx, 24, ncs T) :: (gg, 26, gcs P Q G H) :: (gp, 24, ((setC cs i ((d * T % Q + c) % Q)))) :: (gq, 24, co) :: M)) rfl
    replace HM := HM.erase 0 (M2 := ((gx, 24, ncs T) :: (gg, 26, gcs P Q G H) :: (gp, 24, ((setC cs i ((d * T % Q + c) % Q)))) :: (gq, 24, co) :: M)) rfl
    have hwr : IntKind.i64.wrap ((i : Int) + 1) = ((i + 1 : Nat) : Int) := by rw [IntKind.wrap_i64]; omega
    repeat (first | refine ex_then ?_ | refine ex_block ?_ | refine wp_seq ?_ | refine wp_block ?_ | refine wp_skip ?_)
    refine wp_region_lit ?_
    refine lx_value (v := .int .i64 ((i + 1 : Nat) : Int)) F (wanted_none rfl _) rfl (by rfl) (o_bin (u := .int .i64 (i : Nat)) (v := .int .i64 1) (fun ρ hx hy => by simp only [execOp, hx, hy]; simp [go_sem, hwr]) (F.ev rfl) rfl) fun a F => ?_
    refine lx_value (v := .int .i64 ((i + 1 : Nat) : Int)) F (wanted_none rfl _) rfl (by rfl) (o_move (F.ev rfl)) fun a F => ?_
    refine lx_nil ?_
    refine ex_then ?_
    refine ⟨⟨i + 1, _, by omega, by rw [← hst]; exact hcs.setC hil _, F.sub [13, 1, 11, 12, 4, 7], HM⟩, ?_⟩
    · show lq - (intOf (a.tmps.getD 13 undef)).toNat < lq - (intOf (aS.tmps.getD 13 undef)).toNat
      rw [F.get 13 _ rfl, FS.get 13 _ rfl]
      show lq - ((i + 1 : Nat) : Int).toNat < lq - ((i : Nat) : Int).toNat
      omega
  · repeat (first | refine ex_then ?_ | refine ex_block ?_ | refine wp_seq ?_ | refine wp_block ?_ | refine wp_skip ?_)
    refine wp_region_lit ?_
    refine lx_value (v := .bool false) F (wanted_none rfl _) rfl (by rfl) (o_bin (u := .int .i64 (i : Nat)) (v := .int .i64 (lq : Nat)) (fun ρ hx hy => by simp only [execOp, hx, hy]; simp [go_sem]; omega) (F.ev rfl) (F.ev rfl)) fun a F => ?_
    refine lx_nil ?_
    repeat (first | refine ex_then ?_ | refine ex_block ?_ | refine wp_seq ?_ | refine wp_block ?_ | refine wp_skip ?_)
    refine wp_cond_false (F.ev rfl) ?_
    repeat (first | refine ex_then ?_ | refine ex_block ?_ | refine wp_seq ?_ | refine wp_block ?_ | refine wp_skip ?_)
    refine wp_exit ?_
    repeat (first | refine ex_thenE ?_ | refine ex_blockE ?_)
    have hfin : os.take i = os := List.take_of_length_le (by omega)
    rw [hfin] at hcs
    replace HM := HM.erase 0 (M2 := ((gg, 26, gcs P Q G H) :: (gp, 24, cs) :: (gq, 24, co) :: M)) rfl
    replace HM := HM.erase 0 (M2 := ((gp, 24, cs) :: (gq, 24, co) :: M)) rfl
    repeat (first | refine ex_then ?_ | refine ex_block ?_ | refine wp_seq ?_ | refine wp_block ?_ | refine wp_skip ?_)
    exact bodyPost_end (res_none rfl) F.defers ⟨rfl, cs, hcs, HM⟩

set_option maxRecDepth 100000 in
set_option maxHeartbeats 800000 in
theorem lessO_any (P Q G H A S gt n0 n cap but : Nat) (z : Int) (pa : Option Addr) (xs : List Nat) (M : List (Nat × TypeId × Array Value)) (w0 w : World) (hQ : Q < 2 ^ 256) (h1 : 1 < Q) (hA : A < Q) (hxs : ∀ x ∈ xs, x < Q) (hS : S = sofN Q z) (r : RN n0 w0 pa n cap xs) (HM : Mem n0 w0 w ((gt, 49, tcs P Q G H S) :: M)) : Calls Try.prog 32 #[grp P Q G H, num A, .slice pa n cap, .int .i64 (but : Nat), .func (.func 33) #[.pointer (some ⟨gt, 0, none⟩)] #[]] w fun e w2 => e = .returned (.tuple #[]) ∧ Mem n0 w0 w2 ((gt, 49, tcs P Q G H (sofN Q (z * prZ A ((zs xs).eraseIdx but)))) :: M) := by
  refine sx_enterW (args := [grp P Q G H, num A, .slice pa n cap, .int .i64 (but : Nat), .func (.func 33) #[.pointer (some ⟨gt, 0, none⟩)] #[]]) HM Try.func32 rfl Try.ntmps32 (by rfl) fun a F HM => ?_
  repeat (first | refine ex_then ?_ | refine ex_block ?_ | refine wp_seq ?_ | refine wp_block ?_ | refine wp_skip ?_)
  refine wp_region_lit ?_
  refine lx_new F HM (wanted_none rfl _) rfl (by rfl) (o_boxG (F.ev rfl)) fun a w gg F HM => ?_
  refine lx_new F HM (wanted_none rfl _) rfl (by rfl) (o_boxN (F.ev rfl)) fun a w ga F HM => ?_
  refine lx_nil ?_
  replace HM := HM.front 2 rfl (M2 := ((gt, 49, tcs P Q G H S) :: (ga, 24, ncs A) :: (gg, 26, gcs P Q G H) :: M)) rfl
  repeat (first | refine ex_then ?_ | refine ex_block ?_ | refine wp_seq ?_ | refine wp_block ?_ | refine wp_skip ?_)
  refine wp_region_lit ?_
  refine lx_value (v := .slice pa n cap) F (wanted_none rfl _) rfl (by rfl) (o_move (F.ev rfl)) fun a F => ?_
  refine lx_value (v := .int .i64 (n : Nat)) F (wanted_none rfl _) rfl (by rfl) (o_len (F.ev rfl)) fun a F => ?_
  refine lx_value (v := .int .i64 0) F (wanted_none rfl _) rfl (by rfl) (o_move rfl) fun a F => ?_
  refine lx_nil ?_
  repeat (first | refine ex_then ?_ | refine ex_block ?_ | refine wp_seq ?_ | refine wp_block ?_ | refine wp_skip ?_)
  refine wp_loop (fun a w => ∃ i : Nat, i ≤ n ∧ Fr a 35 [(15, .int .i64 (i : Nat)), (2, .slice pa n cap), (14, .int .i64 (n : Nat)), (3, .int .i64 (but : Nat)), (4, .func (.func 33) #[.pointer (some ⟨gt, 0, none⟩)] #[]), (5, .pointer (some ⟨gg, 0, none⟩)), (6, .pointer (some ⟨ga, 0, none⟩))] [] ∧ Mem n0 w0 w ((gt, 49, tcs P Q G H ((sofN Q (z * prZ A ((zs (xs.take i)).eraseIdx but))))) :: (ga, 24, ncs A) :: (gg, 26, gcs P Q G H) :: M)) (fun a _ => n - (intOf (a.tmps.getD 15 undef)).toNat) ⟨0, Nat.zero_le _, F.sub [15, 2, 14, 3, 4, 5, 6], by subst hS; simpa [zs, prZ] using HM⟩ ?_
  clear F HM
  rintro aS wS ⟨i, hi, FS, HM⟩
  have F := FS
  by_cases hlt : i < n
  · repeat (first | refine ex_then ?_ | refine ex_block ?_ | refine wp_seq ?_ | refine wp_block ?_ | refine wp_skip ?_)
    refine wp_region_lit ?_
    refine lx_value (v := .bool true) F (wanted_none rfl _) rfl (by rfl) (o_bin (u := .int .i64 (i : Nat)) (v := .int .i64 (n : Nat)) (fun ρ hx hy => by simp only [execOp, hx, hy]; simp [go_sem]; omega) (F.ev rfl) (F.ev rfl)) fun a F => ?_
    refine lx_nil ?_
    repeat (first | refine ex_then ?_ | refine ex_block ?_ | refine wp_seq ?_ | refine wp_block ?_ | refine wp_skip ?_)
    refine wp_cond_true (F.ev rfl) ?_
    repeat (first | refine ex_then ?_ | refine ex_block ?_ | refine wp_seq ?_ | refine wp_block ?_ | refine wp_skip ?_)
    refine wp_region_lit ?_
    refine lx_value (v := .int .i64 (i : Nat)) F (wanted_none rfl _) rfl (by rfl) (o_move (F.ev rfl)) fun a F => ?_
    refine lx_value (v := .int .i64 (i : Nat)) F (wanted_none rfl _) rfl (by rfl) (o_assign (F.ev rfl)) fun a F => ?_
    refine lx_nil ?_
    obtain ⟨gl, ol, rfl, hil, hxb, hc⟩ := r.get hlt
    have hst := less_step A xs but i hil
    have hxQ := hxs _ (List.getElem_mem hil)
    generalize xs[i] = x at *
    have hSl := sof_lt h1 (z * prZ (A : Int) ((zs (xs.take i)).eraseIdx but))
    by_cases hbi : i = but
    · repeat (first | refine ex_then ?_ | refine ex_block ?_ | refine wp_seq ?_ | refine wp_block ?_ | refine wp_skip ?_)
      refine wp_region_lit ?_
      refine lx_value (v := .int .i64 (i : Nat)) F (wanted_none rfl _) rfl (by rfl) (o_move (F.ev rfl)) fun a F => ?_
      refine lx_value (v := .int .i64 (but : Nat)) F (wanted_none rfl _) rfl (by rfl) (o_move (F.ev rfl)) fun a F => ?_
      refine lx_value (v := .bool false) F (wanted_none rfl _) rfl (by rfl) (o_neqI (b := true) (decide_eq_true (by omega)) (F.ev rfl) (F.ev rfl) rfl) fun a F => ?_
      refine lx_nil ?_
      repeat (first | refine ex_then ?_ | refine ex_block ?_ | refine wp_seq ?_ | refine wp_block ?_ | refine wp_skip ?_)
      refine wp_cond_false (F.ev rfl) ?_
      repeat (first | refine ex_then ?_ | refine ex_block ?_ | refine wp_seq ?_ | refine wp_block ?_ | refine wp_skip ?_)
      refine wp_region_lit ?_
      refine lx_value (v := .int .i64 ((i + 1 : Nat) : Int)) F (wanted_none rfl _) rfl (by rfl) (o_bin (u := .int .i64 (i : Nat)) (v := .int .i64 1) (fun ρ hx hy => by simp only [execOp, hx, hy]; simp [go_sem, r.room hlt]) (F.ev rfl) rfl) fun a F => ?_
      refine lx_value (v := .int .i64 ((i + 1 : Nat) : Int)) F (wanted_none rfl _) rfl (by rfl) (o_move (F.ev rfl)) fun a F => ?_
      refine lx_nil ?_
      rw [if_pos hbi] at hst
      rw [← hst] at HM
      refine ex_then ?_
      refine ⟨⟨i + 1, by omega, F.sub [15, 2, 14, 3, 4, 5, 6], HM⟩, ?_⟩
      · show n - (intOf (a.tmps.getD 15 undef)).toNat < n - (intOf (aS.tmps.getD 15 undef)).toNat
        rw [F.get 15 _ rfl, FS.get 15 _ rfl]
        show n - ((i + 1 : Nat) : Int).toNat < n - ((i : Nat) : Int).toNat
        omega
    · repeat (first | refine ex_then ?_ | refine ex_block ?_ | refine wp_seq ?_ | refine wp_block ?_ | refine wp_skip ?_)
      refine wp_region_lit ?_
      refine lx_value (v := .int .i64 (i : Nat)) F (wanted_none rfl _) rfl (by rfl) (o_move (F.ev rfl)) fun a F => ?_
      refine lx_value (v := .int .i64 (but : Nat)) F (wanted_none rfl _) rfl (by rfl) (o_move (F.ev rfl)) fun a F => ?_
      refine lx_value (v := .bool true) F (wanted_none rfl _) rfl (by rfl) (o_neqI (b := false) (decide_eq_false (by omega)) (F.ev rfl) (F.ev rfl) rfl) fun a F => ?_
      refine lx_nil ?_
      repeat (first | refine ex_then ?_ | refine ex_block ?_ | refine wp_seq ?_ | refine wp_block ?_ | refine wp_skip ?_)
      refine wp_cond_true (F.ev rfl) ?_
      rw [if_neg hbi] at hst
      repeat (first | refine ex_then ?_ | refine ex_block ?_ | refine wp_seq ?_ | refine wp_block ?_ | refine wp_skip ?_)
      refine sx_enterR (S := fun w' => Mem _ _ w' ((gt, 49, tcs P Q G H ((sofN Q (z * prZ A ((zs (xs.take i)).eraseIdx but))))) :: (ga, 24, ncs A) :: (gg, 26, gcs P Q G H) :: M)) HM (fun _ h => h) (by kernel_rfl) fun w HM HBW => ?_
      clear HBW
      try simp only [List.append_eq, List.cons_append, List.nil_append]
      refine sx_batch [⟨0, 22, [], .val (grp P Q G H), true⟩,
      ⟨1, 23, [0], .val (num A), true⟩,
      ⟨2, 24, [1], .val (.slice (some ⟨gl, ol, none⟩) n cap), true⟩,
      ⟨3, 25, [2], .val (.int .i64 (i : Nat)), true⟩,
      ⟨4, 26, [2, 3], .val (.pointer (some ⟨gl, ol + i * 4, none⟩)), true⟩,
      ⟨5, 27, [4], .val (num x), true⟩,
      ⟨10, 11, [], .cell 24 (ncs 0), false⟩,
      ⟨6, 28, [0, 1, 5], .val (.tuple #[num (((A + Q - x) % Q)), .int .i64 0]), false⟩,
      ⟨7, 21, [7], .val (.tuple #[num (((A + Q - x) % Q)), .int .i64 0]), true⟩,
      ⟨8, 29, [8], .val (num (((A + Q - x) % Q))), true⟩,
      ⟨9, 30, [8, 9], .val (.int .i64 0), true⟩] 2 _ F HM (fun _ h => h.subl (by first | exact List.Sublist.refl _ | (repeat (first | exact List.Sublist.refl _ | refine List.Sublist.cons_cons _ ?_ | refine List.Sublist.cons _ ?_)))) (by kernel_rfl) (by rfl) ?_ ?_ ?_ ?_ ?_ ?_ ?_
      · kernel_rfl
      · exact of_decide_eq_true (by kernel_rfl)
      · exact all_cons ⟨_, by rfl, by rfl⟩ (all_cons ⟨_, by rfl, by rfl⟩ (all_cons ⟨_, by rfl, by rfl⟩ (all_cons ⟨_, by rfl, by rfl⟩ (all_cons ⟨_, by rfl, by rfl⟩ (all_cons ⟨_, by rfl, by rfl⟩ (all_cons ⟨_, by rfl, by rfl⟩ (all_cons ⟨_, by rfl, by rfl⟩ (all_cons ⟨_, by rfl, by rfl⟩ (all_cons ⟨_, by rfl, by rfl⟩ (all_cons ⟨_, by rfl, by rfl⟩ (all_nil)))))))))))
      · kernel_rfl
      · refine all_cons ?_ (all_cons ?_ (all_cons ?_ (all_cons ?_ (all_cons ?_ (all_cons ?_ (all_cons ?_ (all_cons ?_ (all_cons ?_ (all_cons ?_ (all_cons ?_ (all_nil)))))))))))
        · exact coreS _ _ _ _ _ _ _ (by rfl) (by rfl) (wants_none) (fun ρ w kn hs => o_loadG (kn _ _ (F.old (by rfl) rfl)) (hs.get 2 rfl))
        · exact coreS _ _ _ _ _ _ _ (by rfl) (by rfl) (wants_none) (fun ρ w kn hs => o_loadN (kn _ _ (F.old (by rfl) rfl)) (hs.get 1 rfl))
        · exact coreS _ _ _ _ _ _ _ (by rfl) (by rfl) (wants_none) (fun ρ w kn hs => o_move (kn _ _ (F.old (by rfl) rfl)))
        · exact coreS _ _ _ _ _ _ _ (by rfl) (by rfl) (wants_none) (fun ρ w kn hs => o_move (kn _ _ (F.old (by rfl) rfl)))
        · exact coreS _ _ _ _ _ _ _ (by rfl) (by rfl) (wants_none) (fun ρ w kn hs => o_idxN hlt (kn _ _ (known_core 2 24 _ _ (of_decide_eq_true (by rfl)) (by rfl) (by rfl) (by rfl))) (kn _ _ (known_core 3 25 _ _ (of_decide_eq_true (by rfl)) (by rfl) (by rfl) (by rfl))))
        · exact coreS _ _ _ _ _ _ _ (by rfl) (by rfl) (wants_none) (fun ρ w kn hs => o_loadC (kn _ _ (known_core 4 26 _ _ (of_decide_eq_true (by rfl)) (by rfl) (by rfl) (by rfl))) (hc _ hs.bel))
        · exact core_pureAs _ (by rfl)
        · exact core_pureAs _ (by rfl)
        · exact coreS _ _ _ _ _ _ _ (by rfl) (by rfl) (wants_none) (fun ρ w kn hs => o_move (kn _ _ (known_core 7 28 _ _ (of_decide_eq_true (by rfl)) (by rfl) (by rfl) (by rfl))))
        · exact coreS _ _ _ _ _ _ _ (by rfl) (by rfl) (wants_none) (fun ρ w kn hs => o_extract (kn _ _ (known_core 8 21 _ _ (of_decide_eq_true (by rfl)) (by rfl) (by rfl) (by rfl))) rfl)
        · exact coreS _ _ _ _ _ _ _ (by rfl) (by rfl) (wants_none) (fun ρ w kn hs => o_extract (kn _ _ (known_core 8 21 _ _ (of_decide_eq_true (by rfl)) (by rfl) (by rfl) (by rfl))) rfl)
      · refine all_cons ?_ (all_cons ?_ (all_cons ?_ (all_cons ?_ (all_cons ?_ (all_cons ?_ (all_cons ?_ (all_cons ?_ (all_cons ?_ (all_cons ?_ (all_cons ?_ (all_nil)))))))))))
        · exact core_stepAs _ (by rfl)
        · exact core_stepAs _ (by rfl)
        · exact core_stepAs _ (by rfl)
        · exact core_stepAs _ (by rfl)
        · exact core_stepAs _ (by rfl)
        · exact core_stepAs _ (by rfl)
        · exact fun _ => core_new _ _ _ _ _ _ _ _ (by rfl) (by rfl) (Nat.le_refl _) (fun ρ w => o_allocN)
        · exact fun _ => coreG_call _ 20 _ _ [.tmp 22, .tmp 23, .tmp 27] _ _ _ _ _ _ _ (by rfl) Try.func20 (by kernel_rfl) (by rfl) (by rfl) (wants_none) (.cons (known_core 0 22 _ _ (of_decide_eq_true (by rfl)) (by rfl) (by rfl) (by rfl)) (.cons (known_core 1 23 _ _ (of_decide_eq_true (by rfl)) (by rfl) (by rfl) (by rfl)) (.cons (known_core 5 27 _ _ (of_decide_eq_true (by rfl)) (by rfl) (by rfl) (by rfl)) .nil))) ((ssub_yes P Q G H A x hQ h1 hA hxQ))
        · exact core_stepAs _ (by rfl)
        · exact core_stepAs _ (by rfl)
        · exact core_stepAs _ (by rfl)
      intro gs rs a w hgs hrs F HM HBW HR HO HT
      obtain rfl := nl0 rs hrs
      obtain ⟨gd, rfl⟩ := nl1 gs hgs
      clear hrs hgs HR HBW HO
      clear HT
      refine sx_store (i := 11) HM (by kernel_rfl) (by rfl) rfl rfl (k := 0) rfl (o_storeN (F.ev rfl) (F.ev rfl) (HM.get 0 rfl)) (M2 := ((gd, 24, ncs (((A + Q - x) % Q))) :: (gt, 49, tcs P Q G H ((sofN Q (z * prZ A ((zs (xs.take i)).eraseIdx but))))) :: (ga, 24, ncs A) :: (gg, 26, gcs P Q G H) :: M)) (rfl) (fun _ h => h.subl (by first | exact List.Sublist.refl _ | (repeat (first | exact List.Sublist.refl _ | refine List.Sublist.cons_cons _ ?_ | refine List.Sublist.cons _ ?_)))) fun w HM => ?_
      refine sx_assign (i := 12) (d := 12) (x := .tmp 30) (v := .int .i64 0) F ((HM.subl (by first | exact List.Sublist.refl _ | (repeat (first | exact List.Sublist.refl _ | refine List.Sublist.cons_cons _ ?_ | refine List.Sublist.cons _ ?_))))) (by kernel_rfl) (by rfl) (by rfl) (F.ev rfl) fun a F => ?_
      refine sx_done (by kernel_rfl) ?_ _
      replace HM := HM.front 1 rfl (M2 := ((gt, 49, tcs P Q G H ((sofN Q (z * prZ A ((zs (xs.take i)).eraseIdx but))))) :: (gd, 24, ncs (((A + Q - x) % Q))) :: (ga, 24, ncs A) :: (gg, 26, gcs P Q G H) :: M)) rfl
      have hdl := Nat.mod_lt (A + Q - x) (show 0 < Q by omega)
      repeat (first | refine ex_then ?_ | refine ex_block ?_ | refine wp_seq ?_ | refine wp_block ?_ | refine wp_skip ?_)
      refine wp_region_lit ?_
      refine lx_value (v := .func (.func 33) #[.pointer (some ⟨gt, 0, none⟩)] #[]) F (wanted_none rfl _) rfl (by rfl) (o_move (F.ev rfl)) fun a F => ?_
      refine lx_value (v := num (((A + Q - x) % Q))) F (wanted_none rfl _) rfl (by rfl) (o_loadN (F.ev rfl) (HM.get 1 rfl)) fun a F => ?_
      refine lx_call F (wanted_none rfl _) rfl (by rfl) (run_callVB (rl := [.pointer (some ⟨gt, 0, none⟩)]) Try.func33 (by kernel_rfl) (by rfl) (F.ev rfl) (.cons (F.ev rfl) .nil) _) (ttimes_any P Q G H _ _ gt _ _ _ _ hQ h1 hSl hdl HM) fun a w HM F => ?_
      refine lx_nil ?_
      replace HM := HM.erase 1 (M2 := ((gt, 49, tcs P Q G H ((sofN Q (z * prZ A ((zs (xs.take i)).eraseIdx but)) * ((A + Q - x) % Q) % Q))) :: (ga, 24, ncs A) :: (gg, 26, gcs P Q G H) :: M)) rfl
      repeat (first | refine ex_then ?_ | refine ex_block ?_ | refine wp_seq ?_ | refine wp_block ?_ | refine wp_skip ?_)
      refine wp_region_lit ?_
      refine lx_value (v := .int .i64 ((i + 1 : Nat) : Int)) F (wanted_none rfl _) rfl (by rfl) (o_bin (u := .int .i64 (i : Nat)) (v := .int .i64 1) (fun ρ hx hy => by simp only [execOp, hx, hy]; simp [go_sem, r.room hlt]) (F.ev rfl) rfl) fun a F => ?_
      refine lx_value (v := .int .i64 ((i + 1 : Nat) : Int)) F (wanted_none rfl _) rfl (by rfl) (o_move (F.ev rfl)) fun a F => ?_
      refine lx_nil ?_
      rw [less_mul h1 hA hxQ, ← hst] at HM
      refine ex_then ?_
      refine ⟨⟨i + 1, by omega, F.sub [15, 2, 14, 3, 4, 5, 6], HM⟩, ?_⟩
      · show n - (intOf (a.tmps.getD 15 undef)).toNat < n - (intOf (aS.tmps.getD 15 undef)).toNat
        rw [F.get 15 _ rfl, FS.get 15 _ rfl]
        show n - ((i + 1 : Nat) : Int).toNat < n - ((i : Nat) : Int).toNat
        omega
  · repeat (first | refine ex_then ?_ | refine ex_block ?_ | refine wp_seq ?_ | refine wp_block ?_ | refine wp_skip ?_)
    refine wp_region_lit ?_
    refine lx_value (v := .bool false) F (wanted_none rfl _) rfl (by rfl) (o_bin (u := .int .i64 (i : Nat)) (v := .int .i64 (n : Nat)) (fun ρ hx hy => by simp only [execOp, hx, hy]; simp [go_sem]; omega) (F.ev rfl) (F.ev rfl)) fun a F => ?_
    refine lx_nil ?_
    repeat (first | refine ex_then ?_ | refine ex_block ?_ | refine wp_seq ?_ | refine wp_block ?_ | refine wp_skip ?_)
    refine wp_cond_false (F.ev rfl) ?_
    repeat (first | refine ex_then ?_ | refine ex_block ?_ | refine wp_seq ?_ | refine wp_block ?_ | refine wp_skip ?_)
    refine wp_exit ?_
    repeat (first | refine ex_thenE ?_ | refine ex_blockE ?_)
    rw [List.take_of_length_le (show xs.length ≤ i by have := r.1; omega)] at HM
    replace HM := HM.erase 1 (M2 := ((gt, 49, tcs P Q G H ((sofN Q (z * prZ A ((zs xs).eraseIdx but))))) :: (gg, 26, gcs P Q G H) :: M)) rfl
    replace HM := HM.erase 1 (M2 := ((gt, 49, tcs P Q G H ((sofN Q (z * prZ A ((zs xs).eraseIdx but))))) :: M)) rfl
    repeat (first | refine ex_then ?_ | refine ex_block ?_ | refine wp_seq ?_ | refine wp_block ?_ | refine wp_skip ?_)
    exact bodyPost_end (res_none rfl) F.defers ⟨rfl, HM⟩

end Go.Proofs.Ytfjploahkodekaa
