/-
  scalars: amount, the closure that gathers, Of; the document's Of.
-/
import Derived.Deep.Cut
import Derived.Test.YtfjploahkodekaaMSc2
import Derived.Test.YtfjploahkodekaaMShort
namespace Go.Proofs.Ytfjploahkodekaa
set_option maxRecDepth 100000
open Go.RowKit
set_option linter.unusedSimpArgs false
set_option linter.unusedVariables false
attribute [local go_sem ↓] Go.wp_at_zero Go.wp_at_succ

section
variable {x y : Operand} {dst : Option Tmp} {ty : TypeId} {pos : String} {after : Array Edge} {guard : Option (Nat × Bool)} {ρ : Operand → Value} {w : World}
theorem wrapI {m : Nat} (h : m < 4611686018427387904) : IntKind.i64.wrap (m : Int) = (m : Int) := by
  have := IntKind.wrap_i64 (m : Int)
  rw [this]; omega
theorem o_subI {m k : Nat} (hk : k ≤ m) (hm : m < 4611686018427387904) (hx : ρ x = .int .i64 (m : Nat)) (hy : ρ y = .int .i64 (k : Nat)) : (execOp ρ ⟨dst, .binOp .sub 3 x y 3, ty, pos, after, guard⟩).run Try.prog w = .ok (.value (.int .i64 ((m - k : Nat) : Int))) w := by
  have h1 : IntKind.i64.wrap ((m : Int) - (k : Int)) = ((m - k : Nat) : Int) := by rw [show (m : Int) - (k : Int) = ((m - k : Nat) : Int) by omega]; exact wrapI (by omega)
  simp only [execOp, hx, hy]
  simp [go_sem, h1]
theorem o_addI {m k : Nat} (hm : m + k < 4611686018427387904) (hx : ρ x = .int .i64 (m : Nat)) (hy : ρ y = .int .i64 (k : Nat)) : (execOp ρ ⟨dst, .binOp .add 3 x y 3, ty, pos, after, guard⟩).run Try.prog w = .ok (.value (.int .i64 ((m + k : Nat) : Int))) w := by
  have h1 : IntKind.i64.wrap ((m : Int) + (k : Int)) = (m : Int) + (k : Int) := by rw [show (m : Int) + (k : Int) = ((m + k : Nat) : Int) by omega]; exact wrapI hm
  simp only [execOp, hx, hy]
  simp [go_sem, h1]
end
set_option maxRecDepth 100000 in
set_option maxHeartbeats 8000000 in
theorem amount_neg (n : Int) (u m : Nat)
    (hn : n < 0)
    (hw1 : IntKind.u64.wrap n = (u : Nat))
    (hw2 : IntKind.u64.wrap (-(u : Int)) = (m : Nat))
    (w : World) : Calls Try.prog 27 #[.int .i64 n] w fun e w' => e = .returned (.int .u64 (m : Nat)) ∧ Below w.heap.size w w' := by
  refine sx_enter (args := [.int .i64 n]) Try.func27 rfl Try.ntmps27 (by rfl) fun a F HM => ?_
  repeat (first | refine ex_then ?_ | refine ex_block ?_ | refine wp_seq ?_ | refine wp_block ?_ | refine wp_skip ?_)
  refine wp_region_lit ?_
  refine lx_value (v := .int .u64 0) F (wanted_none rfl _) rfl (by rfl) (o_assign rfl) fun a F => ?_
  refine lx_nil ?_
  repeat (first | refine ex_then ?_ | refine ex_block ?_ | refine wp_seq ?_ | refine wp_block ?_ | refine wp_skip ?_)
  refine wp_region_lit ?_
  refine lx_value (v := .int .i64 n) F (wanted_none rfl _) rfl (by rfl) (o_move (F.ev rfl)) fun a F => ?_
  refine lx_value (v := .bool true) F (wanted_none rfl _) rfl (by rfl) (o_bin (u := .int .i64 n) (v := .int .i64 0) (fun ρ hx hy => by simp only [execOp, hx, hy]; simp [go_sem]; omega) (F.ev rfl) rfl) fun a F => ?_
  refine lx_nil ?_
  repeat (first | refine ex_then ?_ | refine ex_block ?_ | refine wp_seq ?_ | refine wp_block ?_ | refine wp_skip ?_)
  refine wp_cond_true (F.ev rfl) ?_
  repeat (first | refine ex_then ?_ | refine ex_block ?_ | refine wp_seq ?_ | refine wp_block ?_ | refine wp_skip ?_)
  refine wp_region_lit ?_
  refine lx_value (v := .int .i64 n) F (wanted_none rfl _) rfl (by rfl) (o_move (F.ev rfl)) fun a F => ?_
  refine lx_value (v := .int .u64 (u : Nat)) F (wanted_none rfl _) rfl (by rfl) (o_convU hw1 (F.ev rfl)) fun a F => ?_
  refine lx_value (v := .int .u64 (m : Nat)) F (wanted_none rfl _) rfl (by rfl) (o_negU hw2 (F.ev rfl)) fun a F => ?_
  refine lx_value (v := .int .u64 (m : Nat)) F (wanted_none rfl _) rfl (by rfl) (o_assign (F.ev rfl)) fun a F => ?_
  refine lx_nil ?_
  repeat (first | refine ex_then ?_ | refine ex_block ?_ | refine wp_seq ?_ | refine wp_block ?_ | refine wp_skip ?_)
  refine wp_ret ?_
  repeat (first | refine ex_thenR ?_ | refine ex_blockR ?_)
  exact sx_ret F HM (res_tmp F rfl (s := 2) rfl)

set_option maxRecDepth 100000 in
set_option maxHeartbeats 8000000 in
theorem amount_pos (n : Int) (u m : Nat)
    (hn : ¬ n < 0)
    (hw1 : IntKind.u64.wrap n = (m : Nat))
    (w : World) : Calls Try.prog 27 #[.int .i64 n] w fun e w' => e = .returned (.int .u64 (m : Nat)) ∧ Below w.heap.size w w' := by
  refine sx_enter (args := [.int .i64 n]) Try.func27 rfl Try.ntmps27 (by rfl) fun a F HM => ?_
  repeat (first | refine ex_then ?_ | refine ex_block ?_ | refine wp_seq ?_ | refine wp_block ?_ | refine wp_skip ?_)
  refine wp_region_lit ?_
  refine lx_value (v := .int .u64 0) F (wanted_none rfl _) rfl (by rfl) (o_assign rfl) fun a F => ?_
  refine lx_nil ?_
  repeat (first | refine ex_then ?_ | refine ex_block ?_ | refine wp_seq ?_ | refine wp_block ?_ | refine wp_skip ?_)
  refine wp_region_lit ?_
  refine lx_value (v := .int .i64 n) F (wanted_none rfl _) rfl (by rfl) (o_move (F.ev rfl)) fun a F => ?_
  refine lx_value (v := .bool false) F (wanted_none rfl _) rfl (by rfl) (o_bin (u := .int .i64 n) (v := .int .i64 0) (fun ρ hx hy => by simp only [execOp, hx, hy]; simp [go_sem]; omega) (F.ev rfl) rfl) fun a F => ?_
  refine lx_nil ?_
  repeat (first | refine ex_then ?_ | refine ex_block ?_ | refine wp_seq ?_ | refine wp_block ?_ | refine wp_skip ?_)
  refine wp_cond_false (F.ev rfl) ?_
  repeat (first | refine ex_then ?_ | refine ex_block ?_ | refine wp_seq ?_ | refine wp_block ?_ | refine wp_skip ?_)
  refine wp_region_lit ?_
  refine lx_value (v := .int .i64 n) F (wanted_none rfl _) rfl (by rfl) (o_move (F.ev rfl)) fun a F => ?_
  refine lx_value (v := .int .u64 (m : Nat)) F (wanted_none rfl _) rfl (by rfl) (o_convU hw1 (F.ev rfl)) fun a F => ?_
  refine lx_value (v := .int .u64 (m : Nat)) F (wanted_none rfl _) rfl (by rfl) (o_assign (F.ev rfl)) fun a F => ?_
  refine lx_nil ?_
  repeat (first | refine ex_then ?_ | refine ex_block ?_ | refine wp_seq ?_ | refine wp_block ?_ | refine wp_skip ?_)
  refine wp_ret ?_
  repeat (first | refine ex_thenR ?_ | refine ex_blockR ?_)
  exact sx_ret F HM (res_tmp F rfl (s := 2) rfl)

theorem amount_any (n : Int) (h1 : -9223372036854775808 ≤ n) (h2 : n < 9223372036854775808) (w : World) : Calls Try.prog 27 #[.int .i64 n] w fun e w' => e = .returned (.int .u64 (n.natAbs : Nat)) ∧ Below w.heap.size w w' := by
  by_cases hn : n < 0
  · refine amount_neg n (n + 18446744073709551616).toNat n.natAbs hn ?_ ?_ w
    · rw [IntKind.wrap_u64]; omega
    · rw [IntKind.wrap_u64]; omega
  · refine amount_pos n 0 n.natAbs hn ?_ w
    rw [IntKind.wrap_u64]; omega
set_option maxRecDepth 100000 in
set_option maxHeartbeats 8000000 in
theorem gather_w (P Q G H L b V1 V S gs gl go gg n0 : Nat) (e1 e2 : Int) (w0 w : World) (c1 : ∀ w, Calls Try.prog 12 #[grp P Q G H, num L, num L] w fun e w' => e = .returned (.tuple #[num V1, .int .i64 e1]) ∧ Below w.heap.size w w') (c0 : ∀ w, Calls Try.prog 26 #[.int .u64 (b : Nat)] w fun e w' => e = .returned (num b) ∧ Below w.heap.size w w') (c2 : ∀ w, Calls Try.prog 12 #[grp P Q G H, num V1, num b] w fun e w' => e = .returned (.tuple #[num V, .int .i64 e2]) ∧ Below w.heap.size w w') (HM : Mem n0 w0 w [(gs, 24, ncs S), (gl, 24, ncs L), (go, 24, ncs 0), (gg, 26, gcs P Q G H)]) :
    Calls Try.prog 25 #[.int .u64 (b : Nat), .pointer (some ⟨gg, 0, none⟩), .pointer (some ⟨gl, 0, none⟩)] w fun e w2 => e = .returned (.tuple #[]) ∧ Mem n0 w0 w2 [(gs, 24, ncs S), (gl, 24, ncs V), (go, 24, ncs 0), (gg, 26, gcs P Q G H)] := by
  refine sx_enterW (args := [.int .u64 (b : Nat), .pointer (some ⟨gg, 0, none⟩), .pointer (some ⟨gl, 0, none⟩)]) HM Try.func25 rfl Try.ntmps25 (by rfl) fun a F HM => ?_
  repeat (first | refine ex_then ?_ | refine ex_block ?_ | refine wp_seq ?_ | refine wp_block ?_ | refine wp_skip ?_)
  refine wp_region_lit ?_
  refine lx_value (v := grp P Q G H) F (wanted_none rfl _) rfl (by rfl) (o_loadG (F.ev rfl) (HM.get 3 rfl)) fun a F => ?_
  refine lx_value (v := num L) F (wanted_none rfl _) rfl (by rfl) (o_loadN (F.ev rfl) (HM.get 1 rfl)) fun a F => ?_
  refine lx_value (v := num L) F (wanted_none rfl _) rfl (by rfl) (o_loadN (F.ev rfl) (HM.get 1 rfl)) fun a F => ?_
  refine lx_call F (wanted_none rfl _) rfl (by rfl) (run_callF Try.func12 (by kernel_rfl) (by rfl) (.cons (F.ev rfl) (.cons (F.ev rfl) (.cons (F.ev rfl) .nil))) _) (c1 _) fun a w z F => ?_
  replace HM := HM.on z
  clear z
  refine lx_value (v := .tuple #[num V1, .int .i64 e1]) F (wanted_none rfl _) rfl (by rfl) (o_move (F.ev rfl)) fun a F => ?_
  refine lx_value (v := num V1) F (wanted_none rfl _) rfl (by rfl) (o_extract (F.ev rfl) rfl) fun a F => ?_
  refine lx_value (v := .int .i64 e1) F (wanted_none rfl _) rfl (by rfl) (o_extract (F.ev rfl) rfl) fun a F => ?_
  refine lx_store F HM (wanted_none rfl _) rfl (k := 1) rfl (o_storeN (F.ev rfl) (F.ev rfl) (HM.get 1 rfl)) (M2 := [(gs, 24, ncs S), (gl, 24, ncs V1), (go, 24, ncs 0), (gg, 26, gcs P Q G H)]) rfl fun w HM => ?_
  refine lx_nil ?_
  repeat (first | refine ex_then ?_ | refine ex_block ?_ | refine wp_seq ?_ | refine wp_block ?_ | refine wp_skip ?_)
  try simp only [List.append_eq, List.cons_append, List.nil_append]
  refine sx_drawn0 [⟨0, 12, [], .val (grp P Q G H), false⟩,
      ⟨1, 13, [], .val (num V1), false⟩,
      ⟨2, 14, [], .val (.int .u64 (b : Nat)), true⟩,
      ⟨3, 15, [2], .val (num b), false⟩,
      ⟨4, 16, [0, 1, 3], .val (.tuple #[num V, .int .i64 e2]), false⟩,
      ⟨5, 11, [4], .val (.tuple #[num V, .int .i64 e2]), true⟩,
      ⟨6, 17, [5], .val (num V), true⟩,
      ⟨7, 18, [5], .val (.int .i64 e2), true⟩] 1 F HM (by kernel_rfl) (by rfl) (by rfl) ?_ ?_ ?_ ?_ ?_ ?_ ?_
  · kernel_rfl
  · exact of_decide_eq_true (by kernel_rfl)
  · exact all_cons ⟨_, by rfl, by rfl⟩ (all_cons ⟨_, by rfl, by rfl⟩ (all_cons ⟨_, by rfl, by rfl⟩ (all_cons ⟨_, by rfl, by rfl⟩ (all_cons ⟨_, by rfl, by rfl⟩ (all_cons ⟨_, by rfl, by rfl⟩ (all_cons ⟨_, by rfl, by rfl⟩ (all_cons ⟨_, by rfl, by rfl⟩ (all_nil))))))))
  · kernel_rfl
  · refine all_cons ?_ (all_cons ?_ (all_cons ?_ (all_cons ?_ (all_cons ?_ (all_cons ?_ (all_cons ?_ (all_cons ?_ (all_nil))))))))
    · exact core_pureAs _ (by rfl)
    · exact core_pureAs _ (by rfl)
    · exact coreS _ _ _ _ _ _ _ (by rfl) (by rfl) (wants_none) (fun ρ w kn hs => o_move (kn _ _ (F.old (by rfl) rfl)))
    · exact core_pureAs _ (by rfl)
    · exact core_pureAs _ (by rfl)
    · exact coreS _ _ _ _ _ _ _ (by rfl) (by rfl) (wants_none) (fun ρ w kn hs => o_move (kn _ _ (known_core 4 16 _ _ (of_decide_eq_true (by rfl)) (by rfl) (by rfl) (by rfl))))
    · exact coreS _ _ _ _ _ _ _ (by rfl) (by rfl) (wants_none) (fun ρ w kn hs => o_extract (kn _ _ (known_core 5 11 _ _ (of_decide_eq_true (by rfl)) (by rfl) (by rfl) (by rfl))) rfl)
    · exact coreS _ _ _ _ _ _ _ (by rfl) (by rfl) (wants_none) (fun ρ w kn hs => o_extract (kn _ _ (known_core 5 11 _ _ (of_decide_eq_true (by rfl)) (by rfl) (by rfl) (by rfl))) rfl)
  · refine all_cons ?_ (all_cons ?_ (all_cons ?_ (all_cons ?_ (all_cons ?_ (all_cons ?_ (all_cons ?_ (all_cons ?_ (all_nil))))))))
    · exact fun _ => coreB _ _ _ _ _ _ (by rfl) (by rfl) (fun ρ w kn hb => o_loadG (kn _ _ (F.old (by rfl) rfl)) ((HM.on hb).get 3 rfl))
    · exact fun _ => coreB _ _ _ _ _ _ (by rfl) (by rfl) (fun ρ w kn hb => o_loadN (kn _ _ (F.old (by rfl) rfl)) ((HM.on hb).get 1 rfl))
    · exact core_stepAs _ (by rfl)
    · exact fun _ => coreG_call _ 26 _ _ [.tmp 14] _ _ _ _ _ _ _ (by rfl) Try.func26 (by kernel_rfl) (by rfl) (by rfl) (wants_none) (.cons (known_core 2 14 _ _ (of_decide_eq_true (by rfl)) (by rfl) (by rfl) (by rfl)) .nil) (c0)
    · exact fun _ => coreG_call _ 12 _ _ [.tmp 12, .tmp 13, .tmp 15] _ _ _ _ _ _ _ (by rfl) Try.func12 (by kernel_rfl) (by rfl) (by rfl) (wants_none) (.cons (known_core 0 12 _ _ (of_decide_eq_true (by rfl)) (by rfl) (by rfl) (by rfl)) (.cons (known_core 1 13 _ _ (of_decide_eq_true (by rfl)) (by rfl) (by rfl) (by rfl)) (.cons (known_core 3 15 _ _ (of_decide_eq_true (by rfl)) (by rfl) (by rfl) (by rfl)) .nil))) (c2)
    · exact core_stepAs _ (by rfl)
    · exact core_stepAs _ (by rfl)
    · exact core_stepAs _ (by rfl)
  intro gs rs a w hgs hrs F HM
  obtain rfl := nl0 rs hrs
  clear hrs
  obtain rfl := nl0 gs hgs
  clear hgs
  refine sx_store (i := 8) HM (by kernel_rfl) (by rfl) rfl rfl (k := 1) rfl (o_storeN (F.ev rfl) (F.ev rfl) (HM.get 1 rfl)) (M2 := [(gs, 24, ncs S), (gl, 24, ncs V), (go, 24, ncs 0), (gg, 26, gcs P Q G H)]) rfl (fun _ _ => trivial) fun w HM => ?_
  refine sx_done (by kernel_rfl) ?_ _
  repeat (first | refine ex_then ?_ | refine ex_block ?_ | refine wp_seq ?_ | refine wp_block ?_ | refine wp_skip ?_)
  exact bodyPost_end (res_none rfl) F.defers ⟨rfl, HM⟩
theorem gather_any (P Q G H L b S gs gl go gg n0 : Nat) (w0 w : World) (hQ : Q < 2 ^ 256) (hb : b ≤ 1) (hL : L < 2 ^ 256) (hLQ : 1 < Q → L < Q) (HM : Mem n0 w0 w [(gs, 24, ncs S), (gl, 24, ncs L), (go, 24, ncs 0), (gg, 26, gcs P Q G H)]) :
    Calls Try.prog 25 #[.int .u64 (b : Nat), .pointer (some ⟨gg, 0, none⟩), .pointer (some ⟨gl, 0, none⟩)] w fun e w2 => e = .returned (.tuple #[]) ∧ Mem n0 w0 w2 [(gs, 24, ncs S), (gl, 24, ncs (if 1 < Q then ((L + L) % Q + b) % Q else 0)), (go, 24, ncs 0), (gg, 26, gcs P Q G H)] := by
  by_cases h1 : 1 < Q
  · rw [if_pos h1]
    exact gather_w P Q G H L b ((L + L) % Q) _ S gs gl go gg n0 0 0 w0 w (sadd_yes P Q G H L L hQ h1 (hLQ h1) (hLQ h1)) (fun w => of_any b (by omega) w) (sadd_yes P Q G H _ b hQ h1 (Nat.mod_lt _ (by omega)) (by omega)) HM
  · rw [if_neg h1]
    exact gather_w P Q G H L b 0 0 S gs gl go gg n0 1 1 w0 w (sadd_no P Q G H L L hQ hL hL (fun h => h1 h.1)) (fun w => of_any b (by omega) w) (sadd_no P Q G H 0 b hQ (by decide) (by omega) (fun h => h1 h.1)) HM
theorem bitLen64 {S : Nat} (h : S < 18446744073709551616) : Go.bitLen S ≤ 64 := by
  rcases Nat.lt_or_ge 64 (Go.bitLen S) with hl | hl
  · have h2 := (Go.bitLen_spec S).2
    have h3 : (2 : Nat) ^ 64 ≤ 2 ^ (Go.bitLen S - 1) := Nat.pow_le_pow_right (by decide) (by omega)
    have h4 := h2 (fun h0 => by rw [h0] at hl; exact absurd hl (by simp [Go.bitLen]))
    omega
  · exact hl
/-- what a whole number is, by Q -/
def sofN (Q : Nat) (n : Int) : Nat := if 1 < Q then (n % (Q : Int)).toNat else 0
/-- what has been gathered, when k bits are left -/
def lefts (Q S k : Nat) : Nat := if 1 < Q then S / 2 ^ k % Q else 0
theorem lefts_lt {Q S k : Nat} (h : 1 < Q) : lefts Q S k < Q := by unfold lefts; rw [if_pos h]; exact Nat.mod_lt _ (by omega)
theorem lefts_lt2 {Q S k : Nat} (hQ : Q < 2 ^ 256) : lefts Q S k < 2 ^ 256 := by
  by_cases h : 1 < Q
  · exact Nat.lt_trans (lefts_lt h) hQ
  · unfold lefts; rw [if_neg h]; decide
theorem bt_nat (S k : Nat) : bt S (k : Int) = S / 2 ^ k % 2 := by unfold bt; rw [if_neg (by omega), Int.toNat_natCast]
theorem lefts_step (Q S k : Nat) : (if 1 < Q then ((lefts Q S (k + 1) + lefts Q S (k + 1)) % Q + bt S (k : Int)) % Q else 0) = lefts Q S k := by
  by_cases h : 1 < Q
  · rw [if_pos h, bt_nat]
    unfold lefts
    rw [if_pos h, if_pos h, ← Nat.add_mod, Nat.mod_add_mod]
    congr 1
    rw [Nat.pow_succ, ← Nat.div_div_eq_div_mul]
    omega
  · rw [if_neg h]; unfold lefts; rw [if_neg h]
theorem neg_sof (Q S : Nat) (h : 1 < Q) : ((-(S : Int)) % (Q : Int)).toNat = (Q - S % Q) % Q := by
  have hd := Nat.div_add_mod S Q
  have hr := Nat.mod_lt S (show 0 < Q by omega)
  by_cases h0 : S % Q = 0
  · rw [h0, Nat.sub_zero, Nat.mod_self]
    have : (Q : Int) ∣ -(S : Int) := Int.dvd_neg.2 (Int.natCast_dvd_natCast.2 (Nat.dvd_of_mod_eq_zero h0))
    rw [Int.emod_eq_zero_of_dvd this]; rfl
  · generalize S % Q = r at *
    generalize S / Q = d at *
    have e : -(S : Int) = ((Q - r : Nat) : Int) + (Q : Int) * (-(d : Int) - 1) := by
      rw [← hd, Int.natCast_sub (Nat.le_of_lt hr)]; push_cast; rw [Int.mul_sub, Int.mul_neg, Int.mul_one]; omega
    rw [e, Int.add_mul_emod_self_left, Nat.mod_eq_of_lt (by omega)]
    have : ((Q - r : Nat) : Int) % (Q : Int) = ((Q - r : Nat) : Int) := Int.emod_eq_of_lt (by omega) (by omega)
    rw [this, Int.toNat_natCast]
theorem sof_pos (Q : Nat) (n : Int) (hn : ¬ n < 0) : sofN Q n = lefts Q n.natAbs 0 := by
  unfold sofN lefts
  split
  · rw [Nat.pow_zero, Nat.div_one]
    obtain ⟨m, rfl⟩ : ∃ m : Nat, n = m := ⟨n.toNat, by omega⟩
    rfl
  · rfl
theorem sof_neg (Q : Nat) (n : Int) (hn : n < 0) : sofN Q n = if 1 < Q then (0 + Q - lefts Q n.natAbs 0) % Q else 0 := by
  unfold sofN lefts
  split
  · rename_i h
    rw [Nat.pow_zero, Nat.div_one, Nat.zero_add, ← neg_sof Q _ h]
    congr 2; omega
  · rfl
set_option maxRecDepth 100000 in
set_option maxHeartbeats 8000000 in
theorem sof_any (P Q G H : Nat) (n : Int) (hQ : Q < 2 ^ 256) (hn1 : -9223372036854775808 ≤ n) (hn2 : n < 9223372036854775808) (w0 : World) : Calls Try.prog 11 #[grp P Q G H, .int .i64 n] w0 fun e w' => e = .returned (num (sofN Q n)) ∧ Below w0.heap.size w0 w' := by
  have hSl : n.natAbs < 18446744073709551616 := by omega
  have cA := amount_any n hn1 hn2
  obtain ⟨S, hS⟩ : ∃ S, S = n.natAbs := ⟨_, rfl⟩
  rw [← hS] at cA hSl
  have hS2 : S < 2 ^ 256 := Nat.lt_trans hSl (by decide)
  obtain ⟨m, hm⟩ : ∃ m, m = Go.bitLen S := ⟨_, rfl⟩
  have cB := bits_any S hS2
  rw [← hm] at cB
  have hSm : S < 2 ^ m := by rw [hm]; exact (Go.bitLen_spec S).1
  have hm64 : m ≤ 64 := by rw [hm]; exact bitLen64 hSl
  refine sx_enter (args := [grp P Q G H, .int .i64 n]) Try.func11 rfl Try.ntmps11 (by rfl) fun a F HM => ?_
  repeat (first | refine ex_then ?_ | refine ex_block ?_ | refine wp_seq ?_ | refine wp_block ?_ | refine wp_skip ?_)
  refine wp_region_lit ?_
  refine lx_new F HM (wanted_none rfl _) rfl (by rfl) (o_boxG (F.ev rfl)) fun a w gg F HM => ?_
  refine lx_new F HM (wanted_none rfl _) rfl (by rfl) (o_allocN) fun a w go F HM => ?_
  refine lx_nil ?_
  repeat (first | refine ex_then ?_ | refine ex_block ?_ | refine wp_seq ?_ | refine wp_block ?_ | refine wp_skip ?_)
  refine wp_region_lit ?_
  refine lx_new F HM (wanted_none rfl _) rfl (by rfl) (o_allocN) fun a w gl F HM => ?_
  refine lx_nil ?_
  repeat (first | refine ex_then ?_ | refine ex_block ?_ | refine wp_seq ?_ | refine wp_block ?_ | refine wp_skip ?_)
  refine wp_region_lit ?_
  refine lx_value (v := .func (.func 25) #[] #[.pointer (some ⟨gg, 0, none⟩), .pointer (some ⟨gl, 0, none⟩)]) F (wanted_none rfl _) rfl (by rfl) (o_mk2 (F.ev rfl) (F.ev rfl)) fun a F => ?_
  refine lx_value (v := .func (.func 25) #[] #[.pointer (some ⟨gg, 0, none⟩), .pointer (some ⟨gl, 0, none⟩)]) F (wanted_none rfl _) rfl (by rfl) (o_assign (F.ev rfl)) fun a F => ?_
  refine lx_nil ?_
  repeat (first | refine ex_then ?_ | refine ex_block ?_ | refine wp_seq ?_ | refine wp_block ?_ | refine wp_skip ?_)
  refine wp_region_lit ?_
  refine lx_value (v := .int .i64 n) F (wanted_none rfl _) rfl (by rfl) (o_move (F.ev rfl)) fun a F => ?_
  refine lx_call F (wanted_none rfl _) rfl (by rfl) (run_callF Try.func27 (by kernel_rfl) (by rfl) (.cons (F.ev rfl) .nil) _) (cA _) fun a w z F => ?_
  replace HM := HM.on z
  clear z
  refine lx_call F (wanted_none rfl _) rfl (by rfl) (run_callF Try.func26 (by kernel_rfl) (by rfl) (.cons (F.ev rfl) .nil) _) ((fun w => of_any S hSl w) _) fun a w z F => ?_
  replace HM := HM.on z
  clear z
  refine lx_new F HM (wanted_none rfl _) rfl (by rfl) (o_allocN) fun a w gs F HM => ?_
  refine lx_store F HM (wanted_none rfl _) rfl (k := 0) rfl (o_storeN (F.ev rfl) (F.ev rfl) (HM.get 0 rfl)) (M2 := [(gs, 24, ncs S), (gl, 24, ncs 0), (go, 24, ncs 0), (gg, 26, gcs P Q G H)]) rfl fun w HM => ?_
  refine lx_nil ?_
  repeat (first | refine ex_then ?_ | refine ex_block ?_ | refine wp_seq ?_ | refine wp_block ?_ | refine wp_skip ?_)
  refine wp_region_lit ?_
  refine lx_value (v := num S) F (wanted_none rfl _) rfl (by rfl) (o_loadN (F.ev rfl) (HM.get 0 rfl)) fun a F => ?_
  refine lx_call F (wanted_none rfl _) rfl (by rfl) (run_callF Try.func28 (by kernel_rfl) (by rfl) (.cons (F.ev rfl) .nil) _) (cB _) fun a w z F => ?_
  replace HM := HM.on z
  clear z
  refine lx_value (v := .int .i64 (m : Nat)) F (wanted_none rfl _) rfl (by rfl) (o_assign (F.ev rfl)) fun a F => ?_
  refine lx_nil ?_
  repeat (first | refine ex_then ?_ | refine ex_block ?_ | refine wp_seq ?_ | refine wp_block ?_ | refine wp_skip ?_)
  refine wp_region_lit ?_
  refine lx_value (v := .int .i64 (m : Nat)) F (wanted_none rfl _) rfl (by rfl) (o_move (F.ev rfl)) fun a F => ?_
  refine lx_value (v := .int .i64 0) F (wanted_none rfl _) rfl (by rfl) (o_move rfl) fun a F => ?_
  refine lx_nil ?_
  repeat (first | refine ex_then ?_ | refine ex_block ?_ | refine wp_seq ?_ | refine wp_block ?_ | refine wp_skip ?_)
  have hst : lefts Q S m = 0 := by unfold lefts; rw [Nat.div_eq_of_lt hSm]; simp
  refine wp_loop (fun a w => ∃ i : Nat, i ≤ m ∧ Fr a 39 [(17, .int .i64 (i : Nat)), (16, .int .i64 (m : Nat)), (6, .func (.func 25) #[] #[.pointer (some ⟨gg, 0, none⟩), .pointer (some ⟨gl, 0, none⟩)]), (7, .pointer (some ⟨gs, 0, none⟩)), (8, .int .i64 (m : Nat)), (5, .pointer (some ⟨gl, 0, none⟩)), (2, .pointer (some ⟨gg, 0, none⟩)), (4, .pointer (some ⟨go, 0, none⟩)), (1, .int .i64 n)] [] ∧ Mem w0.heap.size w0 w [(gs, 24, ncs S), (gl, 24, ncs (lefts Q S (m - i))), (go, 24, ncs 0), (gg, 26, gcs P Q G H)])
    (fun a _ => m - (intOf (a.tmps.getD 17 undef)).toNat) ⟨0, Nat.zero_le _, F.sub [17, 16, 6, 7, 8, 5, 2, 4, 1], by rw [Nat.sub_zero, hst]; exact HM⟩ ?_
  clear F HM hst
  rintro aS wS ⟨i, hi, FS, HM⟩
  have F := FS
  by_cases hlt : i < m
  · repeat (first | refine ex_then ?_ | refine ex_block ?_ | refine wp_seq ?_ | refine wp_block ?_ | refine wp_skip ?_)
    refine wp_region_lit ?_
    refine lx_value (v := .bool true) F (wanted_none rfl _) rfl (by rfl) (o_bin (u := .int .i64 (i : Nat)) (v := .int .i64 (m : Nat)) (fun ρ hx hy => by simp only [execOp, hx, hy]; simp [go_sem]; omega) (F.ev rfl) (F.ev rfl)) fun a F => ?_
    refine lx_nil ?_
    repeat (first | refine ex_then ?_ | refine ex_block ?_ | refine wp_seq ?_ | refine wp_block ?_ | refine wp_skip ?_)
    refine wp_cond_true (F.ev rfl) ?_
    repeat (first | refine ex_then ?_ | refine ex_block ?_ | refine wp_seq ?_ | refine wp_block ?_ | refine wp_skip ?_)
    refine wp_region_lit ?_
    refine lx_value (v := .int .i64 (i : Nat)) F (wanted_none rfl _) rfl (by rfl) (o_move (F.ev rfl)) fun a F => ?_
    refine lx_value (v := .int .i64 (i : Nat)) F (wanted_none rfl _) rfl (by rfl) (o_assign (F.ev rfl)) fun a F => ?_
    refine lx_nil ?_
    obtain ⟨k, hk⟩ : ∃ k, k = m - 1 - i := ⟨_, rfl⟩
    have hki : m - i = k + 1 := by omega
    rw [hki] at HM
    have hb1 : bt S (k : Int) ≤ 1 := by rw [bt_nat]; omega
    repeat (first | refine ex_then ?_ | refine ex_block ?_ | refine wp_seq ?_ | refine wp_block ?_ | refine wp_skip ?_)
    refine wp_region_lit ?_
    refine lx_value (v := .func (.func 25) #[] #[.pointer (some ⟨gg, 0, none⟩), .pointer (some ⟨gl, 0, none⟩)]) F (wanted_none rfl _) rfl (by rfl) (o_move (F.ev rfl)) fun a F => ?_
    refine lx_value (v := num S) F (wanted_none rfl _) rfl (by rfl) (o_loadN (F.ev rfl) (HM.get 0 rfl)) fun a F => ?_
    refine lx_value (v := .int .i64 (m : Nat)) F (wanted_none rfl _) rfl (by rfl) (o_move (F.ev rfl)) fun a F => ?_
    refine lx_value (v := .int .i64 ((m - 1 : Nat) : Int)) F (wanted_none rfl _) rfl (by rfl) (o_subI (m := m) (k := 1) (by omega) (by omega) (F.ev rfl) rfl) fun a F => ?_
    refine lx_value (v := .int .i64 (i : Nat)) F (wanted_none rfl _) rfl (by rfl) (o_move (F.ev rfl)) fun a F => ?_
    refine lx_value (v := .int .i64 (k : Nat)) F (wanted_none rfl _) rfl (by rfl) (by rw [hk]; exact o_subI (m := m - 1) (k := i) (by omega) (by omega) (F.ev rfl) (F.ev rfl)) fun a F => ?_
    refine lx_call F (wanted_none rfl _) rfl (by rfl) (run_callF Try.func29 (by kernel_rfl) (by rfl) (.cons (F.ev rfl) (.cons (F.ev rfl) .nil)) _) ((fun w => bit_any S hS2 (k : Int) w) _) fun a w z F => ?_
    replace HM := HM.on z
    clear z
    refine lx_call F (wanted_none rfl _) rfl (by rfl) (run_callVA Try.func25 (by kernel_rfl) (by rfl) (F.ev rfl) (.cons (F.ev rfl) .nil) _) (gather_any P Q G H (lefts Q S (k + 1)) (bt S (k : Int)) S gs gl go gg _ _ _ hQ hb1 (lefts_lt2 hQ) (fun h => lefts_lt h) HM) fun a w HM F => ?_
    refine lx_nil ?_
    rw [lefts_step] at HM
    repeat (first | refine ex_then ?_ | refine ex_block ?_ | refine wp_seq ?_ | refine wp_block ?_ | refine wp_skip ?_)
    refine wp_region_lit ?_
    refine lx_value (v := .int .i64 ((i + 1 : Nat) : Int)) F (wanted_none rfl _) rfl (by rfl) (o_addI (m := i) (k := 1) (by omega) (F.ev rfl) rfl) fun a F => ?_
    refine lx_value (v := .int .i64 ((i + 1 : Nat) : Int)) F (wanted_none rfl _) rfl (by rfl) (o_move (F.ev rfl)) fun a F => ?_
    refine lx_nil ?_
    refine ex_then ?_
    refine ⟨⟨i + 1, by omega, F.sub [17, 16, 6, 7, 8, 5, 2, 4, 1], by rw [show m - (i + 1) = k by omega]; exact HM⟩, ?_⟩
    show m - (intOf (a.tmps.getD 17 undef)).toNat < m - (intOf (aS.tmps.getD 17 undef)).toNat
    rw [F.get 17 _ rfl, FS.get 17 _ rfl]
    show m - ((i + 1 : Nat) : Int).toNat < m - ((i : Nat) : Int).toNat
    omega
  · repeat (first | refine ex_then ?_ | refine ex_block ?_ | refine wp_seq ?_ | refine wp_block ?_ | refine wp_skip ?_)
    refine wp_region_lit ?_
    refine lx_value (v := .bool false) F (wanted_none rfl _) rfl (by rfl) (o_bin (u := .int .i64 (i : Nat)) (v := .int .i64 (m : Nat)) (fun ρ hx hy => by simp only [execOp, hx, hy]; simp [go_sem]; omega) (F.ev rfl) (F.ev rfl)) fun a F => ?_
    refine lx_nil ?_
    repeat (first | refine ex_then ?_ | refine ex_block ?_ | refine wp_seq ?_ | refine wp_block ?_ | refine wp_skip ?_)
    refine wp_cond_false (F.ev rfl) ?_
    repeat (first | refine ex_then ?_ | refine ex_block ?_ | refine wp_seq ?_ | refine wp_block ?_ | refine wp_skip ?_)
    refine wp_exit ?_
    repeat (first | refine ex_thenE ?_ | refine ex_blockE ?_)
    obtain rfl : i = m := by omega
    clear FS hlt hi
    rw [Nat.sub_self] at HM
    by_cases hn : n < 0
    · repeat (first | refine ex_then ?_ | refine ex_block ?_ | refine wp_seq ?_ | refine wp_block ?_ | refine wp_skip ?_)
      refine wp_region_lit ?_
      refine lx_value (v := .int .i64 n) F (wanted_none rfl _) rfl (by rfl) (o_move (F.ev rfl)) fun a F => ?_
      refine lx_value (v := .bool true) F (wanted_none rfl _) rfl (by rfl) (o_bin (u := .int .i64 n) (v := .int .i64 0) (fun ρ hx hy => by simp only [execOp, hx, hy]; simp [go_sem]; omega) (F.ev rfl) rfl) fun a F => ?_
      refine lx_nil ?_
      repeat (first | refine ex_then ?_ | refine ex_block ?_ | refine wp_seq ?_ | refine wp_block ?_ | refine wp_skip ?_)
      refine wp_cond_true (F.ev rfl) ?_
      rw [sof_neg Q n hn, ← hS]
      obtain ⟨V, er, hV, cS⟩ : ∃ (V : Nat) (er : Int), V = (if 1 < Q then (0 + Q - lefts Q S 0) % Q else 0) ∧ (∀ w, Calls Try.prog 20 #[grp P Q G H, num 0, num (lefts Q S 0)] w fun e w' => e = .returned (.tuple #[num V, .int .i64 er]) ∧ Below w.heap.size w w') := by
        by_cases h1 : 1 < Q
        · exact ⟨_, 0, by rw [if_pos h1], ssub_yes P Q G H 0 _ hQ h1 (by omega) (lefts_lt h1)⟩
        · exact ⟨0, 1, by rw [if_neg h1], ssub_no P Q G H 0 _ hQ (by decide) (lefts_lt2 hQ) (fun h => h1 h.1)⟩
      rw [← hV]
      repeat (first | refine ex_then ?_ | refine ex_block ?_ | refine wp_seq ?_ | refine wp_block ?_ | refine wp_skip ?_)
      refine wp_region_lit ?_
      refine lx_value (v := grp P Q G H) F (wanted_none rfl _) rfl (by rfl) (o_loadG (F.ev rfl) (HM.get 3 rfl)) fun a F => ?_
      refine lx_value (v := num 0) F (wanted_none rfl _) rfl (by rfl) (o_build0) fun a F => ?_
      refine lx_value (v := num (lefts Q S 0)) F (wanted_none rfl _) rfl (by rfl) (o_loadN (F.ev rfl) (HM.get 1 rfl)) fun a F => ?_
      refine lx_call F (wanted_none rfl _) rfl (by rfl) (run_callF Try.func20 (by kernel_rfl) (by rfl) (.cons (F.ev rfl) (.cons (F.ev rfl) (.cons (F.ev rfl) .nil))) _) (cS _) fun a w z F => ?_
      replace HM := HM.on z
      clear z
      refine lx_value (v := .tuple #[num V, .int .i64 er]) F (wanted_none rfl _) rfl (by rfl) (o_move (F.ev rfl)) fun a F => ?_
      refine lx_value (v := num V) F (wanted_none rfl _) rfl (by rfl) (o_extract (F.ev rfl) rfl) fun a F => ?_
      refine lx_value (v := .int .i64 er) F (wanted_none rfl _) rfl (by rfl) (o_extract (F.ev rfl) rfl) fun a F => ?_
      refine lx_store F HM (wanted_none rfl _) rfl (k := 1) rfl (o_storeN (F.ev rfl) (F.ev rfl) (HM.get 1 rfl)) (M2 := [(gs, 24, ncs S), (gl, 24, ncs V), (go, 24, ncs 0), (gg, 26, gcs P Q G H)]) rfl fun w HM => ?_
      refine lx_nil ?_
      repeat (first | refine ex_then ?_ | refine ex_block ?_ | refine wp_seq ?_ | refine wp_block ?_ | refine wp_skip ?_)
      refine wp_region_lit ?_
      refine lx_value (v := num V) F (wanted_none rfl _) rfl (by rfl) (o_loadN (F.ev rfl) (HM.get 1 rfl)) fun a F => ?_
      refine lx_store F HM (wanted_none rfl _) rfl (k := 2) rfl (o_storeN (F.ev rfl) (F.ev rfl) (HM.get 2 rfl)) (M2 := [(gs, 24, ncs S), (gl, 24, ncs V), (go, 24, ncs V), (gg, 26, gcs P Q G H)]) rfl fun w HM => ?_
      refine lx_nil ?_
      repeat (first | refine ex_then ?_ | refine ex_block ?_ | refine wp_seq ?_ | refine wp_block ?_ | refine wp_skip ?_)
      refine wp_ret ?_
      repeat (first | refine ex_thenR ?_ | refine ex_blockR ?_)
      exact sx_ret F HM (res_N F (s := 4) rfl rfl (HM.get 2 rfl))
    · repeat (first | refine ex_then ?_ | refine ex_block ?_ | refine wp_seq ?_ | refine wp_block ?_ | refine wp_skip ?_)
      refine wp_region_lit ?_
      refine lx_value (v := .int .i64 n) F (wanted_none rfl _) rfl (by rfl) (o_move (F.ev rfl)) fun a F => ?_
      refine lx_value (v := .bool false) F (wanted_none rfl _) rfl (by rfl) (o_bin (u := .int .i64 n) (v := .int .i64 0) (fun ρ hx hy => by simp only [execOp, hx, hy]; simp [go_sem]; omega) (F.ev rfl) rfl) fun a F => ?_
      refine lx_nil ?_
      repeat (first | refine ex_then ?_ | refine ex_block ?_ | refine wp_seq ?_ | refine wp_block ?_ | refine wp_skip ?_)
      refine wp_cond_false (F.ev rfl) ?_
      rw [sof_pos Q n hn, ← hS]
      repeat (first | refine ex_then ?_ | refine ex_block ?_ | refine wp_seq ?_ | refine wp_block ?_ | refine wp_skip ?_)
      refine wp_region_lit ?_
      refine lx_value (v := num (lefts Q S 0)) F (wanted_none rfl _) rfl (by rfl) (o_loadN (F.ev rfl) (HM.get 1 rfl)) fun a F => ?_
      refine lx_store F HM (wanted_none rfl _) rfl (k := 2) rfl (o_storeN (F.ev rfl) (F.ev rfl) (HM.get 2 rfl)) (M2 := [(gs, 24, ncs S), (gl, 24, ncs (lefts Q S 0)), (go, 24, ncs (lefts Q S 0)), (gg, 26, gcs P Q G H)]) rfl fun w HM => ?_
      refine lx_nil ?_
      repeat (first | refine ex_then ?_ | refine ex_block ?_ | refine wp_seq ?_ | refine wp_block ?_ | refine wp_skip ?_)
      refine wp_ret ?_
      repeat (first | refine ex_thenR ?_ | refine ex_blockR ?_)
      exact sx_ret F HM (res_N F (s := 4) rfl rfl (HM.get 2 rfl))
end Go.Proofs.Ytfjploahkodekaa
