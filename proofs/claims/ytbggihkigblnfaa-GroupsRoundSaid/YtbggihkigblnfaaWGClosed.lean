/-
 GroupsClosed, GroupsRound, GroupsRoot: walked.
-/
import Derived.Deep.Cut
import Derived.Test.YtbggihkigblnfaaWAdd
import Derived.Test.YtbggihkigblnfaaWAlive8
import Derived.Test.YtbggihkigblnfaaWLen
import Derived.Test.YtbggihkigblnfaaWTree
import Derived.Test.YtbggihkigblnfaaWWide
namespace Go.Proofs.Ytbggihkigblnfaa
set_option maxRecDepth 100000
open Go.RowKit
set_option linter.unusedSimpArgs false
set_option linter.unusedVariables false
attribute [local go_sem ↓] Go.wp_at_zero Go.wp_at_succ

section
variable {x y : Operand} {dst : Option Tmp} {ty : TypeId} {pos : String} {after : Array Edge} {guard : Option (Nat × Bool)} {ρ : Operand → Value} {w : World} {g o : Nat}
theorem o_idxW0 (hx : ρ x = .pointer (some ⟨g, o, none⟩)) (hy : ρ y = .int .i64 0) : (execOp ρ ⟨dst, .indexAddr 24 x y, ty, pos, after, guard⟩).run Try.prog w = .ok (.value (.pointer (some ⟨g, o, none⟩))) w := by simp [execOp, hx, hy, go_sem]
theorem o_loadW {t : TypeId} {cs : Array Value} {n : Nat} (hx : ρ x = .pointer (some ⟨g, o, none⟩)) (h : At w g t cs) (hu : cs[o]? = some (.int .u64 (n : Nat))) : (execOp ρ ⟨dst, .load 22 x, ty, pos, after, guard⟩).run Try.prog w = .ok (.value (.int .u64 (n : Nat))) w := by
 have c0 : w.cell? ⟨g, o, none⟩ = some (.int .u64 (n : Nat)) := by rw [h.cell o, hu]
 simp [execOp, hx, go_sem, c0]
theorem o_rem {n : Nat} (hn : n < 18446744073709551616) (hx : ρ x = .int .u64 (n : Nat)) (hy : ρ y = .int .u64 4294967296) : (execOp ρ ⟨dst, .binOp .rem 22 x y 22, ty, pos, after, guard⟩).run Try.prog w = .ok (.value (.int .u64 ((n % 4294967296 : Nat) : Int))) w := by
 have h1 : Int.tmod (n : Int) 4294967296 = ((n % 4294967296 : Nat) : Int) := by rw [Int.tmod_eq_emod_of_nonneg (by omega)]; omega
 have h2 : IntKind.u64.wrap ((n % 4294967296 : Nat) : Int) = ((n % 4294967296 : Nat) : Int) := by rw [IntKind.wrap_u64]; omega
 simp only [execOp, hx, hy]
 simp [go_sem, h1, h2]
 try exact h2
end
theorem in_of {P Q x : Nat} (h1 : 1 < P) (hQ : 0 < Q) (hx : x < P) (h : x ^ Q % P = 1) : inB P Q x = true := by
 refine inB_iff.mpr ⟨⟨fun h0 => ?_, hx⟩, h⟩
 subst h0
 rw [Nat.zero_pow hQ, Nat.zero_mod] at h
 omega
theorem pow_red {A P Q : Nat} (h : A ^ Q % P = 1) (h1 : 1 < P) (n : Nat) : A ^ n % P = A ^ (n % Q) % P := by
 conv => lhs; rw [← Nat.div_add_mod n Q]
 rw [Nat.pow_add, Nat.pow_mul, Nat.mul_mod, Nat.pow_mod, h, Nat.one_pow, Nat.mod_eq_of_lt h1, Nat.one_mul, Nat.mod_mod]
theorem in_may {P Q A : Nat} (h : inB P Q A = true) : mayB P A = true := by
 obtain ⟨⟨h1, h2⟩, _⟩ := inB_iff.mp h; exact mayB_iff.mpr ⟨h1, h2⟩
set_option maxRecDepth 100000 in
set_option maxHeartbeats 8000000 in
theorem closed_0 (P Q G H X Y N : Nat)
  (hQ : Q < 2 ^ 256)
  (hq : decide (Q = 0) = true)
  (w : World) : Calls Try.prog 5 #[grp P Q G H, arr2 X Y, num N] w fun e w' => e = .returned (.bool true) ∧ Below w.heap.size w w' := by
 refine sx_enter (args := [grp P Q G H, arr2 X Y, num N]) Try.func5 rfl Try.ntmps5 (by rfl) fun a F HM => ?_
 repeat (first | refine ex_then ?_ | refine ex_block ?_ | refine wp_seq ?_ | refine wp_block ?_ | refine wp_skip ?_)
 refine wp_region_lit ?_
 refine lx_new F HM (wanted_none rfl _) rfl (by rfl) (o_boxG (F.ev rfl)) fun a w gr F HM => ?_
 refine lx_new F HM (wanted_none rfl _) rfl (by rfl) (o_boxA (F.ev rfl)) fun a w ga F HM => ?_
 refine lx_new F HM (wanted_none rfl _) rfl (by rfl) (o_boxN (F.ev rfl)) fun a w gb F HM => ?_
 refine lx_value (v := .bool false) F (wanted_none rfl _) rfl (by rfl) (o_assign rfl) fun a F => ?_
 refine lx_nil ?_
 repeat (first | refine ex_then ?_ | refine ex_block ?_ | refine wp_seq ?_ | refine wp_block ?_ | refine wp_skip ?_)
 try simp only [List.append_eq, List.cons_append, List.nil_append]
 refine sx_drawn [⟨0, 15, [], .val (.pointer (some ⟨gr, 4, none⟩)), true⟩,
   ⟨1, 16, [0], .val (num Q), true⟩,
   ⟨2, 17, [1], .val (num 0), false⟩,
   ⟨3, 18, [1, 2], .val (.bool true), true⟩,
   ⟨4, 19, [3], .val (.bool true), true⟩,
   ⟨5, 20, [4], .val undef, true⟩,
   ⟨6, 21, [4, 5], .val undef, true⟩,
   ⟨7, 22, [4, 6], .val undef, true⟩,
   ⟨8, 23, [4, 5, 7], .val undef, true⟩,
   ⟨9, 24, [4, 8], .val undef, true⟩,
   ⟨10, 25, [4, 9], .val (.bool true), true⟩,
   ⟨11, 26, [10], .val (.bool true), true⟩,
   ⟨12, 27, [11], .val undef, true⟩,
   ⟨13, 28, [11, 12], .val undef, true⟩,
   ⟨14, 29, [11, 13], .val undef, true⟩,
   ⟨15, 30, [11, 12, 14], .val undef, true⟩,
   ⟨16, 31, [11, 15], .val undef, true⟩,
   ⟨17, 32, [11, 16], .val (.bool true), true⟩] 0 F HM (by kernel_rfl) (by rfl) (by rfl) ?_ ?_ ?_ ?_ ?_ ?_ ?_
 ·kernel_rfl
 ·exact of_decide_eq_true (by kernel_rfl)
 ·(repeat refine all_cons ⟨_, by rfl, by rfl⟩ ?_); exact all_nil
 ·kernel_rfl
 ·(repeat (refine all_cons ?_ ?_; rotate_left)); exact all_nil
  ·exact coreS _ _ _ _ _ _ _ (by rfl) (by rfl) (wants_none) (fun ρ w kn hs => o_fieldG1 (kn _ _ (F.old (by rfl) rfl)))
  ·exact coreS _ _ _ _ _ _ _ (by rfl) (by rfl) (wants_none) (fun ρ w kn hs => o_loadG1 (kn _ _ (kc 0 15)) (hs.get 2 rfl))
  ·exact core_pureAs _ (by rfl)
  ·exact coreS _ _ _ _ _ _ _ (by rfl) (by rfl) (wants_none) (fun ρ w kn hs => o_eqlN hQ (show 0 < 2 ^ 256 by decide) hq (kn _ _ (kc 1 16)) (kn _ _ (kc 2 17)))
  ·exact coreS _ _ _ _ _ _ _ (by rfl) (by rfl) (wants_none) (fun ρ w kn hs => o_move (kn _ _ (kc 3 18)))
  ·exact coreG_skip _ _ _ _ _ _ (by rfl) (by rfl) (wc 4 19 4 (kc 4 19))
  ·exact coreG_skip _ _ _ _ _ _ (by rfl) (by rfl) (wc 4 19 4 (kc 4 19))
  ·exact coreG_skip _ _ _ _ _ _ (by rfl) (by rfl) (wc 4 19 4 (kc 4 19))
  ·exact coreG_skip _ _ _ _ _ _ (by rfl) (by rfl) (wc 4 19 4 (kc 4 19))
  ·exact coreG_skip _ _ _ _ _ _ (by rfl) (by rfl) (wc 4 19 4 (kc 4 19))
  ·exact coreS _ _ _ _ _ _ _ (by rfl) (by rfl) (wants_none) (fun ρ w kn hs => o_pick (b := true) (r := .bool true) (kn _ _ (kc 4 19)) (kn _ _ (known_const _)) (kn _ _ (kc 9 24)) rfl)
  ·exact coreS _ _ _ _ _ _ _ (by rfl) (by rfl) (wants_none) (fun ρ w kn hs => o_move (kn _ _ (kc 10 25)))
  ·exact coreG_skip _ _ _ _ _ _ (by rfl) (by rfl) (wc 11 26 11 (kc 11 26))
  ·exact coreG_skip _ _ _ _ _ _ (by rfl) (by rfl) (wc 11 26 11 (kc 11 26))
  ·exact coreG_skip _ _ _ _ _ _ (by rfl) (by rfl) (wc 11 26 11 (kc 11 26))
  ·exact coreG_skip _ _ _ _ _ _ (by rfl) (by rfl) (wc 11 26 11 (kc 11 26))
  ·exact coreG_skip _ _ _ _ _ _ (by rfl) (by rfl) (wc 11 26 11 (kc 11 26))
  ·exact coreS _ _ _ _ _ _ _ (by rfl) (by rfl) (wants_none) (fun ρ w kn hs => o_pick (b := true) (r := .bool true) (kn _ _ (kc 11 26)) (kn _ _ (known_const _)) (kn _ _ (kc 16 31)) rfl)
 ·(repeat (refine all_cons ?_ ?_; rotate_left)); exact all_nil
  ·exact sA
  ·exact sA
  ·exact fun _ => coreG_call _ 22 _ _ [.const (.int .u64 0)] _ _ _ _ _ _ _ (by rfl) Try.func22 (by kernel_rfl) (by rfl) (by rfl) (wants_none) (.cons (known_const _) .nil) ((fun w => of8_any 0 (by decide) w))
  ·exact sA
  ·exact sA
  ·exact sA
  ·exact sA
  ·exact sA
  ·exact sA
  ·exact sA
  ·exact sA
  ·exact sA
  ·exact sA
  ·exact sA
  ·exact sA
  ·exact sA
  ·exact sA
  ·exact sA
 intro gs rs a w hgs hrs F HM
 obtain rfl := nl0 rs hrs
 clear hrs
 obtain rfl := nl0 gs hgs
 clear hgs
 refine sx_done (by kernel_rfl) ?_ _
 repeat (first | refine ex_then ?_ | refine ex_block ?_ | refine wp_seq ?_ | refine wp_block ?_ | refine wp_skip ?_)
 refine wp_cond_true (F.ev rfl) ?_
 repeat (first | refine ex_then ?_ | refine ex_block ?_ | refine wp_seq ?_ | refine wp_block ?_ | refine wp_skip ?_)
 refine wp_region_lit ?_
 refine lx_call F (wanted_none rfl _) rfl (by rfl) (run_callF Try.func23 (by kernel_rfl) (by rfl) .nil _) (alive8_any _) fun a w z F => ?_
 replace HM := HM.on z
 clear z
 refine lx_value (v := .bool true) F (wanted_none rfl _) rfl (by rfl) (o_assign (F.ev rfl)) fun a F => ?_
 refine lx_nil ?_
 repeat (first | refine ex_then ?_ | refine ex_block ?_ | refine wp_seq ?_ | refine wp_block ?_ | refine wp_skip ?_)
 refine wp_ret ?_
 repeat (first | refine ex_thenR ?_ | refine ex_blockR ?_)
 exact sx_ret F HM (res_tmp F rfl (s := 6) rfl)

set_option maxRecDepth 100000 in
set_option maxHeartbeats 8000000 in
theorem closed_1 (P Q G H X Y N : Nat)
  (hQ : Q < 2 ^ 256)
  (hq : decide (Q = 0) = false)
  (i1 : ∀ w, Calls Try.prog 20 #[grp P Q G H, num X] w fun e w' => e = .returned (.bool false) ∧ Below w.heap.size w w')
  (w : World) : Calls Try.prog 5 #[grp P Q G H, arr2 X Y, num N] w fun e w' => e = .returned (.bool true) ∧ Below w.heap.size w w' := by
 refine sx_enter (args := [grp P Q G H, arr2 X Y, num N]) Try.func5 rfl Try.ntmps5 (by rfl) fun a F HM => ?_
 repeat (first | refine ex_then ?_ | refine ex_block ?_ | refine wp_seq ?_ | refine wp_block ?_ | refine wp_skip ?_)
 refine wp_region_lit ?_
 refine lx_new F HM (wanted_none rfl _) rfl (by rfl) (o_boxG (F.ev rfl)) fun a w gr F HM => ?_
 refine lx_new F HM (wanted_none rfl _) rfl (by rfl) (o_boxA (F.ev rfl)) fun a w ga F HM => ?_
 refine lx_new F HM (wanted_none rfl _) rfl (by rfl) (o_boxN (F.ev rfl)) fun a w gb F HM => ?_
 refine lx_value (v := .bool false) F (wanted_none rfl _) rfl (by rfl) (o_assign rfl) fun a F => ?_
 refine lx_nil ?_
 repeat (first | refine ex_then ?_ | refine ex_block ?_ | refine wp_seq ?_ | refine wp_block ?_ | refine wp_skip ?_)
 try simp only [List.append_eq, List.cons_append, List.nil_append]
 refine sx_drawn [⟨0, 15, [], .val (.pointer (some ⟨gr, 4, none⟩)), true⟩,
   ⟨1, 16, [0], .val (num Q), true⟩,
   ⟨2, 17, [1], .val (num 0), false⟩,
   ⟨3, 18, [1, 2], .val (.bool false), true⟩,
   ⟨4, 19, [3], .val (.bool false), true⟩,
   ⟨5, 20, [4], .val (grp P Q G H), true⟩,
   ⟨6, 21, [4, 5], .val (.pointer (some ⟨ga, 0, none⟩)), true⟩,
   ⟨7, 22, [4, 6], .val (num X), true⟩,
   ⟨8, 23, [4, 5, 7], .val (.bool false), false⟩,
   ⟨9, 24, [4, 8], .val (.bool true), true⟩,
   ⟨10, 25, [4, 9], .val (.bool true), true⟩,
   ⟨11, 26, [10], .val (.bool true), true⟩,
   ⟨12, 27, [11], .val undef, true⟩,
   ⟨13, 28, [11, 12], .val undef, true⟩,
   ⟨14, 29, [11, 13], .val undef, true⟩,
   ⟨15, 30, [11, 12, 14], .val undef, true⟩,
   ⟨16, 31, [11, 15], .val undef, true⟩,
   ⟨17, 32, [11, 16], .val (.bool true), true⟩] 0 F HM (by kernel_rfl) (by rfl) (by rfl) ?_ ?_ ?_ ?_ ?_ ?_ ?_
 ·kernel_rfl
 ·exact of_decide_eq_true (by kernel_rfl)
 ·(repeat refine all_cons ⟨_, by rfl, by rfl⟩ ?_); exact all_nil
 ·kernel_rfl
 ·(repeat (refine all_cons ?_ ?_; rotate_left)); exact all_nil
  ·exact coreS _ _ _ _ _ _ _ (by rfl) (by rfl) (wants_none) (fun ρ w kn hs => o_fieldG1 (kn _ _ (F.old (by rfl) rfl)))
  ·exact coreS _ _ _ _ _ _ _ (by rfl) (by rfl) (wants_none) (fun ρ w kn hs => o_loadG1 (kn _ _ (kc 0 15)) (hs.get 2 rfl))
  ·exact core_pureAs _ (by rfl)
  ·exact coreS _ _ _ _ _ _ _ (by rfl) (by rfl) (wants_none) (fun ρ w kn hs => o_eqlN hQ (show 0 < 2 ^ 256 by decide) hq (kn _ _ (kc 1 16)) (kn _ _ (kc 2 17)))
  ·exact coreS _ _ _ _ _ _ _ (by rfl) (by rfl) (wants_none) (fun ρ w kn hs => o_move (kn _ _ (kc 3 18)))
  ·exact coreS _ _ _ _ _ _ _ (by rfl) (by rfl) (wc 4 19 4 (kc 4 19)) (fun ρ w kn hs => o_loadG (kn _ _ (F.old (by rfl) rfl)) (hs.get 2 rfl))
  ·exact coreS _ _ _ _ _ _ _ (by rfl) (by rfl) (wc 4 19 4 (kc 4 19)) (fun ρ w kn hs => o_idxA0 (kn _ _ (F.old (by rfl) rfl)) (kn _ _ (known_const _)))
  ·exact coreS _ _ _ _ _ _ _ (by rfl) (by rfl) (wc 4 19 4 (kc 4 19)) (fun ρ w kn hs => o_loadA0 (kn _ _ (kc 6 21)) (hs.get 1 rfl))
  ·exact core_pureAs _ (by rfl)
  ·exact coreS _ _ _ _ _ _ _ (by rfl) (by rfl) (wc 4 19 4 (kc 4 19)) (fun ρ w kn hs => o_not (b := false) (r := true) (kn _ _ (kc 8 23)) rfl)
  ·exact coreS _ _ _ _ _ _ _ (by rfl) (by rfl) (wants_none) (fun ρ w kn hs => o_pick (b := false) (r := .bool true) (kn _ _ (kc 4 19)) (kn _ _ (known_const _)) (kn _ _ (kc 9 24)) rfl)
  ·exact coreS _ _ _ _ _ _ _ (by rfl) (by rfl) (wants_none) (fun ρ w kn hs => o_move (kn _ _ (kc 10 25)))
  ·exact coreG_skip _ _ _ _ _ _ (by rfl) (by rfl) (wc 11 26 11 (kc 11 26))
  ·exact coreG_skip _ _ _ _ _ _ (by rfl) (by rfl) (wc 11 26 11 (kc 11 26))
  ·exact coreG_skip _ _ _ _ _ _ (by rfl) (by rfl) (wc 11 26 11 (kc 11 26))
  ·exact coreG_skip _ _ _ _ _ _ (by rfl) (by rfl) (wc 11 26 11 (kc 11 26))
  ·exact coreG_skip _ _ _ _ _ _ (by rfl) (by rfl) (wc 11 26 11 (kc 11 26))
  ·exact coreS _ _ _ _ _ _ _ (by rfl) (by rfl) (wants_none) (fun ρ w kn hs => o_pick (b := true) (r := .bool true) (kn _ _ (kc 11 26)) (kn _ _ (known_const _)) (kn _ _ (kc 16 31)) rfl)
 ·(repeat (refine all_cons ?_ ?_; rotate_left)); exact all_nil
  ·exact sA
  ·exact sA
  ·exact fun _ => coreG_call _ 22 _ _ [.const (.int .u64 0)] _ _ _ _ _ _ _ (by rfl) Try.func22 (by kernel_rfl) (by rfl) (by rfl) (wants_none) (.cons (known_const _) .nil) ((fun w => of8_any 0 (by decide) w))
  ·exact sA
  ·exact sA
  ·exact sA
  ·exact sA
  ·exact sA
  ·exact fun _ => coreG_call _ 20 _ _ [.tmp 20, .tmp 22] _ _ _ _ _ _ _ (by rfl) Try.func20 (by kernel_rfl) (by rfl) (by rfl) (wc 4 19 4 (kc 4 19)) (.cons (kc 5 20) (.cons (kc 7 22) .nil)) (i1)
  ·exact sA
  ·exact sA
  ·exact sA
  ·exact sA
  ·exact sA
  ·exact sA
  ·exact sA
  ·exact sA
  ·exact sA
 intro gs rs a w hgs hrs F HM
 obtain rfl := nl0 rs hrs
 clear hrs
 obtain rfl := nl0 gs hgs
 clear hgs
 refine sx_done (by kernel_rfl) ?_ _
 repeat (first | refine ex_then ?_ | refine ex_block ?_ | refine wp_seq ?_ | refine wp_block ?_ | refine wp_skip ?_)
 refine wp_cond_true (F.ev rfl) ?_
 repeat (first | refine ex_then ?_ | refine ex_block ?_ | refine wp_seq ?_ | refine wp_block ?_ | refine wp_skip ?_)
 refine wp_region_lit ?_
 refine lx_call F (wanted_none rfl _) rfl (by rfl) (run_callF Try.func23 (by kernel_rfl) (by rfl) .nil _) (alive8_any _) fun a w z F => ?_
 replace HM := HM.on z
 clear z
 refine lx_value (v := .bool true) F (wanted_none rfl _) rfl (by rfl) (o_assign (F.ev rfl)) fun a F => ?_
 refine lx_nil ?_
 repeat (first | refine ex_then ?_ | refine ex_block ?_ | refine wp_seq ?_ | refine wp_block ?_ | refine wp_skip ?_)
 refine wp_ret ?_
 repeat (first | refine ex_thenR ?_ | refine ex_blockR ?_)
 exact sx_ret F HM (res_tmp F rfl (s := 6) rfl)

set_option maxRecDepth 100000 in
set_option maxHeartbeats 8000000 in
theorem closed_2 (P Q G H X Y N : Nat)
  (hQ : Q < 2 ^ 256)
  (hq : decide (Q = 0) = false)
  (i1 : ∀ w, Calls Try.prog 20 #[grp P Q G H, num X] w fun e w' => e = .returned (.bool true) ∧ Below w.heap.size w w')
  (i2 : ∀ w, Calls Try.prog 20 #[grp P Q G H, num Y] w fun e w' => e = .returned (.bool false) ∧ Below w.heap.size w w')
  (w : World) : Calls Try.prog 5 #[grp P Q G H, arr2 X Y, num N] w fun e w' => e = .returned (.bool true) ∧ Below w.heap.size w w' := by
 refine sx_enter (args := [grp P Q G H, arr2 X Y, num N]) Try.func5 rfl Try.ntmps5 (by rfl) fun a F HM => ?_
 repeat (first | refine ex_then ?_ | refine ex_block ?_ | refine wp_seq ?_ | refine wp_block ?_ | refine wp_skip ?_)
 refine wp_region_lit ?_
 refine lx_new F HM (wanted_none rfl _) rfl (by rfl) (o_boxG (F.ev rfl)) fun a w gr F HM => ?_
 refine lx_new F HM (wanted_none rfl _) rfl (by rfl) (o_boxA (F.ev rfl)) fun a w ga F HM => ?_
 refine lx_new F HM (wanted_none rfl _) rfl (by rfl) (o_boxN (F.ev rfl)) fun a w gb F HM => ?_
 refine lx_value (v := .bool false) F (wanted_none rfl _) rfl (by rfl) (o_assign rfl) fun a F => ?_
 refine lx_nil ?_
 repeat (first | refine ex_then ?_ | refine ex_block ?_ | refine wp_seq ?_ | refine wp_block ?_ | refine wp_skip ?_)
 try simp only [List.append_eq, List.cons_append, List.nil_append]
 refine sx_drawn [⟨0, 15, [], .val (.pointer (some ⟨gr, 4, none⟩)), true⟩,
   ⟨1, 16, [0], .val (num Q), true⟩,
   ⟨2, 17, [1], .val (num 0), false⟩,
   ⟨3, 18, [1, 2], .val (.bool false), true⟩,
   ⟨4, 19, [3], .val (.bool false), true⟩,
   ⟨5, 20, [4], .val (grp P Q G H), true⟩,
   ⟨6, 21, [4, 5], .val (.pointer (some ⟨ga, 0, none⟩)), true⟩,
   ⟨7, 22, [4, 6], .val (num X), true⟩,
   ⟨8, 23, [4, 5, 7], .val (.bool true), false⟩,
   ⟨9, 24, [4, 8], .val (.bool false), true⟩,
   ⟨10, 25, [4, 9], .val (.bool false), true⟩,
   ⟨11, 26, [10], .val (.bool false), true⟩,
   ⟨12, 27, [11], .val (grp P Q G H), true⟩,
   ⟨13, 28, [11, 12], .val (.pointer (some ⟨ga, 4, none⟩)), true⟩,
   ⟨14, 29, [11, 13], .val (num Y), true⟩,
   ⟨15, 30, [11, 12, 14], .val (.bool false), false⟩,
   ⟨16, 31, [11, 15], .val (.bool true), true⟩,
   ⟨17, 32, [11, 16], .val (.bool true), true⟩] 0 F HM (by kernel_rfl) (by rfl) (by rfl) ?_ ?_ ?_ ?_ ?_ ?_ ?_
 ·kernel_rfl
 ·exact of_decide_eq_true (by kernel_rfl)
 ·(repeat refine all_cons ⟨_, by rfl, by rfl⟩ ?_); exact all_nil
 ·kernel_rfl
 ·(repeat (refine all_cons ?_ ?_; rotate_left)); exact all_nil
  ·exact coreS _ _ _ _ _ _ _ (by rfl) (by rfl) (wants_none) (fun ρ w kn hs => o_fieldG1 (kn _ _ (F.old (by rfl) rfl)))
  ·exact coreS _ _ _ _ _ _ _ (by rfl) (by rfl) (wants_none) (fun ρ w kn hs => o_loadG1 (kn _ _ (kc 0 15)) (hs.get 2 rfl))
  ·exact core_pureAs _ (by rfl)
  ·exact coreS _ _ _ _ _ _ _ (by rfl) (by rfl) (wants_none) (fun ρ w kn hs => o_eqlN hQ (show 0 < 2 ^ 256 by decide) hq (kn _ _ (kc 1 16)) (kn _ _ (kc 2 17)))
  ·exact coreS _ _ _ _ _ _ _ (by rfl) (by rfl) (wants_none) (fun ρ w kn hs => o_move (kn _ _ (kc 3 18)))
  ·exact coreS _ _ _ _ _ _ _ (by rfl) (by rfl) (wc 4 19 4 (kc 4 19)) (fun ρ w kn hs => o_loadG (kn _ _ (F.old (by rfl) rfl)) (hs.get 2 rfl))
  ·exact coreS _ _ _ _ _ _ _ (by rfl) (by rfl) (wc 4 19 4 (kc 4 19)) (fun ρ w kn hs => o_idxA0 (kn _ _ (F.old (by rfl) rfl)) (kn _ _ (known_const _)))
  ·exact coreS _ _ _ _ _ _ _ (by rfl) (by rfl) (wc 4 19 4 (kc 4 19)) (fun ρ w kn hs => o_loadA0 (kn _ _ (kc 6 21)) (hs.get 1 rfl))
  ·exact core_pureAs _ (by rfl)
  ·exact coreS _ _ _ _ _ _ _ (by rfl) (by rfl) (wc 4 19 4 (kc 4 19)) (fun ρ w kn hs => o_not (b := true) (r := false) (kn _ _ (kc 8 23)) rfl)
  ·exact coreS _ _ _ _ _ _ _ (by rfl) (by rfl) (wants_none) (fun ρ w kn hs => o_pick (b := false) (r := .bool false) (kn _ _ (kc 4 19)) (kn _ _ (known_const _)) (kn _ _ (kc 9 24)) rfl)
  ·exact coreS _ _ _ _ _ _ _ (by rfl) (by rfl) (wants_none) (fun ρ w kn hs => o_move (kn _ _ (kc 10 25)))
  ·exact coreS _ _ _ _ _ _ _ (by rfl) (by rfl) (wc 11 26 11 (kc 11 26)) (fun ρ w kn hs => o_loadG (kn _ _ (F.old (by rfl) rfl)) (hs.get 2 rfl))
  ·exact coreS _ _ _ _ _ _ _ (by rfl) (by rfl) (wc 11 26 11 (kc 11 26)) (fun ρ w kn hs => o_idxA1 (kn _ _ (F.old (by rfl) rfl)) (kn _ _ (known_const _)))
  ·exact coreS _ _ _ _ _ _ _ (by rfl) (by rfl) (wc 11 26 11 (kc 11 26)) (fun ρ w kn hs => o_loadA1 (kn _ _ (kc 13 28)) (hs.get 1 rfl))
  ·exact core_pureAs _ (by rfl)
  ·exact coreS _ _ _ _ _ _ _ (by rfl) (by rfl) (wc 11 26 11 (kc 11 26)) (fun ρ w kn hs => o_not (b := false) (r := true) (kn _ _ (kc 15 30)) rfl)
  ·exact coreS _ _ _ _ _ _ _ (by rfl) (by rfl) (wants_none) (fun ρ w kn hs => o_pick (b := false) (r := .bool true) (kn _ _ (kc 11 26)) (kn _ _ (known_const _)) (kn _ _ (kc 16 31)) rfl)
 ·(repeat (refine all_cons ?_ ?_; rotate_left)); exact all_nil
  ·exact sA
  ·exact sA
  ·exact fun _ => coreG_call _ 22 _ _ [.const (.int .u64 0)] _ _ _ _ _ _ _ (by rfl) Try.func22 (by kernel_rfl) (by rfl) (by rfl) (wants_none) (.cons (known_const _) .nil) ((fun w => of8_any 0 (by decide) w))
  ·exact sA
  ·exact sA
  ·exact sA
  ·exact sA
  ·exact sA
  ·exact fun _ => coreG_call _ 20 _ _ [.tmp 20, .tmp 22] _ _ _ _ _ _ _ (by rfl) Try.func20 (by kernel_rfl) (by rfl) (by rfl) (wc 4 19 4 (kc 4 19)) (.cons (kc 5 20) (.cons (kc 7 22) .nil)) (i1)
  ·exact sA
  ·exact sA
  ·exact sA
  ·exact sA
  ·exact sA
  ·exact sA
  ·exact fun _ => coreG_call _ 20 _ _ [.tmp 27, .tmp 29] _ _ _ _ _ _ _ (by rfl) Try.func20 (by kernel_rfl) (by rfl) (by rfl) (wc 11 26 11 (kc 11 26)) (.cons (kc 12 27) (.cons (kc 14 29) .nil)) (i2)
  ·exact sA
  ·exact sA
 intro gs rs a w hgs hrs F HM
 obtain rfl := nl0 rs hrs
 clear hrs
 obtain rfl := nl0 gs hgs
 clear hgs
 refine sx_done (by kernel_rfl) ?_ _
 repeat (first | refine ex_then ?_ | refine ex_block ?_ | refine wp_seq ?_ | refine wp_block ?_ | refine wp_skip ?_)
 refine wp_cond_true (F.ev rfl) ?_
 repeat (first | refine ex_then ?_ | refine ex_block ?_ | refine wp_seq ?_ | refine wp_block ?_ | refine wp_skip ?_)
 refine wp_region_lit ?_
 refine lx_call F (wanted_none rfl _) rfl (by rfl) (run_callF Try.func23 (by kernel_rfl) (by rfl) .nil _) (alive8_any _) fun a w z F => ?_
 replace HM := HM.on z
 clear z
 refine lx_value (v := .bool true) F (wanted_none rfl _) rfl (by rfl) (o_assign (F.ev rfl)) fun a F => ?_
 refine lx_nil ?_
 repeat (first | refine ex_then ?_ | refine ex_block ?_ | refine wp_seq ?_ | refine wp_block ?_ | refine wp_skip ?_)
 refine wp_ret ?_
 repeat (first | refine ex_thenR ?_ | refine ex_blockR ?_)
 exact sx_ret F HM (res_tmp F rfl (s := 6) rfl)

set_option maxRecDepth 100000 in
set_option maxHeartbeats 8000000 in
theorem closed_3 (P Q G H X Y N x y z : Nat)
  (hQ : Q < 2 ^ 256)
  (hq : decide (Q = 0) = false)
  (i1 : ∀ w, Calls Try.prog 20 #[grp P Q G H, num X] w fun e w' => e = .returned (.bool true) ∧ Below w.heap.size w w')
  (i2 : ∀ w, Calls Try.prog 20 #[grp P Q G H, num Y] w fun e w' => e = .returned (.bool true) ∧ Below w.heap.size w w')
  (c1 : ∀ w, Calls Try.prog 14 #[grp P Q G H, num X, num Y] w fun e w' => e = .returned (.tuple #[num x, .int .i64 0]) ∧ Below w.heap.size w w')
  (c2 : ∀ w, Calls Try.prog 15 #[grp P Q G H, num X] w fun e w' => e = .returned (.tuple #[num y, .int .i64 0]) ∧ Below w.heap.size w w')
  (c3 : ∀ w, Calls Try.prog 16 #[grp P Q G H, num X, num N] w fun e w' => e = .returned (.tuple #[num z, .int .i64 0]) ∧ Below w.heap.size w w')
  (c4 : ∀ w, Calls Try.prog 14 #[grp P Q G H, num X, num y] w fun e w' => e = .returned (.tuple #[num 1, .int .i64 0]) ∧ Below w.heap.size w w')
  (i3 : ∀ w, Calls Try.prog 20 #[grp P Q G H, num x] w fun e w' => e = .returned (.bool true) ∧ Below w.heap.size w w')
  (i4 : ∀ w, Calls Try.prog 20 #[grp P Q G H, num y] w fun e w' => e = .returned (.bool true) ∧ Below w.heap.size w w')
  (i5 : ∀ w, Calls Try.prog 20 #[grp P Q G H, num z] w fun e w' => e = .returned (.bool true) ∧ Below w.heap.size w w')
  (i6 : ∀ w, Calls Try.prog 20 #[grp P Q G H, num 1] w fun e w' => e = .returned (.bool true) ∧ Below w.heap.size w w')
  (w : World) : Calls Try.prog 5 #[grp P Q G H, arr2 X Y, num N] w fun e w' => e = .returned (.bool true) ∧ Below w.heap.size w w' := by
 refine sx_enter (args := [grp P Q G H, arr2 X Y, num N]) Try.func5 rfl Try.ntmps5 (by rfl) fun a F HM => ?_
 repeat (first | refine ex_then ?_ | refine ex_block ?_ | refine wp_seq ?_ | refine wp_block ?_ | refine wp_skip ?_)
 refine wp_region_lit ?_
 refine lx_new F HM (wanted_none rfl _) rfl (by rfl) (o_boxG (F.ev rfl)) fun a w gr F HM => ?_
 refine lx_new F HM (wanted_none rfl _) rfl (by rfl) (o_boxA (F.ev rfl)) fun a w ga F HM => ?_
 refine lx_new F HM (wanted_none rfl _) rfl (by rfl) (o_boxN (F.ev rfl)) fun a w gb F HM => ?_
 refine lx_value (v := .bool false) F (wanted_none rfl _) rfl (by rfl) (o_assign rfl) fun a F => ?_
 refine lx_nil ?_
 repeat (first | refine ex_then ?_ | refine ex_block ?_ | refine wp_seq ?_ | refine wp_block ?_ | refine wp_skip ?_)
 try simp only [List.append_eq, List.cons_append, List.nil_append]
 refine sx_drawn [⟨0, 15, [], .val (.pointer (some ⟨gr, 4, none⟩)), true⟩,
   ⟨1, 16, [0], .val (num Q), true⟩,
   ⟨2, 17, [1], .val (num 0), false⟩,
   ⟨3, 18, [1, 2], .val (.bool false), true⟩,
   ⟨4, 19, [3], .val (.bool false), true⟩,
   ⟨5, 20, [4], .val (grp P Q G H), true⟩,
   ⟨6, 21, [4, 5], .val (.pointer (some ⟨ga, 0, none⟩)), true⟩,
   ⟨7, 22, [4, 6], .val (num X), true⟩,
   ⟨8, 23, [4, 5, 7], .val (.bool true), false⟩,
   ⟨9, 24, [4, 8], .val (.bool false), true⟩,
   ⟨10, 25, [4, 9], .val (.bool false), true⟩,
   ⟨11, 26, [10], .val (.bool false), true⟩,
   ⟨12, 27, [11], .val (grp P Q G H), true⟩,
   ⟨13, 28, [11, 12], .val (.pointer (some ⟨ga, 4, none⟩)), true⟩,
   ⟨14, 29, [11, 13], .val (num Y), true⟩,
   ⟨15, 30, [11, 12, 14], .val (.bool true), false⟩,
   ⟨16, 31, [11, 15], .val (.bool false), true⟩,
   ⟨17, 32, [11, 16], .val (.bool false), true⟩] 0 F HM (by kernel_rfl) (by rfl) (by rfl) ?_ ?_ ?_ ?_ ?_ ?_ ?_
 ·kernel_rfl
 ·exact of_decide_eq_true (by kernel_rfl)
 ·(repeat refine all_cons ⟨_, by rfl, by rfl⟩ ?_); exact all_nil
 ·kernel_rfl
 ·(repeat (refine all_cons ?_ ?_; rotate_left)); exact all_nil
  ·exact coreS _ _ _ _ _ _ _ (by rfl) (by rfl) (wants_none) (fun ρ w kn hs => o_fieldG1 (kn _ _ (F.old (by rfl) rfl)))
  ·exact coreS _ _ _ _ _ _ _ (by rfl) (by rfl) (wants_none) (fun ρ w kn hs => o_loadG1 (kn _ _ (kc 0 15)) (hs.get 2 rfl))
  ·exact core_pureAs _ (by rfl)
  ·exact coreS _ _ _ _ _ _ _ (by rfl) (by rfl) (wants_none) (fun ρ w kn hs => o_eqlN hQ (show 0 < 2 ^ 256 by decide) hq (kn _ _ (kc 1 16)) (kn _ _ (kc 2 17)))
  ·exact coreS _ _ _ _ _ _ _ (by rfl) (by rfl) (wants_none) (fun ρ w kn hs => o_move (kn _ _ (kc 3 18)))
  ·exact coreS _ _ _ _ _ _ _ (by rfl) (by rfl) (wc 4 19 4 (kc 4 19)) (fun ρ w kn hs => o_loadG (kn _ _ (F.old (by rfl) rfl)) (hs.get 2 rfl))
  ·exact coreS _ _ _ _ _ _ _ (by rfl) (by rfl) (wc 4 19 4 (kc 4 19)) (fun ρ w kn hs => o_idxA0 (kn _ _ (F.old (by rfl) rfl)) (kn _ _ (known_const _)))
  ·exact coreS _ _ _ _ _ _ _ (by rfl) (by rfl) (wc 4 19 4 (kc 4 19)) (fun ρ w kn hs => o_loadA0 (kn _ _ (kc 6 21)) (hs.get 1 rfl))
  ·exact core_pureAs _ (by rfl)
  ·exact coreS _ _ _ _ _ _ _ (by rfl) (by rfl) (wc 4 19 4 (kc 4 19)) (fun ρ w kn hs => o_not (b := true) (r := false) (kn _ _ (kc 8 23)) rfl)
  ·exact coreS _ _ _ _ _ _ _ (by rfl) (by rfl) (wants_none) (fun ρ w kn hs => o_pick (b := false) (r := .bool false) (kn _ _ (kc 4 19)) (kn _ _ (known_const _)) (kn _ _ (kc 9 24)) rfl)
  ·exact coreS _ _ _ _ _ _ _ (by rfl) (by rfl) (wants_none) (fun ρ w kn hs => o_move (kn _ _ (kc 10 25)))
  ·exact coreS _ _ _ _ _ _ _ (by rfl) (by rfl) (wc 11 26 11 (kc 11 26)) (fun ρ w kn hs => o_loadG (kn _ _ (F.old (by rfl) rfl)) (hs.get 2 rfl))
  ·exact coreS _ _ _ _ _ _ _ (by rfl) (by rfl) (wc 11 26 11 (kc 11 26)) (fun ρ w kn hs => o_idxA1 (kn _ _ (F.old (by rfl) rfl)) (kn _ _ (known_const _)))
  ·exact coreS _ _ _ _ _ _ _ (by rfl) (by rfl) (wc 11 26 11 (kc 11 26)) (fun ρ w kn hs => o_loadA1 (kn _ _ (kc 13 28)) (hs.get 1 rfl))
  ·exact core_pureAs _ (by rfl)
  ·exact coreS _ _ _ _ _ _ _ (by rfl) (by rfl) (wc 11 26 11 (kc 11 26)) (fun ρ w kn hs => o_not (b := true) (r := false) (kn _ _ (kc 15 30)) rfl)
  ·exact coreS _ _ _ _ _ _ _ (by rfl) (by rfl) (wants_none) (fun ρ w kn hs => o_pick (b := false) (r := .bool false) (kn _ _ (kc 11 26)) (kn _ _ (known_const _)) (kn _ _ (kc 16 31)) rfl)
 ·(repeat (refine all_cons ?_ ?_; rotate_left)); exact all_nil
  ·exact sA
  ·exact sA
  ·exact fun _ => coreG_call _ 22 _ _ [.const (.int .u64 0)] _ _ _ _ _ _ _ (by rfl) Try.func22 (by kernel_rfl) (by rfl) (by rfl) (wants_none) (.cons (known_const _) .nil) ((fun w => of8_any 0 (by decide) w))
  ·exact sA
  ·exact sA
  ·exact sA
  ·exact sA
  ·exact sA
  ·exact fun _ => coreG_call _ 20 _ _ [.tmp 20, .tmp 22] _ _ _ _ _ _ _ (by rfl) Try.func20 (by kernel_rfl) (by rfl) (by rfl) (wc 4 19 4 (kc 4 19)) (.cons (kc 5 20) (.cons (kc 7 22) .nil)) (i1)
  ·exact sA
  ·exact sA
  ·exact sA
  ·exact sA
  ·exact sA
  ·exact sA
  ·exact fun _ => coreG_call _ 20 _ _ [.tmp 27, .tmp 29] _ _ _ _ _ _ _ (by rfl) Try.func20 (by kernel_rfl) (by rfl) (by rfl) (wc 11 26 11 (kc 11 26)) (.cons (kc 12 27) (.cons (kc 14 29) .nil)) (i2)
  ·exact sA
  ·exact sA
 intro gs rs a w hgs hrs F HM
 obtain rfl := nl0 rs hrs
 clear hrs
 obtain rfl := nl0 gs hgs
 clear hgs
 refine sx_done (by kernel_rfl) ?_ _
 repeat (first | refine ex_then ?_ | refine ex_block ?_ | refine wp_seq ?_ | refine wp_block ?_ | refine wp_skip ?_)
 refine wp_cond_false (F.ev rfl) ?_
 repeat (first | refine ex_then ?_ | refine ex_block ?_ | refine wp_seq ?_ | refine wp_block ?_ | refine wp_skip ?_)
 refine wp_region_lit ?_
 refine lx_value (v := grp P Q G H) F (wanted_none rfl _) rfl (by rfl) (o_loadG (F.ev rfl) (HM.get 2 rfl)) fun a F => ?_
 refine lx_value (v := .pointer (some ⟨ga, 0, none⟩)) F (wanted_none rfl _) rfl (by rfl) (o_idxA0 (F.ev rfl) rfl) fun a F => ?_
 refine lx_value (v := num X) F (wanted_none rfl _) rfl (by rfl) (o_loadA0 (F.ev rfl) (HM.get 1 rfl)) fun a F => ?_
 refine lx_value (v := .pointer (some ⟨ga, 4, none⟩)) F (wanted_none rfl _) rfl (by rfl) (o_idxA1 (F.ev rfl) rfl) fun a F => ?_
 refine lx_value (v := num Y) F (wanted_none rfl _) rfl (by rfl) (o_loadA1 (F.ev rfl) (HM.get 1 rfl)) fun a F => ?_
 refine lx_call F (wanted_none rfl _) rfl (by rfl) (run_callF Try.func14 (by kernel_rfl) (by rfl) (.cons (F.ev rfl) (.cons (F.ev rfl) (.cons (F.ev rfl) .nil))) _) (c1 _) fun a w z F => ?_
 replace HM := HM.on z
 clear z
 refine lx_value (v := .tuple #[num x, .int .i64 0]) F (wanted_none rfl _) rfl (by rfl) (o_move (F.ev rfl)) fun a F => ?_
 refine lx_value (v := num x) F (wanted_none rfl _) rfl (by rfl) (o_extract (F.ev rfl) rfl) fun a F => ?_
 refine lx_value (v := .int .i64 0) F (wanted_none rfl _) rfl (by rfl) (o_extract (F.ev rfl) rfl) fun a F => ?_
 refine lx_new F HM (wanted_none rfl _) rfl (by rfl) (o_allocN) fun a w gx F HM => ?_
 refine lx_store F HM (wanted_none rfl _) rfl (k := 0) rfl (o_storeN (F.ev rfl) (F.ev rfl) (HM.get 0 rfl)) (M2 := [(gx, 24, ncs x), (gb, 24, ncs N), (ga, 42, acs X Y), (gr, 35, gcs P Q G H)]) rfl fun w HM => ?_
 refine lx_value (v := .int .i64 0) F (wanted_none rfl _) rfl (by rfl) (o_assign (F.ev rfl)) fun a F => ?_
 refine lx_nil ?_
 repeat (first | refine ex_then ?_ | refine ex_block ?_ | refine wp_seq ?_ | refine wp_block ?_ | refine wp_skip ?_)
 refine wp_region_lit ?_
 refine lx_value (v := grp P Q G H) F (wanted_none rfl _) rfl (by rfl) (o_loadG (F.ev rfl) (HM.get 3 rfl)) fun a F => ?_
 refine lx_value (v := .pointer (some ⟨ga, 0, none⟩)) F (wanted_none rfl _) rfl (by rfl) (o_idxA0 (F.ev rfl) rfl) fun a F => ?_
 refine lx_value (v := num X) F (wanted_none rfl _) rfl (by rfl) (o_loadA0 (F.ev rfl) (HM.get 2 rfl)) fun a F => ?_
 refine lx_call F (wanted_none rfl _) rfl (by rfl) (run_callF Try.func15 (by kernel_rfl) (by rfl) (.cons (F.ev rfl) (.cons (F.ev rfl) .nil)) _) (c2 _) fun a w z F => ?_
 replace HM := HM.on z
 clear z
 refine lx_value (v := .tuple #[num y, .int .i64 0]) F (wanted_none rfl _) rfl (by rfl) (o_move (F.ev rfl)) fun a F => ?_
 refine lx_value (v := num y) F (wanted_none rfl _) rfl (by rfl) (o_extract (F.ev rfl) rfl) fun a F => ?_
 refine lx_value (v := .int .i64 0) F (wanted_none rfl _) rfl (by rfl) (o_extract (F.ev rfl) rfl) fun a F => ?_
 refine lx_new F HM (wanted_none rfl _) rfl (by rfl) (o_allocN) fun a w gy F HM => ?_
 refine lx_store F HM (wanted_none rfl _) rfl (k := 0) rfl (o_storeN (F.ev rfl) (F.ev rfl) (HM.get 0 rfl)) (M2 := [(gy, 24, ncs y), (gx, 24, ncs x), (gb, 24, ncs N), (ga, 42, acs X Y), (gr, 35, gcs P Q G H)]) rfl fun w HM => ?_
 refine lx_value (v := .int .i64 0) F (wanted_none rfl _) rfl (by rfl) (o_assign (F.ev rfl)) fun a F => ?_
 refine lx_nil ?_
 repeat (first | refine ex_then ?_ | refine ex_block ?_ | refine wp_seq ?_ | refine wp_block ?_ | refine wp_skip ?_)
 refine wp_region_lit ?_
 refine lx_value (v := grp P Q G H) F (wanted_none rfl _) rfl (by rfl) (o_loadG (F.ev rfl) (HM.get 4 rfl)) fun a F => ?_
 refine lx_value (v := .pointer (some ⟨ga, 0, none⟩)) F (wanted_none rfl _) rfl (by rfl) (o_idxA0 (F.ev rfl) rfl) fun a F => ?_
 refine lx_value (v := num X) F (wanted_none rfl _) rfl (by rfl) (o_loadA0 (F.ev rfl) (HM.get 3 rfl)) fun a F => ?_
 refine lx_value (v := num N) F (wanted_none rfl _) rfl (by rfl) (o_loadN (F.ev rfl) (HM.get 2 rfl)) fun a F => ?_
 refine lx_call F (wanted_none rfl _) rfl (by rfl) (run_callF Try.func16 (by kernel_rfl) (by rfl) (.cons (F.ev rfl) (.cons (F.ev rfl) (.cons (F.ev rfl) .nil))) _) (c3 _) fun a w z F => ?_
 replace HM := HM.on z
 clear z
 refine lx_value (v := .tuple #[num z, .int .i64 0]) F (wanted_none rfl _) rfl (by rfl) (o_move (F.ev rfl)) fun a F => ?_
 refine lx_value (v := num z) F (wanted_none rfl _) rfl (by rfl) (o_extract (F.ev rfl) rfl) fun a F => ?_
 refine lx_value (v := .int .i64 0) F (wanted_none rfl _) rfl (by rfl) (o_extract (F.ev rfl) rfl) fun a F => ?_
 refine lx_new F HM (wanted_none rfl _) rfl (by rfl) (o_allocN) fun a w gz F HM => ?_
 refine lx_store F HM (wanted_none rfl _) rfl (k := 0) rfl (o_storeN (F.ev rfl) (F.ev rfl) (HM.get 0 rfl)) (M2 := [(gz, 24, ncs z), (gy, 24, ncs y), (gx, 24, ncs x), (gb, 24, ncs N), (ga, 42, acs X Y), (gr, 35, gcs P Q G H)]) rfl fun w HM => ?_
 refine lx_value (v := .int .i64 0) F (wanted_none rfl _) rfl (by rfl) (o_assign (F.ev rfl)) fun a F => ?_
 refine lx_nil ?_
 repeat (first | refine ex_then ?_ | refine ex_block ?_ | refine wp_seq ?_ | refine wp_block ?_ | refine wp_skip ?_)
 refine wp_region_lit ?_
 refine lx_value (v := grp P Q G H) F (wanted_none rfl _) rfl (by rfl) (o_loadG (F.ev rfl) (HM.get 5 rfl)) fun a F => ?_
 refine lx_value (v := .pointer (some ⟨ga, 0, none⟩)) F (wanted_none rfl _) rfl (by rfl) (o_idxA0 (F.ev rfl) rfl) fun a F => ?_
 refine lx_value (v := num X) F (wanted_none rfl _) rfl (by rfl) (o_loadA0 (F.ev rfl) (HM.get 4 rfl)) fun a F => ?_
 refine lx_value (v := num y) F (wanted_none rfl _) rfl (by rfl) (o_loadN (F.ev rfl) (HM.get 1 rfl)) fun a F => ?_
 refine lx_call F (wanted_none rfl _) rfl (by rfl) (run_callF Try.func14 (by kernel_rfl) (by rfl) (.cons (F.ev rfl) (.cons (F.ev rfl) (.cons (F.ev rfl) .nil))) _) (c4 _) fun a w z F => ?_
 replace HM := HM.on z
 clear z
 refine lx_value (v := .tuple #[num 1, .int .i64 0]) F (wanted_none rfl _) rfl (by rfl) (o_move (F.ev rfl)) fun a F => ?_
 refine lx_value (v := num 1) F (wanted_none rfl _) rfl (by rfl) (o_extract (F.ev rfl) rfl) fun a F => ?_
 refine lx_value (v := .int .i64 0) F (wanted_none rfl _) rfl (by rfl) (o_extract (F.ev rfl) rfl) fun a F => ?_
 refine lx_new F HM (wanted_none rfl _) rfl (by rfl) (o_allocN) fun a w go F HM => ?_
 refine lx_store F HM (wanted_none rfl _) rfl (k := 0) rfl (o_storeN (F.ev rfl) (F.ev rfl) (HM.get 0 rfl)) (M2 := [(go, 24, ncs 1), (gz, 24, ncs z), (gy, 24, ncs y), (gx, 24, ncs x), (gb, 24, ncs N), (ga, 42, acs X Y), (gr, 35, gcs P Q G H)]) rfl fun w HM => ?_
 refine lx_value (v := .int .i64 0) F (wanted_none rfl _) rfl (by rfl) (o_assign (F.ev rfl)) fun a F => ?_
 refine lx_nil ?_
 repeat (first | refine ex_then ?_ | refine ex_block ?_ | refine wp_seq ?_ | refine wp_block ?_ | refine wp_skip ?_)
 try simp only [List.append_eq, List.cons_append, List.nil_append]
 refine sx_drawn [⟨0, 66, [], .val (.bool true), false⟩,
   ⟨1, 67, [0], .val (.bool true), true⟩,
   ⟨2, 68, [1], .val (.int .i64 0), true⟩,
   ⟨3, 69, [1, 2], .val (.bool true), true⟩,
   ⟨4, 70, [1, 3], .val (.bool true), true⟩,
   ⟨5, 71, [4], .val (.bool true), true⟩,
   ⟨6, 72, [5], .val (.int .i64 0), true⟩,
   ⟨7, 73, [5, 6], .val (.bool true), true⟩,
   ⟨8, 74, [5, 7], .val (.bool true), true⟩,
   ⟨9, 75, [8], .val (.bool true), true⟩,
   ⟨10, 76, [9], .val (.int .i64 0), true⟩,
   ⟨11, 77, [9, 10], .val (.bool true), true⟩,
   ⟨12, 78, [9, 11], .val (.bool true), true⟩,
   ⟨13, 79, [12], .val (.bool true), true⟩,
   ⟨14, 80, [13], .val (.int .i64 0), true⟩,
   ⟨15, 81, [13, 14], .val (.bool true), true⟩,
   ⟨16, 82, [13, 15], .val (.bool true), true⟩,
   ⟨17, 83, [16], .val (.bool true), true⟩,
   ⟨18, 84, [17], .val (grp P Q G H), true⟩,
   ⟨19, 85, [17, 18], .val (num x), true⟩,
   ⟨20, 86, [17, 18, 19], .val (.bool true), false⟩,
   ⟨21, 87, [17, 20], .val (.bool true), true⟩,
   ⟨22, 88, [21], .val (.bool true), true⟩,
   ⟨23, 89, [22], .val (grp P Q G H), true⟩,
   ⟨24, 90, [22, 23], .val (num y), true⟩,
   ⟨25, 91, [22, 23, 24], .val (.bool true), false⟩,
   ⟨26, 92, [22, 25], .val (.bool true), true⟩,
   ⟨27, 93, [26], .val (.bool true), true⟩,
   ⟨28, 94, [27], .val (grp P Q G H), true⟩,
   ⟨29, 95, [27, 28], .val (num z), true⟩,
   ⟨30, 96, [27, 28, 29], .val (.bool true), false⟩,
   ⟨31, 97, [27, 30], .val (.bool true), true⟩,
   ⟨32, 98, [31], .val (.bool true), true⟩,
   ⟨33, 99, [32], .val (num 1), true⟩,
   ⟨34, 100, [32, 33], .val (num 1), false⟩,
   ⟨35, 101, [32, 33, 34], .val (.bool true), true⟩,
   ⟨36, 102, [32, 35], .val (.bool true), true⟩,
   ⟨37, 103, [36], .val (.bool true), true⟩,
   ⟨38, 104, [37], .val (grp P Q G H), true⟩,
   ⟨39, 105, [37, 38], .val (num 1), false⟩,
   ⟨40, 106, [37, 38, 39], .val (.bool true), false⟩,
   ⟨41, 107, [37, 40], .val (.bool true), true⟩] 1 F HM (by kernel_rfl) (by rfl) (by rfl) ?_ ?_ ?_ ?_ ?_ ?_ ?_
 ·kernel_rfl
 ·exact of_decide_eq_true (by kernel_rfl)
 ·(repeat refine all_cons ⟨_, by rfl, by rfl⟩ ?_); exact all_nil
 ·kernel_rfl
 ·(repeat (refine all_cons ?_ ?_; rotate_left)); exact all_nil
  ·exact core_pureAs _ (by rfl)
  ·exact coreS _ _ _ _ _ _ _ (by rfl) (by rfl) (wants_none) (fun ρ w kn hs => o_move (kn _ _ (kc 0 66)))
  ·exact coreS _ _ _ _ _ _ _ (by rfl) (by rfl) (wc 1 67 1 (kc 1 67)) (fun ρ w kn hs => o_move (kn _ _ (F.old (by rfl) rfl)))
  ·exact coreS _ _ _ _ _ _ _ (by rfl) (by rfl) (wc 1 67 1 (kc 1 67)) (fun ρ w kn hs => o_bin (u := .int .i64 0) (v := .int .i64 0) (fun ρ hx hy => by simp only [execOp, hx, hy]; simp [go_sem]) (kn _ _ (kc 2 68)) (kn _ _ (known_const _)))
  ·exact coreS _ _ _ _ _ _ _ (by rfl) (by rfl) (wants_none) (fun ρ w kn hs => o_pick (b := true) (r := .bool true) (kn _ _ (kc 1 67)) (kn _ _ (kc 3 69)) (kn _ _ (known_const _)) rfl)
  ·exact coreS _ _ _ _ _ _ _ (by rfl) (by rfl) (wants_none) (fun ρ w kn hs => o_move (kn _ _ (kc 4 70)))
  ·exact coreS _ _ _ _ _ _ _ (by rfl) (by rfl) (wc 5 71 5 (kc 5 71)) (fun ρ w kn hs => o_move (kn _ _ (F.old (by rfl) rfl)))
  ·exact coreS _ _ _ _ _ _ _ (by rfl) (by rfl) (wc 5 71 5 (kc 5 71)) (fun ρ w kn hs => o_bin (u := .int .i64 0) (v := .int .i64 0) (fun ρ hx hy => by simp only [execOp, hx, hy]; simp [go_sem]) (kn _ _ (kc 6 72)) (kn _ _ (known_const _)))
  ·exact coreS _ _ _ _ _ _ _ (by rfl) (by rfl) (wants_none) (fun ρ w kn hs => o_pick (b := true) (r := .bool true) (kn _ _ (kc 5 71)) (kn _ _ (kc 7 73)) (kn _ _ (known_const _)) rfl)
  ·exact coreS _ _ _ _ _ _ _ (by rfl) (by rfl) (wants_none) (fun ρ w kn hs => o_move (kn _ _ (kc 8 74)))
  ·exact coreS _ _ _ _ _ _ _ (by rfl) (by rfl) (wc 9 75 9 (kc 9 75)) (fun ρ w kn hs => o_move (kn _ _ (F.old (by rfl) rfl)))
  ·exact coreS _ _ _ _ _ _ _ (by rfl) (by rfl) (wc 9 75 9 (kc 9 75)) (fun ρ w kn hs => o_bin (u := .int .i64 0) (v := .int .i64 0) (fun ρ hx hy => by simp only [execOp, hx, hy]; simp [go_sem]) (kn _ _ (kc 10 76)) (kn _ _ (known_const _)))
  ·exact coreS _ _ _ _ _ _ _ (by rfl) (by rfl) (wants_none) (fun ρ w kn hs => o_pick (b := true) (r := .bool true) (kn _ _ (kc 9 75)) (kn _ _ (kc 11 77)) (kn _ _ (known_const _)) rfl)
  ·exact coreS _ _ _ _ _ _ _ (by rfl) (by rfl) (wants_none) (fun ρ w kn hs => o_move (kn _ _ (kc 12 78)))
  ·exact coreS _ _ _ _ _ _ _ (by rfl) (by rfl) (wc 13 79 13 (kc 13 79)) (fun ρ w kn hs => o_move (kn _ _ (F.old (by rfl) rfl)))
  ·exact coreS _ _ _ _ _ _ _ (by rfl) (by rfl) (wc 13 79 13 (kc 13 79)) (fun ρ w kn hs => o_bin (u := .int .i64 0) (v := .int .i64 0) (fun ρ hx hy => by simp only [execOp, hx, hy]; simp [go_sem]) (kn _ _ (kc 14 80)) (kn _ _ (known_const _)))
  ·exact coreS _ _ _ _ _ _ _ (by rfl) (by rfl) (wants_none) (fun ρ w kn hs => o_pick (b := true) (r := .bool true) (kn _ _ (kc 13 79)) (kn _ _ (kc 15 81)) (kn _ _ (known_const _)) rfl)
  ·exact coreS _ _ _ _ _ _ _ (by rfl) (by rfl) (wants_none) (fun ρ w kn hs => o_move (kn _ _ (kc 16 82)))
  ·exact coreS _ _ _ _ _ _ _ (by rfl) (by rfl) (wc 17 83 17 (kc 17 83)) (fun ρ w kn hs => o_loadG (kn _ _ (F.old (by rfl) rfl)) (hs.get 6 rfl))
  ·exact coreS _ _ _ _ _ _ _ (by rfl) (by rfl) (wc 17 83 17 (kc 17 83)) (fun ρ w kn hs => o_loadN (kn _ _ (F.old (by rfl) rfl)) (hs.get 3 rfl))
  ·exact core_pureAs _ (by rfl)
  ·exact coreS _ _ _ _ _ _ _ (by rfl) (by rfl) (wants_none) (fun ρ w kn hs => o_pick (b := true) (r := .bool true) (kn _ _ (kc 17 83)) (kn _ _ (kc 20 86)) (kn _ _ (known_const _)) rfl)
  ·exact coreS _ _ _ _ _ _ _ (by rfl) (by rfl) (wants_none) (fun ρ w kn hs => o_move (kn _ _ (kc 21 87)))
  ·exact coreS _ _ _ _ _ _ _ (by rfl) (by rfl) (wc 22 88 22 (kc 22 88)) (fun ρ w kn hs => o_loadG (kn _ _ (F.old (by rfl) rfl)) (hs.get 6 rfl))
  ·exact coreS _ _ _ _ _ _ _ (by rfl) (by rfl) (wc 22 88 22 (kc 22 88)) (fun ρ w kn hs => o_loadN (kn _ _ (F.old (by rfl) rfl)) (hs.get 2 rfl))
  ·exact core_pureAs _ (by rfl)
  ·exact coreS _ _ _ _ _ _ _ (by rfl) (by rfl) (wants_none) (fun ρ w kn hs => o_pick (b := true) (r := .bool true) (kn _ _ (kc 22 88)) (kn _ _ (kc 25 91)) (kn _ _ (known_const _)) rfl)
  ·exact coreS _ _ _ _ _ _ _ (by rfl) (by rfl) (wants_none) (fun ρ w kn hs => o_move (kn _ _ (kc 26 92)))
  ·exact coreS _ _ _ _ _ _ _ (by rfl) (by rfl) (wc 27 93 27 (kc 27 93)) (fun ρ w kn hs => o_loadG (kn _ _ (F.old (by rfl) rfl)) (hs.get 6 rfl))
  ·exact coreS _ _ _ _ _ _ _ (by rfl) (by rfl) (wc 27 93 27 (kc 27 93)) (fun ρ w kn hs => o_loadN (kn _ _ (F.old (by rfl) rfl)) (hs.get 1 rfl))
  ·exact core_pureAs _ (by rfl)
  ·exact coreS _ _ _ _ _ _ _ (by rfl) (by rfl) (wants_none) (fun ρ w kn hs => o_pick (b := true) (r := .bool true) (kn _ _ (kc 27 93)) (kn _ _ (kc 30 96)) (kn _ _ (known_const _)) rfl)
  ·exact coreS _ _ _ _ _ _ _ (by rfl) (by rfl) (wants_none) (fun ρ w kn hs => o_move (kn _ _ (kc 31 97)))
  ·exact coreS _ _ _ _ _ _ _ (by rfl) (by rfl) (wc 32 98 32 (kc 32 98)) (fun ρ w kn hs => o_loadN (kn _ _ (F.old (by rfl) rfl)) (hs.get 0 rfl))
  ·exact core_pureAs _ (by rfl)
  ·exact coreS _ _ _ _ _ _ _ (by rfl) (by rfl) (wc 32 98 32 (kc 32 98)) (fun ρ w kn hs => o_eqlS (kn _ _ (kc 33 99)) (kn _ _ (kc 34 100)))
  ·exact coreS _ _ _ _ _ _ _ (by rfl) (by rfl) (wants_none) (fun ρ w kn hs => o_pick (b := true) (r := .bool true) (kn _ _ (kc 32 98)) (kn _ _ (kc 35 101)) (kn _ _ (known_const _)) rfl)
  ·exact coreS _ _ _ _ _ _ _ (by rfl) (by rfl) (wants_none) (fun ρ w kn hs => o_move (kn _ _ (kc 36 102)))
  ·exact coreS _ _ _ _ _ _ _ (by rfl) (by rfl) (wc 37 103 37 (kc 37 103)) (fun ρ w kn hs => o_loadG (kn _ _ (F.old (by rfl) rfl)) (hs.get 6 rfl))
  ·exact core_pureAs _ (by rfl)
  ·exact core_pureAs _ (by rfl)
  ·exact coreS _ _ _ _ _ _ _ (by rfl) (by rfl) (wants_none) (fun ρ w kn hs => o_pick (b := true) (r := .bool true) (kn _ _ (kc 37 103)) (kn _ _ (kc 40 106)) (kn _ _ (known_const _)) rfl)
 ·(repeat (refine all_cons ?_ ?_; rotate_left)); exact all_nil
  ·exact fun _ => coreG_call _ 23 _ _ [] _ _ _ _ _ _ _ (by rfl) Try.func23 (by kernel_rfl) (by rfl) (by rfl) (wants_none) .nil (alive8_any)
  ·exact sA
  ·exact sA
  ·exact sA
  ·exact sA
  ·exact sA
  ·exact sA
  ·exact sA
  ·exact sA
  ·exact sA
  ·exact sA
  ·exact sA
  ·exact sA
  ·exact sA
  ·exact sA
  ·exact sA
  ·exact sA
  ·exact sA
  ·exact sA
  ·exact sA
  ·exact fun _ => coreG_call _ 20 _ _ [.tmp 84, .tmp 85] _ _ _ _ _ _ _ (by rfl) Try.func20 (by kernel_rfl) (by rfl) (by rfl) (wc 17 83 17 (kc 17 83)) (.cons (kc 18 84) (.cons (kc 19 85) .nil)) (i3)
  ·exact sA
  ·exact sA
  ·exact sA
  ·exact sA
  ·exact fun _ => coreG_call _ 20 _ _ [.tmp 89, .tmp 90] _ _ _ _ _ _ _ (by rfl) Try.func20 (by kernel_rfl) (by rfl) (by rfl) (wc 22 88 22 (kc 22 88)) (.cons (kc 23 89) (.cons (kc 24 90) .nil)) (i4)
  ·exact sA
  ·exact sA
  ·exact sA
  ·exact sA
  ·exact fun _ => coreG_call _ 20 _ _ [.tmp 94, .tmp 95] _ _ _ _ _ _ _ (by rfl) Try.func20 (by kernel_rfl) (by rfl) (by rfl) (wc 27 93 27 (kc 27 93)) (.cons (kc 28 94) (.cons (kc 29 95) .nil)) (i5)
  ·exact sA
  ·exact sA
  ·exact sA
  ·exact fun _ => coreG_call _ 22 _ _ [.const (.int .u64 1)] _ _ _ _ _ _ _ (by rfl) Try.func22 (by kernel_rfl) (by rfl) (by rfl) (wc 32 98 32 (kc 32 98)) (.cons (known_const _) .nil) ((fun w => of8_any 1 (by decide) w))
  ·exact sA
  ·exact sA
  ·exact sA
  ·exact sA
  ·exact fun _ => coreG_call _ 22 _ _ [.const (.int .u64 1)] _ _ _ _ _ _ _ (by rfl) Try.func22 (by kernel_rfl) (by rfl) (by rfl) (wc 37 103 37 (kc 37 103)) (.cons (known_const _) .nil) ((fun w => of8_any 1 (by decide) w))
  ·exact fun _ => coreG_call _ 20 _ _ [.tmp 104, .tmp 105] _ _ _ _ _ _ _ (by rfl) Try.func20 (by kernel_rfl) (by rfl) (by rfl) (wc 37 103 37 (kc 37 103)) (.cons (kc 38 104) (.cons (kc 39 105) .nil)) (i6)
  ·exact sA
 intro gs rs a w hgs hrs F HM
 obtain rfl := nl0 rs hrs
 clear hrs
 obtain rfl := nl0 gs hgs
 clear hgs
 refine sx_assign (i := 42) (d := 6) (x := .tmp 107) (v := .bool true) F (HM) (by kernel_rfl) (by rfl) (by rfl) (F.ev rfl) fun a F => ?_
 refine sx_done (by kernel_rfl) ?_ _
 repeat (first | refine ex_then ?_ | refine ex_block ?_ | refine wp_seq ?_ | refine wp_block ?_ | refine wp_skip ?_)
 refine wp_ret ?_
 repeat (first | refine ex_thenR ?_ | refine ex_blockR ?_)
 exact sx_ret F HM (res_tmp F rfl (s := 6) rfl)

theorem closed_walk (P Q G H X Y N : Nat) (hP : P < 2 ^ 256) (hQ : Q < 2 ^ 256) (hX : X < 2 ^ 256) (hY : Y < 2 ^ 256) (hN : N < 2 ^ 256) (w : World) : Calls Try.prog 5 #[grp P Q G H, arr2 X Y, num N] w fun e w' => e = .returned (.bool true) ∧ Below w.heap.size w w' := by
 have I := fun A (hA : A < 2 ^ 256) b (h : inB P Q A = b) => (show ∀ w, Calls Try.prog 20 #[grp P Q G H, num A] w fun e w' => e = .returned (.bool b) ∧ Below w.heap.size w w' from fun w => h ▸ gin_any P Q G H A hP hQ hA w)
 by_cases hq : Q = 0
 ·exact closed_0 P Q G H X Y N hQ (decide_eq_true hq) w
 ·rcases hx : inB P Q X with _ | _
  ·exact closed_1 P Q G H X Y N hQ (decide_eq_false hq) (I X hX _ hx) w
  ·rcases hy : inB P Q Y with _ | _
   ·exact closed_2 P Q G H X Y N hQ (decide_eq_false hq) (I X hX _ hx) (I Y hY _ hy) w
   ·obtain ⟨⟨x0, xP⟩, xQ⟩ := inB_iff.mp hx
    obtain ⟨⟨y0, yP⟩, yQ⟩ := inB_iff.mp hy
    have hQ0 : 0 < Q := Nat.pos_of_ne_zero hq
    have h1 : 1 < P := by omega
    have lt : ∀ n, n % P < P := fun n => Nat.mod_lt _ (by omega)
    have hxy : (X * Y % P) ^ Q % P = 1 := by rw [← Nat.pow_mod, Nat.mul_pow, Nat.mul_mod, xQ, yQ, Nat.mul_one, Nat.mod_eq_of_lt h1]
    have hz : (X ^ N % P) ^ Q % P = 1 := by rw [← Nat.pow_mod, ← Nat.pow_mul, Nat.mul_comm, Nat.pow_mul, Nat.pow_mod, xQ, Nat.one_pow, Nat.mod_eq_of_lt h1]
    obtain ⟨V, hV⟩ : ∃ V, V = X ^ (Q - 1) % P := ⟨_, rfl⟩
    have hXV : X * V % P = 1 := by
     rw [hV, Nat.mul_mod, Nat.mod_mod, ← Nat.mul_mod, ← Nat.pow_succ', show (Q - 1).succ = Q by omega]; exact xQ
    have hVQ : V ^ Q % P = 1 := by rw [hV, ← Nat.pow_mod, ← Nat.pow_mul, Nat.mul_comm, Nat.pow_mul, Nat.pow_mod, xQ, Nat.one_pow, Nat.mod_eq_of_lt h1]
    have hVP : V < P := by rw [hV]; exact lt _
    have hV2 : V < 2 ^ 256 := Nat.lt_trans hVP hP
    have mV := in_may (in_of h1 hQ0 hVP hVQ)
    have c4 := gmul_yes P Q G H X V hP hX hV2 (in_may hx) mV
    rw [hXV] at c4
    exact closed_3 P Q G H X Y N (X * Y % P) V (X ^ N % P) hQ (decide_eq_false hq) (I X hX _ hx) (I Y hY _ hy) (gmul_yes P Q G H X Y hP hX hY (in_may hx) (in_may hy)) (ginv_yes P Q G H X V hP hX (in_may hx) hVP hXV) (gexp_yes P Q G H X N hP hX hN (in_may hx)) c4
     (I _ (Nat.lt_trans (lt _) hP) _ (in_of h1 hQ0 (lt _) hxy)) (I V hV2 _ (in_of h1 hQ0 hVP hVQ)) (I _ (Nat.lt_trans (lt _) hP) _ (in_of h1 hQ0 (lt _) hz)) (I 1 (by decide) _ (in_of h1 hQ0 h1 (by rw [Nat.one_pow, Nat.mod_eq_of_lt h1]))) w
end Go.Proofs.Ytbggihkigblnfaa
