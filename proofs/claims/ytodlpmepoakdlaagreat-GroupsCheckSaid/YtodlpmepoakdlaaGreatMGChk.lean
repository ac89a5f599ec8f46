import Derived.Deep.Cut
import Derived.Test.YtodlpmepoakdlaaGreatMAdd
import Derived.Test.YtodlpmepoakdlaaGreatMAlive7
import Derived.Test.YtodlpmepoakdlaaGreatMGIn
import Derived.Test.YtodlpmepoakdlaaGreatMSmall
import Derived.Test.YtodlpmepoakdlaaGreatMSxF
import Derived.Test.YtodlpmepoakdlaaGreatMWide
namespace Go.Proofs.YtodlpmepoakdlaaGreat
set_option maxRecDepth 100000
set_option maxHeartbeats 8000000
open Go.RowKit
set_option linter.unusedSimpArgs false
set_option linter.unusedVariables false
attribute [local go_sem ↓] Go.wp_at_zero Go.wp_at_succ

theorem generates_one (P Q G H A : Nat)
  (hA : A < 2 ^ 256)
  (h1 : decide (A = 1) = true)
  (w : World) : Calls Tryz.prog 29 #[grp P Q G H, num A] w fun e w' => e = .returned (.bool false) ∧ Below w.heap.size w w' := by
 refine Kk (args := [grp P Q G H, num A]) Tryz.func29 rfl Tryz.ntmps29 (by rfl) fun a F HM => ?_
 repeat first|refine et1 ?_|refine eb1 ?_|refine ws1 ?_|refine wb1 ?_|refine wk1 ?_
 refine wp_region_lit ?_
 refine Jw F HM (Ja rfl _) rfl (by rfl) (Wc (F.ev rfl)) fun a w gr F HM => ?_
 refine Jw F HM (Ja rfl _) rfl (by rfl) (Jab (F.ev rfl)) fun a w ga F HM => ?_
 refine lxv (.bool false) F (Jk rfl) fun a F => ?_
 refine Jj ?_
 repeat first|refine et1 ?_|refine eb1 ?_|refine ws1 ?_|refine wb1 ?_|refine wk1 ?_
 try simp only [List.append_eq, List.cons_append, List.nil_append]
 refine Kl [⟨0, 5, [], .val (num A), true⟩,
   ⟨1, 6, [0], .val (num 1), false⟩,
   ⟨2, 7, [0, 1], .val (.bool false), true⟩,
   ⟨3, 8, [2], .val (.bool false), true⟩,
   ⟨4, 9, [3], .val undef, true⟩,
   ⟨5, 10, [3, 4], .val undef, true⟩,
   ⟨6, 11, [3, 4, 5], .val undef, true⟩,
   ⟨7, 12, [3, 6], .val (.bool false), true⟩] 1 F HM (by kernel_rfl) (by rfl) (by rfl) ?_ ?_ ?_ ?_ ?_ ?_ ?_
 ·kernel_rfl
 ·exact of_decide_eq_true (by kernel_rfl)
 ·(repeat refine all_cons ⟨_, by rfl, by rfl⟩ ?_); exact Je
 ·kernel_rfl
 ·(repeat (refine all_cons ?_ ?_; rotate_left)); exact Je
  ·exact Jz _ _ _ _ _ _ _ (by rfl) (by rfl) (Jc) (fun ρ w kn hs => Jn (kn _ _ (F.old (by rfl) rfl)) (hs.get 0 rfl))
  ·exact Ji _ (by rfl)
  ·exact Jz _ _ _ _ _ _ _ (by rfl) (by rfl) (Jc) (fun ρ w kn hs => Vl hA (show 1 < 2 ^ 256 by decide) h1 (kn _ _ (kc 0 5)) (kn _ _ (kc 1 6)))
  ·exact Jz _ _ _ _ _ _ _ (by rfl) (by rfl) (Jc) (fun ρ w kn hs => Jg (kn _ _ (kc 2 7)))
  ·exact Jf _ _ _ _ _ _ (by rfl) (by rfl) (wc 3 8 3 (kc 3 8))
  ·exact Jf _ _ _ _ _ _ (by rfl) (by rfl) (wc 3 8 3 (kc 3 8))
  ·exact Jf _ _ _ _ _ _ (by rfl) (by rfl) (wc 3 8 3 (kc 3 8))
  ·exact Jz _ _ _ _ _ _ _ (by rfl) (by rfl) (Jc) (fun ρ w kn hs => Js (b := false) (r := .bool false) (kn _ _ (kc 3 8)) (kn _ _ (kc 6 11)) (kn _ _ (Jd _)) rfl)
 ·(repeat (refine all_cons ?_ ?_; rotate_left)); exact Je
  all_goals try exact sA
  ·exact fun _ => Jh _ 12 _ _ [.const (.int .u64 1)] _ _ _ _ _ _ _ (by rfl) Tryz.func12 (by kernel_rfl) (by rfl) (by rfl) (Jc) (.cons (Jd _) .nil) ((fun w => Vc 1 (by decide) w))
 intro gs rs a w hgs hrs F HM
 obtain rfl := nl0 rs hrs
 clear hrs
 obtain rfl := nl0 gs hgs
 clear hgs
 refine Kx (i := 8) (d := 4) (x := .tmp 12) (v := .bool false) F (HM) (by kernel_rfl) (by rfl) (by rfl) (F.ev rfl) fun a F => ?_
 refine Kn (by kernel_rfl) ?_ _
 repeat first|refine et1 ?_|refine eb1 ?_|refine ws1 ?_|refine wb1 ?_|refine wk1 ?_
 refine wp_ret ?_
 repeat (first | refine Jt ?_ | refine Jp ?_)
 exact Ki F HM (Kf F rfl (s := 4) rfl)

theorem generates_in (P Q G H A : Nat) (b : Bool)
  (hA : A < 2 ^ 256)
  (h1 : decide (A = 1) = false)
  (c1 : ∀ w, Calls Tryz.prog 52 #[grp P Q G H, num A] w fun e w' => e = .returned (.bool b) ∧ Below w.heap.size w w')
  (w : World) : Calls Tryz.prog 29 #[grp P Q G H, num A] w fun e w' => e = .returned (.bool b) ∧ Below w.heap.size w w' := by
 refine Kk (args := [grp P Q G H, num A]) Tryz.func29 rfl Tryz.ntmps29 (by rfl) fun a F HM => ?_
 repeat first|refine et1 ?_|refine eb1 ?_|refine ws1 ?_|refine wb1 ?_|refine wk1 ?_
 refine wp_region_lit ?_
 refine Jw F HM (Ja rfl _) rfl (by rfl) (Wc (F.ev rfl)) fun a w gr F HM => ?_
 refine Jw F HM (Ja rfl _) rfl (by rfl) (Jab (F.ev rfl)) fun a w ga F HM => ?_
 refine lxv (.bool false) F (Jk rfl) fun a F => ?_
 refine Jj ?_
 repeat first|refine et1 ?_|refine eb1 ?_|refine ws1 ?_|refine wb1 ?_|refine wk1 ?_
 try simp only [List.append_eq, List.cons_append, List.nil_append]
 refine Kl [⟨0, 5, [], .val (num A), true⟩,
   ⟨1, 6, [0], .val (num 1), false⟩,
   ⟨2, 7, [0, 1], .val (.bool true), true⟩,
   ⟨3, 8, [2], .val (.bool true), true⟩,
   ⟨4, 9, [3], .val (grp P Q G H), true⟩,
   ⟨5, 10, [3, 4], .val (num A), true⟩,
   ⟨6, 11, [3, 4, 5], .val (.bool b), false⟩,
   ⟨7, 12, [3, 6], .val (.bool b), true⟩] 1 F HM (by kernel_rfl) (by rfl) (by rfl) ?_ ?_ ?_ ?_ ?_ ?_ ?_
 ·kernel_rfl
 ·exact of_decide_eq_true (by kernel_rfl)
 ·(repeat refine all_cons ⟨_, by rfl, by rfl⟩ ?_); exact Je
 ·kernel_rfl
 ·(repeat (refine all_cons ?_ ?_; rotate_left)); exact Je
  ·exact Jz _ _ _ _ _ _ _ (by rfl) (by rfl) (Jc) (fun ρ w kn hs => Jn (kn _ _ (F.old (by rfl) rfl)) (hs.get 0 rfl))
  ·exact Ji _ (by rfl)
  ·exact Jz _ _ _ _ _ _ _ (by rfl) (by rfl) (Jc) (fun ρ w kn hs => Vl hA (show 1 < 2 ^ 256 by decide) h1 (kn _ _ (kc 0 5)) (kn _ _ (kc 1 6)))
  ·exact Jz _ _ _ _ _ _ _ (by rfl) (by rfl) (Jc) (fun ρ w kn hs => Jg (kn _ _ (kc 2 7)))
  ·exact Jz _ _ _ _ _ _ _ (by rfl) (by rfl) (wc 3 8 3 (kc 3 8)) (fun ρ w kn hs => Uj (kn _ _ (F.old (by rfl) rfl)) (hs.get 1 rfl))
  ·exact Jz _ _ _ _ _ _ _ (by rfl) (by rfl) (wc 3 8 3 (kc 3 8)) (fun ρ w kn hs => Jn (kn _ _ (F.old (by rfl) rfl)) (hs.get 0 rfl))
  ·exact Ji _ (by rfl)
  ·exact Jz _ _ _ _ _ _ _ (by rfl) (by rfl) (Jc) (fun ρ w kn hs => Js (b := true) (r := .bool b) (kn _ _ (kc 3 8)) (kn _ _ (kc 6 11)) (kn _ _ (Jd _)) rfl)
 ·(repeat (refine all_cons ?_ ?_; rotate_left)); exact Je
  all_goals try exact sA
  ·exact fun _ => Jh _ 12 _ _ [.const (.int .u64 1)] _ _ _ _ _ _ _ (by rfl) Tryz.func12 (by kernel_rfl) (by rfl) (by rfl) (Jc) (.cons (Jd _) .nil) ((fun w => Vc 1 (by decide) w))
  ·exact fun _ => Jh _ 52 _ _ [.tmp 9, .tmp 10] _ _ _ _ _ _ _ (by rfl) Tryz.func52 (by kernel_rfl) (by rfl) (by rfl) (wc 3 8 3 (kc 3 8)) (.cons (kc 4 9) (.cons (kc 5 10) .nil)) (c1)
 intro gs rs a w hgs hrs F HM
 obtain rfl := nl0 rs hrs
 clear hrs
 obtain rfl := nl0 gs hgs
 clear hgs
 refine Kx (i := 8) (d := 4) (x := .tmp 12) (v := .bool b) F (HM) (by kernel_rfl) (by rfl) (by rfl) (F.ev rfl) fun a F => ?_
 refine Kn (by kernel_rfl) ?_ _
 repeat first|refine et1 ?_|refine eb1 ?_|refine ws1 ?_|refine wb1 ?_|refine wk1 ?_
 refine wp_ret ?_
 repeat (first | refine Jt ?_ | refine Jp ?_)
 exact Ki F HM (Kf F rfl (s := 4) rfl)

def Jdj (P Q A : Nat) : Bool := decide (A ≠ 1) && inB P Q A
theorem generates_any (P Q G H A : Nat) (hP : P < 2 ^ 256) (hQ : Q < 2 ^ 256) (hA : A < 2 ^ 256) (w : World) : Calls Tryz.prog 29 #[grp P Q G H, num A] w fun e w' => e = .returned (.bool (Jdj P Q A)) ∧ Below w.heap.size w w' := by
 by_cases h : A = 1
 ·rw [show Jdj P Q A = false from by simp [Jdj, h]]
  exact generates_one P Q G H A hA (decide_eq_true h) w
 ·rw [show Jdj P Q A = inB P Q A from by simp [Jdj, h]]
  exact generates_in P Q G H A (inB P Q A) hA (decide_eq_false h) (gin_any P Q G H A hP hQ hA) w
theorem goes_no (q p S c D R : Nat)
  (c1 : ∀ w, Calls Tryz.prog 35 #[num p, num 1] w fun e w' => e = .returned (.tuple #[num S, .int .u64 (c : Nat)]) ∧ Below w.heap.size w w')
  (c2 : ∀ w, Calls Tryz.prog 49 #[num S, num q] w fun e w' => e = .returned (.tuple #[num D, num R, .int .i64 1]) ∧ Below w.heap.size w w')
  (w : World) : Calls Tryz.prog 24 #[num q, num p] w fun e w' => e = .returned (.bool false) ∧ Below w.heap.size w w' := by
 refine Kk (args := [num q, num p]) Tryz.func24 rfl Tryz.ntmps24 (by rfl) fun a F HM => ?_
 repeat first|refine et1 ?_|refine eb1 ?_|refine ws1 ?_|refine wb1 ?_|refine wk1 ?_
 refine wp_region_lit ?_
 refine Jw F HM (Ja rfl _) rfl (by rfl) (Jab (F.ev rfl)) fun a w gq F HM => ?_
 refine Jw F HM (Ja rfl _) rfl (by rfl) (Jab (F.ev rfl)) fun a w gp F HM => ?_
 refine lxv (.bool false) F (Jk rfl) fun a F => ?_
 refine Jj ?_
 repeat first|refine et1 ?_|refine eb1 ?_|refine ws1 ?_|refine wb1 ?_|refine wk1 ?_
 try simp only [List.append_eq, List.cons_append, List.nil_append]
 refine Kl [⟨0, 11, [], .val (num p), true⟩,
   ⟨6, 5, [], .cell 24 (ncs 0), false⟩,
   ⟨1, 12, [0], .val (num 1), false⟩,
   ⟨2, 13, [0, 2], .val (.tuple #[num S, .int .u64 (c : Nat)]), false⟩,
   ⟨3, 10, [3], .val (.tuple #[num S, .int .u64 (c : Nat)]), true⟩,
   ⟨4, 14, [4], .val (num S), true⟩,
   ⟨5, 15, [4, 5], .val (.int .u64 (c : Nat)), true⟩] 2 F HM (by kernel_rfl) (by rfl) (by rfl) ?_ ?_ ?_ ?_ ?_ ?_ ?_
 ·kernel_rfl
 ·exact of_decide_eq_true (by kernel_rfl)
 ·(repeat refine all_cons ⟨_, by rfl, by rfl⟩ ?_); exact Je
 ·kernel_rfl
 ·(repeat (refine all_cons ?_ ?_; rotate_left)); exact Je
  all_goals try exact Ji _ (by rfl)
  ·exact Jz _ _ _ _ _ _ _ (by rfl) (by rfl) (Jc) (fun ρ w kn hs => Jn (kn _ _ (F.old (by rfl) rfl)) (hs.get 0 rfl))
  ·exact Jz _ _ _ _ _ _ _ (by rfl) (by rfl) (Jc) (fun ρ w kn hs => Jg (kn _ _ (kc 3 13)))
  ·exact Jz _ _ _ _ _ _ _ (by rfl) (by rfl) (Jc) (fun ρ w kn hs => Jq (kn _ _ (kc 4 10)) rfl)
  ·exact Jz _ _ _ _ _ _ _ (by rfl) (by rfl) (Jc) (fun ρ w kn hs => Jq (kn _ _ (kc 4 10)) rfl)
 ·(repeat (refine all_cons ?_ ?_; rotate_left)); exact Je
  all_goals try exact sA
  ·exact fun _ => Xb _ _ _ _ _ _ _ _ (by rfl) (by rfl) (Nat.le_refl _) (fun ρ w => Jy)
  ·exact fun _ => Jh _ 12 _ _ [.const (.int .u64 1)] _ _ _ _ _ _ _ (by rfl) Tryz.func12 (by kernel_rfl) (by rfl) (by rfl) (Jc) (.cons (Jd _) .nil) ((fun w => Vc 1 (by decide) w))
  ·exact fun _ => Jh _ 35 _ _ [.tmp 11, .tmp 12] _ _ _ _ _ _ _ (by rfl) Tryz.func35 (by kernel_rfl) (by rfl) (by rfl) (Jc) (.cons (kc 0 11) (.cons (kc 2 12) .nil)) (c1)
 intro gs rs a w hgs hrs F HM
 obtain rfl := nl0 rs hrs
 clear hrs
 obtain ⟨gs, rfl⟩ := nl1 gs hgs
 clear hgs
 refine Ul (i := 7) HM (by kernel_rfl) (by rfl) rfl rfl (k := 0) rfl (Ju (F.ev rfl) (F.ev rfl) (HM.get 0 rfl)) (M2 := [(gs, 24, ncs S), (gp, 24, ncs p), (gq, 24, ncs q)]) rfl (fun _ h => h.tail (A := [(gs, 24, ncs S)])) fun w HM => ?_
 refine Kx (i := 8) (d := 6) (x := .tmp 15) (v := .int .u64 (c : Nat)) F (HM.tail (A := [(gs, 24, ncs S)])) (by kernel_rfl) (by rfl) (by rfl) (F.ev rfl) fun a F => ?_
 refine Kn (by kernel_rfl) ?_ _
 repeat first|refine et1 ?_|refine eb1 ?_|refine ws1 ?_|refine wb1 ?_|refine wk1 ?_
 refine wp_region_lit ?_
 refine lxv (num S) F (Jn (F.ev rfl) (HM.get 0 rfl)) fun a F => ?_
 refine lxv (num q) F (Jn (F.ev rfl) (HM.get 2 rfl)) fun a F => ?_
 refine Jr F (Ja rfl _) rfl (by rfl) (Jl Tryz.func49 (by kernel_rfl) (by rfl) (.cons (F.ev rfl) (.cons (F.ev rfl) .nil)) _) (c2 _) fun a w z F => ?_
 replace HM := HM.on z
 clear z
 refine lxv (.tuple #[num D, num R, .int .i64 1]) F (Jg (F.ev rfl)) fun a F => ?_
 refine lxv (num D) F (Jq (F.ev rfl) rfl) fun a F => ?_
 refine lxv (num R) F (Jq (F.ev rfl) rfl) fun a F => ?_
 refine lxv (.int .i64 1) F (Jq (F.ev rfl) rfl) fun a F => ?_
 refine Jw F HM (Ja rfl _) rfl (by rfl) (Jy) fun a w gd F HM => ?_
 refine Jw F HM (Ja rfl _) rfl (by rfl) (Jy) fun a w gu F HM => ?_
 refine Kd F HM (Ja rfl _) rfl (k := 1) rfl (Ju (F.ev rfl) (F.ev rfl) (HM.get 1 rfl)) (M2 := [(gu, 24, ncs 0), (gd, 24, ncs D), (gs, 24, ncs S), (gp, 24, ncs p), (gq, 24, ncs q)]) rfl fun w HM => ?_
 refine Kd F HM (Ja rfl _) rfl (k := 0) rfl (Ju (F.ev rfl) (F.ev rfl) (HM.get 0 rfl)) (M2 := [(gu, 24, ncs R), (gd, 24, ncs D), (gs, 24, ncs S), (gp, 24, ncs p), (gq, 24, ncs q)]) rfl fun w HM => ?_
 refine lxv (.int .i64 1) F (Jk (F.ev rfl)) fun a F => ?_
 refine Jj ?_
 repeat first|refine et1 ?_|refine eb1 ?_|refine ws1 ?_|refine wb1 ?_|refine wk1 ?_
 refine wp_region_lit ?_
 refine lxv (.int .i64 1) F (Jg (F.ev rfl)) fun a F => ?_
 refine lxv (.bool false) F (Kh (u := .int .i64 1) (v := .int .i64 0) (fun ρ hx hy => by simp only [execOp, hx, hy]; simp [go_sem]) (F.ev rfl) rfl) fun a F => ?_
 refine lxv (.bool false) F (Jg (F.ev rfl)) fun a F => ?_
 refine lxp 25 false F fun a F => ?_
 refine lxp 25 false F fun a F => ?_
 refine lxp 25 false F fun a F => ?_
 refine lxv (.bool false) F (Js (b := false) (r := .bool false) (F.ev rfl) (F.ev rfl) rfl rfl) fun a F => ?_
 refine lxv (.bool false) F (Jk (F.ev rfl)) fun a F => ?_
 refine Jj ?_
 repeat first|refine et1 ?_|refine eb1 ?_|refine ws1 ?_|refine wb1 ?_|refine wk1 ?_
 refine wp_ret ?_
 repeat (first | refine Jt ?_ | refine Jp ?_)
 exact Ki F HM (Kf F rfl (s := 4) rfl)

theorem goes_true (q p S c D R : Nat)
  (c1 : ∀ w, Calls Tryz.prog 35 #[num p, num 1] w fun e w' => e = .returned (.tuple #[num S, .int .u64 (c : Nat)]) ∧ Below w.heap.size w w')
  (c2 : ∀ w, Calls Tryz.prog 49 #[num S, num q] w fun e w' => e = .returned (.tuple #[num D, num R, .int .i64 0]) ∧ Below w.heap.size w w')
  (hR : R < 2 ^ 256)
  (h0 : decide (R = 0) = true)
  (w : World) : Calls Tryz.prog 24 #[num q, num p] w fun e w' => e = .returned (.bool true) ∧ Below w.heap.size w w' := by
 refine Kk (args := [num q, num p]) Tryz.func24 rfl Tryz.ntmps24 (by rfl) fun a F HM => ?_
 repeat first|refine et1 ?_|refine eb1 ?_|refine ws1 ?_|refine wb1 ?_|refine wk1 ?_
 refine wp_region_lit ?_
 refine Jw F HM (Ja rfl _) rfl (by rfl) (Jab (F.ev rfl)) fun a w gq F HM => ?_
 refine Jw F HM (Ja rfl _) rfl (by rfl) (Jab (F.ev rfl)) fun a w gp F HM => ?_
 refine lxv (.bool false) F (Jk rfl) fun a F => ?_
 refine Jj ?_
 repeat first|refine et1 ?_|refine eb1 ?_|refine ws1 ?_|refine wb1 ?_|refine wk1 ?_
 try simp only [List.append_eq, List.cons_append, List.nil_append]
 refine Kl [⟨0, 11, [], .val (num p), true⟩,
   ⟨6, 5, [], .cell 24 (ncs 0), false⟩,
   ⟨1, 12, [0], .val (num 1), false⟩,
   ⟨2, 13, [0, 2], .val (.tuple #[num S, .int .u64 (c : Nat)]), false⟩,
   ⟨3, 10, [3], .val (.tuple #[num S, .int .u64 (c : Nat)]), true⟩,
   ⟨4, 14, [4], .val (num S), true⟩,
   ⟨5, 15, [4, 5], .val (.int .u64 (c : Nat)), true⟩] 2 F HM (by kernel_rfl) (by rfl) (by rfl) ?_ ?_ ?_ ?_ ?_ ?_ ?_
 ·kernel_rfl
 ·exact of_decide_eq_true (by kernel_rfl)
 ·(repeat refine all_cons ⟨_, by rfl, by rfl⟩ ?_); exact Je
 ·kernel_rfl
 ·(repeat (refine all_cons ?_ ?_; rotate_left)); exact Je
  all_goals try exact Ji _ (by rfl)
  ·exact Jz _ _ _ _ _ _ _ (by rfl) (by rfl) (Jc) (fun ρ w kn hs => Jn (kn _ _ (F.old (by rfl) rfl)) (hs.get 0 rfl))
  ·exact Jz _ _ _ _ _ _ _ (by rfl) (by rfl) (Jc) (fun ρ w kn hs => Jg (kn _ _ (kc 3 13)))
  ·exact Jz _ _ _ _ _ _ _ (by rfl) (by rfl) (Jc) (fun ρ w kn hs => Jq (kn _ _ (kc 4 10)) rfl)
  ·exact Jz _ _ _ _ _ _ _ (by rfl) (by rfl) (Jc) (fun ρ w kn hs => Jq (kn _ _ (kc 4 10)) rfl)
 ·(repeat (refine all_cons ?_ ?_; rotate_left)); exact Je
  all_goals try exact sA
  ·exact fun _ => Xb _ _ _ _ _ _ _ _ (by rfl) (by rfl) (Nat.le_refl _) (fun ρ w => Jy)
  ·exact fun _ => Jh _ 12 _ _ [.const (.int .u64 1)] _ _ _ _ _ _ _ (by rfl) Tryz.func12 (by kernel_rfl) (by rfl) (by rfl) (Jc) (.cons (Jd _) .nil) ((fun w => Vc 1 (by decide) w))
  ·exact fun _ => Jh _ 35 _ _ [.tmp 11, .tmp 12] _ _ _ _ _ _ _ (by rfl) Tryz.func35 (by kernel_rfl) (by rfl) (by rfl) (Jc) (.cons (kc 0 11) (.cons (kc 2 12) .nil)) (c1)
 intro gs rs a w hgs hrs F HM
 obtain rfl := nl0 rs hrs
 clear hrs
 obtain ⟨gs, rfl⟩ := nl1 gs hgs
 clear hgs
 refine Ul (i := 7) HM (by kernel_rfl) (by rfl) rfl rfl (k := 0) rfl (Ju (F.ev rfl) (F.ev rfl) (HM.get 0 rfl)) (M2 := [(gs, 24, ncs S), (gp, 24, ncs p), (gq, 24, ncs q)]) rfl (fun _ h => h.tail (A := [(gs, 24, ncs S)])) fun w HM => ?_
 refine Kx (i := 8) (d := 6) (x := .tmp 15) (v := .int .u64 (c : Nat)) F (HM.tail (A := [(gs, 24, ncs S)])) (by kernel_rfl) (by rfl) (by rfl) (F.ev rfl) fun a F => ?_
 refine Kn (by kernel_rfl) ?_ _
 repeat first|refine et1 ?_|refine eb1 ?_|refine ws1 ?_|refine wb1 ?_|refine wk1 ?_
 refine wp_region_lit ?_
 refine lxv (num S) F (Jn (F.ev rfl) (HM.get 0 rfl)) fun a F => ?_
 refine lxv (num q) F (Jn (F.ev rfl) (HM.get 2 rfl)) fun a F => ?_
 refine Jr F (Ja rfl _) rfl (by rfl) (Jl Tryz.func49 (by kernel_rfl) (by rfl) (.cons (F.ev rfl) (.cons (F.ev rfl) .nil)) _) (c2 _) fun a w z F => ?_
 replace HM := HM.on z
 clear z
 refine lxv (.tuple #[num D, num R, .int .i64 0]) F (Jg (F.ev rfl)) fun a F => ?_
 refine lxv (num D) F (Jq (F.ev rfl) rfl) fun a F => ?_
 refine lxv (num R) F (Jq (F.ev rfl) rfl) fun a F => ?_
 refine lxv (.int .i64 0) F (Jq (F.ev rfl) rfl) fun a F => ?_
 refine Jw F HM (Ja rfl _) rfl (by rfl) (Jy) fun a w gd F HM => ?_
 refine Jw F HM (Ja rfl _) rfl (by rfl) (Jy) fun a w gu F HM => ?_
 refine Kd F HM (Ja rfl _) rfl (k := 1) rfl (Ju (F.ev rfl) (F.ev rfl) (HM.get 1 rfl)) (M2 := [(gu, 24, ncs 0), (gd, 24, ncs D), (gs, 24, ncs S), (gp, 24, ncs p), (gq, 24, ncs q)]) rfl fun w HM => ?_
 refine Kd F HM (Ja rfl _) rfl (k := 0) rfl (Ju (F.ev rfl) (F.ev rfl) (HM.get 0 rfl)) (M2 := [(gu, 24, ncs R), (gd, 24, ncs D), (gs, 24, ncs S), (gp, 24, ncs p), (gq, 24, ncs q)]) rfl fun w HM => ?_
 refine lxv (.int .i64 0) F (Jk (F.ev rfl)) fun a F => ?_
 refine Jj ?_
 repeat first|refine et1 ?_|refine eb1 ?_|refine ws1 ?_|refine wb1 ?_|refine wk1 ?_
 refine wp_region_lit ?_
 refine lxv (.int .i64 0) F (Jg (F.ev rfl)) fun a F => ?_
 refine lxv (.bool true) F (Kh (u := .int .i64 0) (v := .int .i64 0) (fun ρ hx hy => by simp only [execOp, hx, hy]; simp [go_sem]) (F.ev rfl) rfl) fun a F => ?_
 refine lxv (.bool true) F (Jg (F.ev rfl)) fun a F => ?_
 refine lxw 25 true (num R) F (Jn (F.ev rfl) (HM.get 0 rfl)) fun a F => ?_
 refine lxw 25 true (num 0) F (Kq) fun a F => ?_
 refine lxw 25 true (.bool true) F (Vg hR (show 0 < 2 ^ 256 by decide) h0 (F.ev rfl) (F.ev rfl)) fun a F => ?_
 refine lxv (.bool true) F (Js (b := true) (r := .bool true) (F.ev rfl) (F.ev rfl) rfl rfl) fun a F => ?_
 refine lxv (.bool true) F (Jk (F.ev rfl)) fun a F => ?_
 refine Jj ?_
 repeat first|refine et1 ?_|refine eb1 ?_|refine ws1 ?_|refine wb1 ?_|refine wk1 ?_
 refine wp_ret ?_
 repeat (first | refine Jt ?_ | refine Jp ?_)
 exact Ki F HM (Kf F rfl (s := 4) rfl)

theorem goes_false (q p S c D R : Nat)
  (c1 : ∀ w, Calls Tryz.prog 35 #[num p, num 1] w fun e w' => e = .returned (.tuple #[num S, .int .u64 (c : Nat)]) ∧ Below w.heap.size w w')
  (c2 : ∀ w, Calls Tryz.prog 49 #[num S, num q] w fun e w' => e = .returned (.tuple #[num D, num R, .int .i64 0]) ∧ Below w.heap.size w w')
  (hR : R < 2 ^ 256)
  (h0 : decide (R = 0) = false)
  (w : World) : Calls Tryz.prog 24 #[num q, num p] w fun e w' => e = .returned (.bool false) ∧ Below w.heap.size w w' := by
 refine Kk (args := [num q, num p]) Tryz.func24 rfl Tryz.ntmps24 (by rfl) fun a F HM => ?_
 repeat first|refine et1 ?_|refine eb1 ?_|refine ws1 ?_|refine wb1 ?_|refine wk1 ?_
 refine wp_region_lit ?_
 refine Jw F HM (Ja rfl _) rfl (by rfl) (Jab (F.ev rfl)) fun a w gq F HM => ?_
 refine Jw F HM (Ja rfl _) rfl (by rfl) (Jab (F.ev rfl)) fun a w gp F HM => ?_
 refine lxv (.bool false) F (Jk rfl) fun a F => ?_
 refine Jj ?_
 repeat first|refine et1 ?_|refine eb1 ?_|refine ws1 ?_|refine wb1 ?_|refine wk1 ?_
 try simp only [List.append_eq, List.cons_append, List.nil_append]
 refine Kl [⟨0, 11, [], .val (num p), true⟩,
   ⟨6, 5, [], .cell 24 (ncs 0), false⟩,
   ⟨1, 12, [0], .val (num 1), false⟩,
   ⟨2, 13, [0, 2], .val (.tuple #[num S, .int .u64 (c : Nat)]), false⟩,
   ⟨3, 10, [3], .val (.tuple #[num S, .int .u64 (c : Nat)]), true⟩,
   ⟨4, 14, [4], .val (num S), true⟩,
   ⟨5, 15, [4, 5], .val (.int .u64 (c : Nat)), true⟩] 2 F HM (by kernel_rfl) (by rfl) (by rfl) ?_ ?_ ?_ ?_ ?_ ?_ ?_
 ·kernel_rfl
 ·exact of_decide_eq_true (by kernel_rfl)
 ·(repeat refine all_cons ⟨_, by rfl, by rfl⟩ ?_); exact Je
 ·kernel_rfl
 ·(repeat (refine all_cons ?_ ?_; rotate_left)); exact Je
  all_goals try exact Ji _ (by rfl)
  ·exact Jz _ _ _ _ _ _ _ (by rfl) (by rfl) (Jc) (fun ρ w kn hs => Jn (kn _ _ (F.old (by rfl) rfl)) (hs.get 0 rfl))
  ·exact Jz _ _ _ _ _ _ _ (by rfl) (by rfl) (Jc) (fun ρ w kn hs => Jg (kn _ _ (kc 3 13)))
  ·exact Jz _ _ _ _ _ _ _ (by rfl) (by rfl) (Jc) (fun ρ w kn hs => Jq (kn _ _ (kc 4 10)) rfl)
  ·exact Jz _ _ _ _ _ _ _ (by rfl) (by rfl) (Jc) (fun ρ w kn hs => Jq (kn _ _ (kc 4 10)) rfl)
 ·(repeat (refine all_cons ?_ ?_; rotate_left)); exact Je
  all_goals try exact sA
  ·exact fun _ => Xb _ _ _ _ _ _ _ _ (by rfl) (by rfl) (Nat.le_refl _) (fun ρ w => Jy)
  ·exact fun _ => Jh _ 12 _ _ [.const (.int .u64 1)] _ _ _ _ _ _ _ (by rfl) Tryz.func12 (by kernel_rfl) (by rfl) (by rfl) (Jc) (.cons (Jd _) .nil) ((fun w => Vc 1 (by decide) w))
  ·exact fun _ => Jh _ 35 _ _ [.tmp 11, .tmp 12] _ _ _ _ _ _ _ (by rfl) Tryz.func35 (by kernel_rfl) (by rfl) (by rfl) (Jc) (.cons (kc 0 11) (.cons (kc 2 12) .nil)) (c1)
 intro gs rs a w hgs hrs F HM
 obtain rfl := nl0 rs hrs
 clear hrs
 obtain ⟨gs, rfl⟩ := nl1 gs hgs
 clear hgs
 refine Ul (i := 7) HM (by kernel_rfl) (by rfl) rfl rfl (k := 0) rfl (Ju (F.ev rfl) (F.ev rfl) (HM.get 0 rfl)) (M2 := [(gs, 24, ncs S), (gp, 24, ncs p), (gq, 24, ncs q)]) rfl (fun _ h => h.tail (A := [(gs, 24, ncs S)])) fun w HM => ?_
 refine Kx (i := 8) (d := 6) (x := .tmp 15) (v := .int .u64 (c : Nat)) F (HM.tail (A := [(gs, 24, ncs S)])) (by kernel_rfl) (by rfl) (by rfl) (F.ev rfl) fun a F => ?_
 refine Kn (by kernel_rfl) ?_ _
 repeat first|refine et1 ?_|refine eb1 ?_|refine ws1 ?_|refine wb1 ?_|refine wk1 ?_
 refine wp_region_lit ?_
 refine lxv (num S) F (Jn (F.ev rfl) (HM.get 0 rfl)) fun a F => ?_
 refine lxv (num q) F (Jn (F.ev rfl) (HM.get 2 rfl)) fun a F => ?_
 refine Jr F (Ja rfl _) rfl (by rfl) (Jl Tryz.func49 (by kernel_rfl) (by rfl) (.cons (F.ev rfl) (.cons (F.ev rfl) .nil)) _) (c2 _) fun a w z F => ?_
 replace HM := HM.on z
 clear z
 refine lxv (.tuple #[num D, num R, .int .i64 0]) F (Jg (F.ev rfl)) fun a F => ?_
 refine lxv (num D) F (Jq (F.ev rfl) rfl) fun a F => ?_
 refine lxv (num R) F (Jq (F.ev rfl) rfl) fun a F => ?_
 refine lxv (.int .i64 0) F (Jq (F.ev rfl) rfl) fun a F => ?_
 refine Jw F HM (Ja rfl _) rfl (by rfl) (Jy) fun a w gd F HM => ?_
 refine Jw F HM (Ja rfl _) rfl (by rfl) (Jy) fun a w gu F HM => ?_
 refine Kd F HM (Ja rfl _) rfl (k := 1) rfl (Ju (F.ev rfl) (F.ev rfl) (HM.get 1 rfl)) (M2 := [(gu, 24, ncs 0), (gd, 24, ncs D), (gs, 24, ncs S), (gp, 24, ncs p), (gq, 24, ncs q)]) rfl fun w HM => ?_
 refine Kd F HM (Ja rfl _) rfl (k := 0) rfl (Ju (F.ev rfl) (F.ev rfl) (HM.get 0 rfl)) (M2 := [(gu, 24, ncs R), (gd, 24, ncs D), (gs, 24, ncs S), (gp, 24, ncs p), (gq, 24, ncs q)]) rfl fun w HM => ?_
 refine lxv (.int .i64 0) F (Jk (F.ev rfl)) fun a F => ?_
 refine Jj ?_
 repeat first|refine et1 ?_|refine eb1 ?_|refine ws1 ?_|refine wb1 ?_|refine wk1 ?_
 refine wp_region_lit ?_
 refine lxv (.int .i64 0) F (Jg (F.ev rfl)) fun a F => ?_
 refine lxv (.bool true) F (Kh (u := .int .i64 0) (v := .int .i64 0) (fun ρ hx hy => by simp only [execOp, hx, hy]; simp [go_sem]) (F.ev rfl) rfl) fun a F => ?_
 refine lxv (.bool true) F (Jg (F.ev rfl)) fun a F => ?_
 refine lxw 25 true (num R) F (Jn (F.ev rfl) (HM.get 0 rfl)) fun a F => ?_
 refine lxw 25 true (num 0) F (Kq) fun a F => ?_
 refine lxw 25 true (.bool false) F (Vg hR (show 0 < 2 ^ 256 by decide) h0 (F.ev rfl) (F.ev rfl)) fun a F => ?_
 refine lxv (.bool false) F (Js (b := true) (r := .bool false) (F.ev rfl) (F.ev rfl) rfl rfl) fun a F => ?_
 refine lxv (.bool false) F (Jk (F.ev rfl)) fun a F => ?_
 refine Jj ?_
 repeat first|refine et1 ?_|refine eb1 ?_|refine ws1 ?_|refine wb1 ?_|refine wk1 ?_
 refine wp_ret ?_
 repeat (first | refine Jt ?_ | refine Jp ?_)
 exact Ki F HM (Kf F rfl (s := 4) rfl)

def Jer (p : Nat) : Nat := if p = 0 then 2 ^ 256 - 1 else p - 1
def Jae (q p : Nat) : Bool := decide (q ≠ 0) && decide (Jer p % q = 0)
theorem goes_any (q p : Nat) (hq : q < 2 ^ 256) (hp : p < 2 ^ 256) (w : World) : Calls Tryz.prog 24 #[num q, num p] w fun e w' => e = .returned (.bool (Jae q p)) ∧ Below w.heap.size w w' := by
 obtain ⟨S, c, hS, hc, he, C1⟩ := Jaj p 1 hp (by decide)
 have hSv : Jer p = S := by unfold Jer; split <;> omega
 by_cases hq0 : q = 0
 ·rw [show Jae q p = false from by simp [Jae, hq0]]
  subst hq0
  exact goes_no 0 p S c 0 0 C1 (fun w => div_zero S w) w
 ·obtain ⟨D, R, hD, hR, hdr, C2⟩ := Jdk S q hS hq hq0
  have hRv : S % q = R := by rw [hdr, Nat.mul_comm, Nat.mul_add_mod, Nat.mod_eq_of_lt hR]
  have hR2 : R < 2 ^ 256 := Nat.lt_trans hR hq
  by_cases h0 : R = 0
  ·rw [show Jae q p = true from by simp [Jae, hq0, hSv, hRv, h0]]
   exact goes_true q p S c D R C1 C2 hR2 (decide_eq_true h0) w
  ·rw [show Jae q p = false from by simp [Jae, hSv, hRv, h0]]
   exact goes_false q p S c D R C1 C2 hR2 (decide_eq_false h0) w
theorem ck1_no (P Q G H N Y M Z gg gp gq : Nat) (sp sq : Value) (w : World)
  (hg : At w gg 26 (gcs P Q G H))
  (hp : At w gp 29 (rcs N Y sp))
  (hq : At w gq 29 (rcs M Z sq))
  (hN : N < 2 ^ 256)
  (hM : M < 2 ^ 256)
  (hP : P < 2 ^ 256)
  (hQ : Q < 2 ^ 256)
  (e1 : decide (N = P) = false)
  : Calls Tryz.prog 22 #[.pointer (some ⟨gp, 0, none⟩), .pointer (some ⟨gg, 0, none⟩), .pointer (some ⟨gq, 0, none⟩)] w fun e w' => e = .returned (.bool false) ∧ Below w.heap.size w w' := by
 refine Kk (args := [.pointer (some ⟨gp, 0, none⟩), .pointer (some ⟨gg, 0, none⟩), .pointer (some ⟨gq, 0, none⟩)]) Tryz.func22 rfl Tryz.ntmps22 (by rfl) fun a F HM => ?_
 repeat first|refine et1 ?_|refine eb1 ?_|refine ws1 ?_|refine wb1 ?_|refine wk1 ?_
 refine wp_region_lit ?_
 refine lxv (.bool false) F (Jk rfl) fun a F => ?_
 refine Jj ?_
 repeat first|refine et1 ?_|refine eb1 ?_|refine ws1 ?_|refine wb1 ?_|refine wk1 ?_
 refine wp_region_lit ?_
 refine lxv (.pointer (some ⟨gp, 0, none⟩)) F (Kj (F.ev rfl)) fun a F => ?_
 refine lxv (num N) F (Ks (F.ev rfl) (hp.on HM.bel)) fun a F => ?_
 refine lxv (.pointer (some ⟨gg, 0, none⟩)) F (Ky (F.ev rfl)) fun a F => ?_
 refine lxv (num P) F (Uf (F.ev rfl) (hg.on HM.bel)) fun a F => ?_
 refine lxv (.bool false) F (Vg hN hP e1 (F.ev rfl) (F.ev rfl)) fun a F => ?_
 refine lxv (.bool false) F (Jg (F.ev rfl)) fun a F => ?_
 refine lxp 9 false F fun a F => ?_
 refine lxp 9 false F fun a F => ?_
 refine lxp 9 false F fun a F => ?_
 refine lxp 9 false F fun a F => ?_
 refine lxp 9 false F fun a F => ?_
 refine lxv (.bool false) F (Js (b := false) (r := .bool false) (F.ev rfl) (F.ev rfl) rfl rfl) fun a F => ?_
 refine lxv (.bool false) F (Jk (F.ev rfl)) fun a F => ?_
 refine Jj ?_
 repeat first|refine et1 ?_|refine eb1 ?_|refine ws1 ?_|refine wb1 ?_|refine wk1 ?_
 refine wp_ret ?_
 repeat (first | refine Jt ?_ | refine Jp ?_)
 exact Ki F HM (Kf F rfl (s := 3) rfl)

theorem ck1_a (P Q G H N Y M Z gg gp gq : Nat) (sp sq : Value) (w : World)
  (hg : At w gg 26 (gcs P Q G H))
  (hp : At w gp 29 (rcs N Y sp))
  (hq : At w gq 29 (rcs M Z sq))
  (hN : N < 2 ^ 256)
  (hM : M < 2 ^ 256)
  (hP : P < 2 ^ 256)
  (hQ : Q < 2 ^ 256)
  (e1 : decide (N = P) = true)
  (e2 : decide (M = Q) = false)
  : Calls Tryz.prog 22 #[.pointer (some ⟨gp, 0, none⟩), .pointer (some ⟨gg, 0, none⟩), .pointer (some ⟨gq, 0, none⟩)] w fun e w' => e = .returned (.bool false) ∧ Below w.heap.size w w' := by
 refine Kk (args := [.pointer (some ⟨gp, 0, none⟩), .pointer (some ⟨gg, 0, none⟩), .pointer (some ⟨gq, 0, none⟩)]) Tryz.func22 rfl Tryz.ntmps22 (by rfl) fun a F HM => ?_
 repeat first|refine et1 ?_|refine eb1 ?_|refine ws1 ?_|refine wb1 ?_|refine wk1 ?_
 refine wp_region_lit ?_
 refine lxv (.bool false) F (Jk rfl) fun a F => ?_
 refine Jj ?_
 repeat first|refine et1 ?_|refine eb1 ?_|refine ws1 ?_|refine wb1 ?_|refine wk1 ?_
 refine wp_region_lit ?_
 refine lxv (.pointer (some ⟨gp, 0, none⟩)) F (Kj (F.ev rfl)) fun a F => ?_
 refine lxv (num N) F (Ks (F.ev rfl) (hp.on HM.bel)) fun a F => ?_
 refine lxv (.pointer (some ⟨gg, 0, none⟩)) F (Ky (F.ev rfl)) fun a F => ?_
 refine lxv (num P) F (Uf (F.ev rfl) (hg.on HM.bel)) fun a F => ?_
 refine lxv (.bool true) F (Vg hN hP e1 (F.ev rfl) (F.ev rfl)) fun a F => ?_
 refine lxv (.bool true) F (Jg (F.ev rfl)) fun a F => ?_
 refine lxw 9 true (.pointer (some ⟨gq, 0, none⟩)) F (Kj (F.ev rfl)) fun a F => ?_
 refine lxw 9 true (num M) F (Ks (F.ev rfl) (hq.on HM.bel)) fun a F => ?_
 refine lxw 9 true (.pointer (some ⟨gg, 4, none⟩)) F (Wr (F.ev rfl)) fun a F => ?_
 refine lxw 9 true (num Q) F (Xr (F.ev rfl) (hg.on HM.bel)) fun a F => ?_
 refine lxw 9 true (.bool false) F (Vg hM hQ e2 (F.ev rfl) (F.ev rfl)) fun a F => ?_
 refine lxv (.bool false) F (Js (b := true) (r := .bool false) (F.ev rfl) (F.ev rfl) rfl rfl) fun a F => ?_
 refine lxv (.bool false) F (Jk (F.ev rfl)) fun a F => ?_
 refine Jj ?_
 repeat first|refine et1 ?_|refine eb1 ?_|refine ws1 ?_|refine wb1 ?_|refine wk1 ?_
 refine wp_ret ?_
 repeat (first | refine Jt ?_ | refine Jp ?_)
 exact Ki F HM (Kf F rfl (s := 3) rfl)

theorem ck1_b (P Q G H N Y M Z gg gp gq : Nat) (sp sq : Value) (w : World)
  (hg : At w gg 26 (gcs P Q G H))
  (hp : At w gp 29 (rcs N Y sp))
  (hq : At w gq 29 (rcs M Z sq))
  (hN : N < 2 ^ 256)
  (hM : M < 2 ^ 256)
  (hP : P < 2 ^ 256)
  (hQ : Q < 2 ^ 256)
  (e1 : decide (N = P) = true)
  (e2 : decide (M = Q) = true)
  : Calls Tryz.prog 22 #[.pointer (some ⟨gp, 0, none⟩), .pointer (some ⟨gg, 0, none⟩), .pointer (some ⟨gq, 0, none⟩)] w fun e w' => e = .returned (.bool true) ∧ Below w.heap.size w w' := by
 refine Kk (args := [.pointer (some ⟨gp, 0, none⟩), .pointer (some ⟨gg, 0, none⟩), .pointer (some ⟨gq, 0, none⟩)]) Tryz.func22 rfl Tryz.ntmps22 (by rfl) fun a F HM => ?_
 repeat first|refine et1 ?_|refine eb1 ?_|refine ws1 ?_|refine wb1 ?_|refine wk1 ?_
 refine wp_region_lit ?_
 refine lxv (.bool false) F (Jk rfl) fun a F => ?_
 refine Jj ?_
 repeat first|refine et1 ?_|refine eb1 ?_|refine ws1 ?_|refine wb1 ?_|refine wk1 ?_
 refine wp_region_lit ?_
 refine lxv (.pointer (some ⟨gp, 0, none⟩)) F (Kj (F.ev rfl)) fun a F => ?_
 refine lxv (num N) F (Ks (F.ev rfl) (hp.on HM.bel)) fun a F => ?_
 refine lxv (.pointer (some ⟨gg, 0, none⟩)) F (Ky (F.ev rfl)) fun a F => ?_
 refine lxv (num P) F (Uf (F.ev rfl) (hg.on HM.bel)) fun a F => ?_
 refine lxv (.bool true) F (Vg hN hP e1 (F.ev rfl) (F.ev rfl)) fun a F => ?_
 refine lxv (.bool true) F (Jg (F.ev rfl)) fun a F => ?_
 refine lxw 9 true (.pointer (some ⟨gq, 0, none⟩)) F (Kj (F.ev rfl)) fun a F => ?_
 refine lxw 9 true (num M) F (Ks (F.ev rfl) (hq.on HM.bel)) fun a F => ?_
 refine lxw 9 true (.pointer (some ⟨gg, 4, none⟩)) F (Wr (F.ev rfl)) fun a F => ?_
 refine lxw 9 true (num Q) F (Xr (F.ev rfl) (hg.on HM.bel)) fun a F => ?_
 refine lxw 9 true (.bool true) F (Vg hM hQ e2 (F.ev rfl) (F.ev rfl)) fun a F => ?_
 refine lxv (.bool true) F (Js (b := true) (r := .bool true) (F.ev rfl) (F.ev rfl) rfl rfl) fun a F => ?_
 refine lxv (.bool true) F (Jk (F.ev rfl)) fun a F => ?_
 refine Jj ?_
 repeat first|refine et1 ?_|refine eb1 ?_|refine ws1 ?_|refine wb1 ?_|refine wk1 ?_
 refine wp_ret ?_
 repeat (first | refine Jt ?_ | refine Jp ?_)
 exact Ki F HM (Kf F rfl (s := 3) rfl)

theorem ck1_any (P Q G H N Y M Z gg gp gq : Nat) (sp sq : Value) (w : World) (hg : At w gg 26 (gcs P Q G H)) (hp : At w gp 29 (rcs N Y sp)) (hq : At w gq 29 (rcs M Z sq)) (hN : N < 2 ^ 256) (hM : M < 2 ^ 256) (hP : P < 2 ^ 256) (hQ : Q < 2 ^ 256) :
  Calls Tryz.prog 22 #[.pointer (some ⟨gp, 0, none⟩), .pointer (some ⟨gg, 0, none⟩), .pointer (some ⟨gq, 0, none⟩)] w fun e w' => e = .returned (.bool (decide (N = P) && decide (M = Q))) ∧ Below w.heap.size w w' := by
 rcases e1 : decide (N = P) with _ | _
 ·exact ck1_no P Q G H N Y M Z gg gp gq sp sq w hg hp hq hN hM hP hQ e1
 ·rcases e2 : decide (M = Q) with _ | _
  ·exact ck1_a P Q G H N Y M Z gg gp gq sp sq w hg hp hq hN hM hP hQ e1 e2
  ·exact ck1_b P Q G H N Y M Z gg gp gq sp sq w hg hp hq hN hM hP hQ e1 e2
theorem ck2_any (P Q G H gg : Nat) (w : World)
  (hg : At w gg 26 (gcs P Q G H))
  (hP : P < 2 ^ 256)
  (hQ : Q < 2 ^ 256)
  : Calls Tryz.prog 23 #[.pointer (some ⟨gg, 0, none⟩)] w fun e w' => e = .returned (.bool (Jae Q P)) ∧ Below w.heap.size w w' := by
 refine Kk (args := [.pointer (some ⟨gg, 0, none⟩)]) Tryz.func23 rfl Tryz.ntmps23 (by rfl) fun a F HM => ?_
 repeat first|refine et1 ?_|refine eb1 ?_|refine ws1 ?_|refine wb1 ?_|refine wk1 ?_
 refine wp_region_lit ?_
 refine lxv (.bool false) F (Jk rfl) fun a F => ?_
 refine Jj ?_
 repeat first|refine et1 ?_|refine eb1 ?_|refine ws1 ?_|refine wb1 ?_|refine wk1 ?_
 refine wp_region_lit ?_
 refine lxv (.pointer (some ⟨gg, 4, none⟩)) F (Wr (F.ev rfl)) fun a F => ?_
 refine lxv (num Q) F (Xr (F.ev rfl) (hg.on HM.bel)) fun a F => ?_
 refine lxv (.pointer (some ⟨gg, 0, none⟩)) F (Ky (F.ev rfl)) fun a F => ?_
 refine lxv (num P) F (Uf (F.ev rfl) (hg.on HM.bel)) fun a F => ?_
 refine Jr F (Ja rfl _) rfl (by rfl) (Jl Tryz.func24 (by kernel_rfl) (by rfl) (.cons (F.ev rfl) (.cons (F.ev rfl) .nil)) _) ((fun w => goes_any Q P hQ hP w) _) fun a w z F => ?_
 replace HM := HM.on z
 clear z
 refine lxv (.bool (Jae Q P)) F (Jk (F.ev rfl)) fun a F => ?_
 refine Jj ?_
 repeat first|refine et1 ?_|refine eb1 ?_|refine ws1 ?_|refine wb1 ?_|refine wk1 ?_
 refine wp_ret ?_
 repeat (first | refine Jt ?_ | refine Jp ?_)
 exact Ki F HM (Kf F rfl (s := 1) rfl)

theorem ck3_any (N Y gp : Nat) (sp : Value) (b : Bool) (w : World)
  (hp : At w gp 29 (rcs N Y sp))
  (c1 : ∀ u, Below w.heap.size w u → Calls Tryz.prog 26 #[rv N Y sp] u fun e w2 => e = .returned (.bool b) ∧ Below u.heap.size u w2)
  : Calls Tryz.prog 25 #[.pointer (some ⟨gp, 0, none⟩)] w fun e w' => e = .returned (.bool b) ∧ Below w.heap.size w w' := by
 refine Kk (args := [.pointer (some ⟨gp, 0, none⟩)]) Tryz.func25 rfl Tryz.ntmps25 (by rfl) fun a F HM => ?_
 repeat first|refine et1 ?_|refine eb1 ?_|refine ws1 ?_|refine wb1 ?_|refine wk1 ?_
 refine wp_region_lit ?_
 refine lxv (.bool false) F (Jk rfl) fun a F => ?_
 refine Jj ?_
 repeat first|refine et1 ?_|refine eb1 ?_|refine ws1 ?_|refine wb1 ?_|refine wk1 ?_
 refine wp_region_lit ?_
 refine lxv (rv N Y (sp)) F (Wa (F.ev rfl) (hp.on HM.bel)) fun a F => ?_
 refine Jr F (Ja rfl _) rfl (by rfl) (Jl Tryz.func26 (by kernel_rfl) (by rfl) (.cons (F.ev rfl) .nil) _) (c1 _ HM.bel) fun a w z F => ?_
 replace HM := HM.on z
 clear z
 refine lxv (.bool b) F (Jk (F.ev rfl)) fun a F => ?_
 refine Jj ?_
 repeat first|refine et1 ?_|refine eb1 ?_|refine ws1 ?_|refine wb1 ?_|refine wk1 ?_
 refine wp_ret ?_
 repeat (first | refine Jt ?_ | refine Jp ?_)
 exact Ki F HM (Kf F rfl (s := 1) rfl)

theorem ck4_any (N Y gq : Nat) (sp : Value) (b : Bool) (w : World)
  (hq : At w gq 29 (rcs N Y sp))
  (c1 : ∀ u, Below w.heap.size w u → Calls Tryz.prog 26 #[rv N Y sp] u fun e w2 => e = .returned (.bool b) ∧ Below u.heap.size u w2)
  : Calls Tryz.prog 27 #[.pointer (some ⟨gq, 0, none⟩)] w fun e w' => e = .returned (.bool b) ∧ Below w.heap.size w w' := by
 refine Kk (args := [.pointer (some ⟨gq, 0, none⟩)]) Tryz.func27 rfl Tryz.ntmps27 (by rfl) fun a F HM => ?_
 repeat first|refine et1 ?_|refine eb1 ?_|refine ws1 ?_|refine wb1 ?_|refine wk1 ?_
 refine wp_region_lit ?_
 refine lxv (.bool false) F (Jk rfl) fun a F => ?_
 refine Jj ?_
 repeat first|refine et1 ?_|refine eb1 ?_|refine ws1 ?_|refine wb1 ?_|refine wk1 ?_
 refine wp_region_lit ?_
 refine lxv (rv N Y (sp)) F (Wa (F.ev rfl) (hq.on HM.bel)) fun a F => ?_
 refine Jr F (Ja rfl _) rfl (by rfl) (Jl Tryz.func26 (by kernel_rfl) (by rfl) (.cons (F.ev rfl) .nil) _) (c1 _ HM.bel) fun a w z F => ?_
 replace HM := HM.on z
 clear z
 refine lxv (.bool b) F (Jk (F.ev rfl)) fun a F => ?_
 refine Jj ?_
 repeat first|refine et1 ?_|refine eb1 ?_|refine ws1 ?_|refine wb1 ?_|refine wk1 ?_
 refine wp_ret ?_
 repeat (first | refine Jt ?_ | refine Jp ?_)
 exact Ki F HM (Kf F rfl (s := 1) rfl)

theorem ck5_any (P Q G H gg : Nat) (w : World)
  (hg : At w gg 26 (gcs P Q G H))
  (hP : P < 2 ^ 256)
  (hQ : Q < 2 ^ 256)
  (hG : G < 2 ^ 256)
  : Calls Tryz.prog 28 #[.pointer (some ⟨gg, 0, none⟩)] w fun e w' => e = .returned (.bool (Jdj P Q G)) ∧ Below w.heap.size w w' := by
 refine Kk (args := [.pointer (some ⟨gg, 0, none⟩)]) Tryz.func28 rfl Tryz.ntmps28 (by rfl) fun a F HM => ?_
 repeat first|refine et1 ?_|refine eb1 ?_|refine ws1 ?_|refine wb1 ?_|refine wk1 ?_
 refine wp_region_lit ?_
 refine lxv (.bool false) F (Jk rfl) fun a F => ?_
 refine Jj ?_
 repeat first|refine et1 ?_|refine eb1 ?_|refine ws1 ?_|refine wb1 ?_|refine wk1 ?_
 refine wp_region_lit ?_
 refine lxv (grp P Q G H) F (Uj (F.ev rfl) (hg.on HM.bel)) fun a F => ?_
 refine lxv (.pointer (some ⟨gg, 8, none⟩)) F (Vi (F.ev rfl)) fun a F => ?_
 refine lxv (num G) F (Vu (F.ev rfl) (hg.on HM.bel)) fun a F => ?_
 refine Jr F (Ja rfl _) rfl (by rfl) (Jl Tryz.func29 (by kernel_rfl) (by rfl) (.cons (F.ev rfl) (.cons (F.ev rfl) .nil)) _) ((fun w => generates_any P Q G H G hP hQ hG w) _) fun a w z F => ?_
 replace HM := HM.on z
 clear z
 refine lxv (.bool (Jdj P Q G)) F (Jk (F.ev rfl)) fun a F => ?_
 refine Jj ?_
 repeat first|refine et1 ?_|refine eb1 ?_|refine ws1 ?_|refine wb1 ?_|refine wk1 ?_
 refine wp_ret ?_
 repeat (first | refine Jt ?_ | refine Jp ?_)
 exact Ki F HM (Kf F rfl (s := 1) rfl)

theorem ck6_any (P Q G H gg : Nat) (w : World)
  (hg : At w gg 26 (gcs P Q G H))
  (hP : P < 2 ^ 256)
  (hQ : Q < 2 ^ 256)
  (hH : H < 2 ^ 256)
  : Calls Tryz.prog 30 #[.pointer (some ⟨gg, 0, none⟩)] w fun e w' => e = .returned (.bool (Jdj P Q H)) ∧ Below w.heap.size w w' := by
 refine Kk (args := [.pointer (some ⟨gg, 0, none⟩)]) Tryz.func30 rfl Tryz.ntmps30 (by rfl) fun a F HM => ?_
 repeat first|refine et1 ?_|refine eb1 ?_|refine ws1 ?_|refine wb1 ?_|refine wk1 ?_
 refine wp_region_lit ?_
 refine lxv (.bool false) F (Jk rfl) fun a F => ?_
 refine Jj ?_
 repeat first|refine et1 ?_|refine eb1 ?_|refine ws1 ?_|refine wb1 ?_|refine wk1 ?_
 refine wp_region_lit ?_
 refine lxv (grp P Q G H) F (Uj (F.ev rfl) (hg.on HM.bel)) fun a F => ?_
 refine lxv (.pointer (some ⟨gg, 12, none⟩)) F (Wb (F.ev rfl)) fun a F => ?_
 refine lxv (num H) F (Wu (F.ev rfl) (hg.on HM.bel)) fun a F => ?_
 refine Jr F (Ja rfl _) rfl (by rfl) (Jl Tryz.func29 (by kernel_rfl) (by rfl) (.cons (F.ev rfl) (.cons (F.ev rfl) .nil)) _) ((fun w => generates_any P Q G H H hP hQ hH w) _) fun a w z F => ?_
 replace HM := HM.on z
 clear z
 refine lxv (.bool (Jdj P Q H)) F (Jk (F.ev rfl)) fun a F => ?_
 refine Jj ?_
 repeat first|refine et1 ?_|refine eb1 ?_|refine ws1 ?_|refine wb1 ?_|refine wk1 ?_
 refine wp_ret ?_
 repeat (first | refine Jt ?_ | refine Jp ?_)
 exact Ki F HM (Kf F rfl (s := 1) rfl)

theorem check8_w (P Q G H N Y M Z la ca lb cb : Nat) (pa pb : Option Addr) (b3 b4 V : Bool) (w0 : World) (hP : P < 2 ^ 256) (hQ : Q < 2 ^ 256) (hG : G < 2 ^ 256) (hH : H < 2 ^ 256) (hN : N < 2 ^ 256) (hM : M < 2 ^ 256)
  (c3 : ∀ u, Below w0.heap.size w0 u → Calls Tryz.prog 26 #[rv N Y (.slice pa la ca)] u fun e w2 => e = .returned (.bool b3) ∧ Below u.heap.size u w2)
  (c4 : ∀ u, Below w0.heap.size w0 u → Calls Tryz.prog 26 #[rv M Z (.slice pb lb cb)] u fun e w2 => e = .returned (.bool b4) ∧ Below u.heap.size u w2)
  (hV : V = ((decide (N = P) && decide (M = Q)) && Jae Q P && b3 && b4 && Jdj P Q G && Jdj P Q H)) : Calls Tryz.prog 8 #[grp P Q G H, rv N Y ((.slice pa la ca)), rv M Z ((.slice pb lb cb))] w0 fun e w' => e = .returned (.bool V) ∧ Below w0.heap.size w0 w' := by
 refine Kk (args := [grp P Q G H, rv N Y ((.slice pa la ca)), rv M Z ((.slice pb lb cb))]) Tryz.func8 rfl Tryz.ntmps8 (by rfl) fun a F HM => ?_
 repeat first|refine et1 ?_|refine eb1 ?_|refine ws1 ?_|refine wb1 ?_|refine wk1 ?_
 refine wp_region_lit ?_
 refine Jw F HM (Ja rfl _) rfl (by rfl) (Wc (F.ev rfl)) fun a w gg F HM => ?_
 refine Jw F HM (Ja rfl _) rfl (by rfl) (Jde (F.ev rfl) rfl) fun a w gp F HM => ?_
 refine Jw F HM (Ja rfl _) rfl (by rfl) (Jde (F.ev rfl) rfl) fun a w gq F HM => ?_
 refine lxv (.bool false) F (Jk rfl) fun a F => ?_
 refine Jj ?_
 repeat first|refine et1 ?_|refine eb1 ?_|refine ws1 ?_|refine wb1 ?_|refine wk1 ?_
 refine wp_region_lit ?_
 refine lxv (.func (.func 22) #[] #[.pointer (some ⟨gp, 0, none⟩), .pointer (some ⟨gg, 0, none⟩), .pointer (some ⟨gq, 0, none⟩)]) F (o_mk3 (F.ev rfl) (F.ev rfl) (F.ev rfl)) fun a F => ?_
 refine lxv (.func (.func 23) #[] #[.pointer (some ⟨gg, 0, none⟩)]) F (Jei (F.ev rfl)) fun a F => ?_
 refine lxv (.func (.func 25) #[] #[.pointer (some ⟨gp, 0, none⟩)]) F (Jei (F.ev rfl)) fun a F => ?_
 refine lxv (.func (.func 27) #[] #[.pointer (some ⟨gq, 0, none⟩)]) F (Jei (F.ev rfl)) fun a F => ?_
 refine lxv (.func (.func 28) #[] #[.pointer (some ⟨gg, 0, none⟩)]) F (Jei (F.ev rfl)) fun a F => ?_
 refine lxv (.func (.func 30) #[] #[.pointer (some ⟨gg, 0, none⟩)]) F (Jei (F.ev rfl)) fun a F => ?_
 refine lxv (.agg #[.func (.func 22) #[] #[.pointer (some ⟨gp, 0, none⟩), .pointer (some ⟨gg, 0, none⟩), .pointer (some ⟨gq, 0, none⟩)], .func (.func 23) #[] #[.pointer (some ⟨gg, 0, none⟩)], .func (.func 25) #[] #[.pointer (some ⟨gp, 0, none⟩)], .func (.func 27) #[] #[.pointer (some ⟨gq, 0, none⟩)], .func (.func 28) #[] #[.pointer (some ⟨gg, 0, none⟩)], .func (.func 30) #[] #[.pointer (some ⟨gg, 0, none⟩)]]) F (o_buildF6 (F.ev rfl) (F.ev rfl) (F.ev rfl) (F.ev rfl) (F.ev rfl) (F.ev rfl)) fun a F => ?_
 refine Jw F HM (Ja rfl _) rfl (by rfl) (o_allocF) fun a w gf F HM => ?_
 refine Kd F HM (Ja rfl _) rfl (k := 0) rfl (o_storeF (F.ev rfl) (F.ev rfl) (HM.get 0 rfl)) (M2 := [(gf, 54, #[.func (.func 22) #[] #[.pointer (some ⟨gp, 0, none⟩), .pointer (some ⟨gg, 0, none⟩), .pointer (some ⟨gq, 0, none⟩)], .func (.func 23) #[] #[.pointer (some ⟨gg, 0, none⟩)], .func (.func 25) #[] #[.pointer (some ⟨gp, 0, none⟩)], .func (.func 27) #[] #[.pointer (some ⟨gq, 0, none⟩)], .func (.func 28) #[] #[.pointer (some ⟨gg, 0, none⟩)], .func (.func 30) #[] #[.pointer (some ⟨gg, 0, none⟩)]]), (gq, 29, rcs M Z ((.slice pb lb cb))), (gp, 29, rcs N Y ((.slice pa la ca))), (gg, 26, gcs P Q G H)]) rfl fun w HM => ?_
 refine Jj ?_
 repeat first|refine et1 ?_|refine eb1 ?_|refine ws1 ?_|refine wb1 ?_|refine wk1 ?_
 refine wp_region_lit ?_
 refine lxv (.agg #[.func (.func 22) #[] #[.pointer (some ⟨gp, 0, none⟩), .pointer (some ⟨gg, 0, none⟩), .pointer (some ⟨gq, 0, none⟩)], .func (.func 23) #[] #[.pointer (some ⟨gg, 0, none⟩)], .func (.func 25) #[] #[.pointer (some ⟨gp, 0, none⟩)], .func (.func 27) #[] #[.pointer (some ⟨gq, 0, none⟩)], .func (.func 28) #[] #[.pointer (some ⟨gg, 0, none⟩)], .func (.func 30) #[] #[.pointer (some ⟨gg, 0, none⟩)]]) F (o_loadF (F.ev rfl) (HM.get 0 rfl)) fun a F => ?_
 refine lxv (.int .i64 0) F (Jg rfl) fun a F => ?_
 refine Jj ?_
 repeat first|refine et1 ?_|refine eb1 ?_|refine ws1 ?_|refine wb1 ?_|refine wk1 ?_
 refine wp_loop_rounds 7 ?_
 refine Wx ?_
 repeat first|refine et1 ?_|refine eb1 ?_|refine ws1 ?_|refine wb1 ?_|refine wk1 ?_
 refine wp_region_lit ?_
 refine lxv (.bool true) F (Kh (u := .int .i64 0) (v := .int .i64 6) (fun ρ hx hy => by simp only [execOp, hx, hy]; simp [go_sem]) (F.ev rfl) rfl) fun a F => ?_
 refine Jj ?_
 repeat first|refine et1 ?_|refine eb1 ?_|refine ws1 ?_|refine wb1 ?_|refine wk1 ?_
 refine wp_cond_true (F.ev rfl) ?_
 repeat first|refine et1 ?_|refine eb1 ?_|refine ws1 ?_|refine wb1 ?_|refine wk1 ?_
 refine wp_region_lit ?_
 refine lxv (.func (.func 22) #[] #[.pointer (some ⟨gp, 0, none⟩), .pointer (some ⟨gg, 0, none⟩), .pointer (some ⟨gq, 0, none⟩)]) F (Jba (i := 0) (F.ev rfl) (F.ev rfl) rfl) fun a F => ?_
 refine lxv (.func (.func 22) #[] #[.pointer (some ⟨gp, 0, none⟩), .pointer (some ⟨gg, 0, none⟩), .pointer (some ⟨gq, 0, none⟩)]) F (Jk (F.ev rfl)) fun a F => ?_
 refine Jj ?_
 rcases hb0 : (decide (N = P) && decide (M = Q)) with _ | _
 ·repeat first|refine et1 ?_|refine eb1 ?_|refine ws1 ?_|refine wb1 ?_|refine wk1 ?_
  refine wp_region_lit ?_
  refine lxv (.func (.func 22) #[] #[.pointer (some ⟨gp, 0, none⟩), .pointer (some ⟨gg, 0, none⟩), .pointer (some ⟨gq, 0, none⟩)]) F (Jg (F.ev rfl)) fun a F => ?_
  refine Jr F (Ja rfl _) rfl (by rfl) (Um Tryz.func22 (by kernel_rfl) (by rfl) (F.ev rfl) _) ((by have := ck1_any P Q G H N Y M Z _ _ _ _ _ w (HM.get 3 rfl) (HM.get 2 rfl) (HM.get 1 rfl) hN hM hP hQ; rw [hb0] at this; exact this)) fun a w z F => ?_
  replace HM := HM.on z
  clear z
  refine lxv (.bool true) F (Vn (b := false) (r := true) (F.ev rfl) rfl) fun a F => ?_
  refine Jj ?_
  repeat first|refine et1 ?_|refine eb1 ?_|refine ws1 ?_|refine wb1 ?_|refine wk1 ?_
  refine wp_cond_true (F.ev rfl) ?_
  repeat first|refine et1 ?_|refine eb1 ?_|refine ws1 ?_|refine wb1 ?_|refine wk1 ?_
  refine wp_region_lit ?_
  refine lxv (.bool false) F (Jk rfl) fun a F => ?_
  refine Jj ?_
  repeat first|refine et1 ?_|refine eb1 ?_|refine ws1 ?_|refine wb1 ?_|refine wk1 ?_
  refine wp_ret ?_
  repeat (first | refine Jt ?_ | refine Jp ?_)
  have hV2 : V = false := by rw [hV]; simp only [hb0, Bool.and_true, Bool.and_false, Bool.false_and, Bool.true_and]
  exact hV2 ▸ Ki F HM (Kf F rfl (s := 6) rfl)
 ·repeat first|refine et1 ?_|refine eb1 ?_|refine ws1 ?_|refine wb1 ?_|refine wk1 ?_
  refine wp_region_lit ?_
  refine lxv (.func (.func 22) #[] #[.pointer (some ⟨gp, 0, none⟩), .pointer (some ⟨gg, 0, none⟩), .pointer (some ⟨gq, 0, none⟩)]) F (Jg (F.ev rfl)) fun a F => ?_
  refine Jr F (Ja rfl _) rfl (by rfl) (Um Tryz.func22 (by kernel_rfl) (by rfl) (F.ev rfl) _) ((by have := ck1_any P Q G H N Y M Z _ _ _ _ _ w (HM.get 3 rfl) (HM.get 2 rfl) (HM.get 1 rfl) hN hM hP hQ; rw [hb0] at this; exact this)) fun a w z F => ?_
  replace HM := HM.on z
  clear z
  refine lxv (.bool false) F (Vn (b := true) (r := false) (F.ev rfl) rfl) fun a F => ?_
  refine Jj ?_
  repeat first|refine et1 ?_|refine eb1 ?_|refine ws1 ?_|refine wb1 ?_|refine wk1 ?_
  refine wp_cond_false (F.ev rfl) ?_
  repeat first|refine et1 ?_|refine eb1 ?_|refine ws1 ?_|refine wb1 ?_|refine wk1 ?_
  refine wp_region_lit ?_
  refine lxv (.int .i64 1) F (Kh (u := .int .i64 0) (v := .int .i64 1) (fun ρ hx hy => by simp only [execOp, hx, hy]; simp [go_sem]; try rfl) (F.ev rfl) rfl) fun a F => ?_
  refine lxv (.int .i64 1) F (Jg (F.ev rfl)) fun a F => ?_
  refine Jj ?_
  refine Kv ?_
  refine Wx ?_
  repeat first|refine et1 ?_|refine eb1 ?_|refine ws1 ?_|refine wb1 ?_|refine wk1 ?_
  refine wp_region_lit ?_
  refine lxv (.bool true) F (Kh (u := .int .i64 1) (v := .int .i64 6) (fun ρ hx hy => by simp only [execOp, hx, hy]; simp [go_sem]) (F.ev rfl) rfl) fun a F => ?_
  refine Jj ?_
  repeat first|refine et1 ?_|refine eb1 ?_|refine ws1 ?_|refine wb1 ?_|refine wk1 ?_
  refine wp_cond_true (F.ev rfl) ?_
  repeat first|refine et1 ?_|refine eb1 ?_|refine ws1 ?_|refine wb1 ?_|refine wk1 ?_
  refine wp_region_lit ?_
  refine lxv (.func (.func 23) #[] #[.pointer (some ⟨gg, 0, none⟩)]) F (Jba (i := 1) (F.ev rfl) (F.ev rfl) rfl) fun a F => ?_
  refine lxv (.func (.func 23) #[] #[.pointer (some ⟨gg, 0, none⟩)]) F (Jk (F.ev rfl)) fun a F => ?_
  refine Jj ?_
  rcases hb1 : (Jae Q P) with _ | _
  ·repeat first|refine et1 ?_|refine eb1 ?_|refine ws1 ?_|refine wb1 ?_|refine wk1 ?_
   refine wp_region_lit ?_
   refine lxv (.func (.func 23) #[] #[.pointer (some ⟨gg, 0, none⟩)]) F (Jg (F.ev rfl)) fun a F => ?_
   refine Jr F (Ja rfl _) rfl (by rfl) (Um Tryz.func23 (by kernel_rfl) (by rfl) (F.ev rfl) _) ((by have := ck2_any P Q G H _ w (HM.get 3 rfl) hP hQ; rw [hb1] at this; exact this)) fun a w z F => ?_
   replace HM := HM.on z
   clear z
   refine lxv (.bool true) F (Vn (b := false) (r := true) (F.ev rfl) rfl) fun a F => ?_
   refine Jj ?_
   repeat first|refine et1 ?_|refine eb1 ?_|refine ws1 ?_|refine wb1 ?_|refine wk1 ?_
   refine wp_cond_true (F.ev rfl) ?_
   repeat first|refine et1 ?_|refine eb1 ?_|refine ws1 ?_|refine wb1 ?_|refine wk1 ?_
   refine wp_region_lit ?_
   refine lxv (.bool false) F (Jk rfl) fun a F => ?_
   refine Jj ?_
   repeat first|refine et1 ?_|refine eb1 ?_|refine ws1 ?_|refine wb1 ?_|refine wk1 ?_
   refine wp_ret ?_
   repeat (first | refine Jt ?_ | refine Jp ?_)
   have hV2 : V = false := by rw [hV]; simp only [hb0, hb1, Bool.and_true, Bool.and_false, Bool.false_and, Bool.true_and]
   exact hV2 ▸ Ki F HM (Kf F rfl (s := 6) rfl)
  ·repeat first|refine et1 ?_|refine eb1 ?_|refine ws1 ?_|refine wb1 ?_|refine wk1 ?_
   refine wp_region_lit ?_
   refine lxv (.func (.func 23) #[] #[.pointer (some ⟨gg, 0, none⟩)]) F (Jg (F.ev rfl)) fun a F => ?_
   refine Jr F (Ja rfl _) rfl (by rfl) (Um Tryz.func23 (by kernel_rfl) (by rfl) (F.ev rfl) _) ((by have := ck2_any P Q G H _ w (HM.get 3 rfl) hP hQ; rw [hb1] at this; exact this)) fun a w z F => ?_
   replace HM := HM.on z
   clear z
   refine lxv (.bool false) F (Vn (b := true) (r := false) (F.ev rfl) rfl) fun a F => ?_
   refine Jj ?_
   repeat first|refine et1 ?_|refine eb1 ?_|refine ws1 ?_|refine wb1 ?_|refine wk1 ?_
   refine wp_cond_false (F.ev rfl) ?_
   repeat first|refine et1 ?_|refine eb1 ?_|refine ws1 ?_|refine wb1 ?_|refine wk1 ?_
   refine wp_region_lit ?_
   refine lxv (.int .i64 2) F (Kh (u := .int .i64 1) (v := .int .i64 1) (fun ρ hx hy => by simp only [execOp, hx, hy]; simp [go_sem]; try rfl) (F.ev rfl) rfl) fun a F => ?_
   refine lxv (.int .i64 2) F (Jg (F.ev rfl)) fun a F => ?_
   refine Jj ?_
   refine Kv ?_
   refine Wx ?_
   repeat first|refine et1 ?_|refine eb1 ?_|refine ws1 ?_|refine wb1 ?_|refine wk1 ?_
   refine wp_region_lit ?_
   refine lxv (.bool true) F (Kh (u := .int .i64 2) (v := .int .i64 6) (fun ρ hx hy => by simp only [execOp, hx, hy]; simp [go_sem]) (F.ev rfl) rfl) fun a F => ?_
   refine Jj ?_
   repeat first|refine et1 ?_|refine eb1 ?_|refine ws1 ?_|refine wb1 ?_|refine wk1 ?_
   refine wp_cond_true (F.ev rfl) ?_
   repeat first|refine et1 ?_|refine eb1 ?_|refine ws1 ?_|refine wb1 ?_|refine wk1 ?_
   refine wp_region_lit ?_
   refine lxv (.func (.func 25) #[] #[.pointer (some ⟨gp, 0, none⟩)]) F (Jba (i := 2) (F.ev rfl) (F.ev rfl) rfl) fun a F => ?_
   refine lxv (.func (.func 25) #[] #[.pointer (some ⟨gp, 0, none⟩)]) F (Jk (F.ev rfl)) fun a F => ?_
   refine Jj ?_
   rcases hb2 : (b3) with _ | _
   ·repeat first|refine et1 ?_|refine eb1 ?_|refine ws1 ?_|refine wb1 ?_|refine wk1 ?_
    refine wp_region_lit ?_
    refine lxv (.func (.func 25) #[] #[.pointer (some ⟨gp, 0, none⟩)]) F (Jg (F.ev rfl)) fun a F => ?_
    refine Jr F (Ja rfl _) rfl (by rfl) (Um Tryz.func25 (by kernel_rfl) (by rfl) (F.ev rfl) _) ((by have := ck3_any N Y _ _ b3 w (HM.get 2 rfl) (fun u hb => c3 u (bel_tr HM.bel hb)); rw [hb2] at this; exact this)) fun a w z F => ?_
    replace HM := HM.on z
    clear z
    refine lxv (.bool true) F (Vn (b := false) (r := true) (F.ev rfl) rfl) fun a F => ?_
    refine Jj ?_
    repeat first|refine et1 ?_|refine eb1 ?_|refine ws1 ?_|refine wb1 ?_|refine wk1 ?_
    refine wp_cond_true (F.ev rfl) ?_
    repeat first|refine et1 ?_|refine eb1 ?_|refine ws1 ?_|refine wb1 ?_|refine wk1 ?_
    refine wp_region_lit ?_
    refine lxv (.bool false) F (Jk rfl) fun a F => ?_
    refine Jj ?_
    repeat first|refine et1 ?_|refine eb1 ?_|refine ws1 ?_|refine wb1 ?_|refine wk1 ?_
    refine wp_ret ?_
    repeat (first | refine Jt ?_ | refine Jp ?_)
    have hV2 : V = false := by rw [hV]; simp only [hb0, hb1, hb2, Bool.and_true, Bool.and_false, Bool.false_and, Bool.true_and]
    exact hV2 ▸ Ki F HM (Kf F rfl (s := 6) rfl)
   ·repeat first|refine et1 ?_|refine eb1 ?_|refine ws1 ?_|refine wb1 ?_|refine wk1 ?_
    refine wp_region_lit ?_
    refine lxv (.func (.func 25) #[] #[.pointer (some ⟨gp, 0, none⟩)]) F (Jg (F.ev rfl)) fun a F => ?_
    refine Jr F (Ja rfl _) rfl (by rfl) (Um Tryz.func25 (by kernel_rfl) (by rfl) (F.ev rfl) _) ((by have := ck3_any N Y _ _ b3 w (HM.get 2 rfl) (fun u hb => c3 u (bel_tr HM.bel hb)); rw [hb2] at this; exact this)) fun a w z F => ?_
    replace HM := HM.on z
    clear z
    refine lxv (.bool false) F (Vn (b := true) (r := false) (F.ev rfl) rfl) fun a F => ?_
    refine Jj ?_
    repeat first|refine et1 ?_|refine eb1 ?_|refine ws1 ?_|refine wb1 ?_|refine wk1 ?_
    refine wp_cond_false (F.ev rfl) ?_
    repeat first|refine et1 ?_|refine eb1 ?_|refine ws1 ?_|refine wb1 ?_|refine wk1 ?_
    refine wp_region_lit ?_
    refine lxv (.int .i64 3) F (Kh (u := .int .i64 2) (v := .int .i64 1) (fun ρ hx hy => by simp only [execOp, hx, hy]; simp [go_sem]; try rfl) (F.ev rfl) rfl) fun a F => ?_
    refine lxv (.int .i64 3) F (Jg (F.ev rfl)) fun a F => ?_
    refine Jj ?_
    refine Kv ?_
    refine Wx ?_
    repeat first|refine et1 ?_|refine eb1 ?_|refine ws1 ?_|refine wb1 ?_|refine wk1 ?_
    refine wp_region_lit ?_
    refine lxv (.bool true) F (Kh (u := .int .i64 3) (v := .int .i64 6) (fun ρ hx hy => by simp only [execOp, hx, hy]; simp [go_sem]) (F.ev rfl) rfl) fun a F => ?_
    refine Jj ?_
    repeat first|refine et1 ?_|refine eb1 ?_|refine ws1 ?_|refine wb1 ?_|refine wk1 ?_
    refine wp_cond_true (F.ev rfl) ?_
    repeat first|refine et1 ?_|refine eb1 ?_|refine ws1 ?_|refine wb1 ?_|refine wk1 ?_
    refine wp_region_lit ?_
    refine lxv (.func (.func 27) #[] #[.pointer (some ⟨gq, 0, none⟩)]) F (Jba (i := 3) (F.ev rfl) (F.ev rfl) rfl) fun a F => ?_
    refine lxv (.func (.func 27) #[] #[.pointer (some ⟨gq, 0, none⟩)]) F (Jk (F.ev rfl)) fun a F => ?_
    refine Jj ?_
    rcases hb3 : (b4) with _ | _
    ·repeat first|refine et1 ?_|refine eb1 ?_|refine ws1 ?_|refine wb1 ?_|refine wk1 ?_
     refine wp_region_lit ?_
     refine lxv (.func (.func 27) #[] #[.pointer (some ⟨gq, 0, none⟩)]) F (Jg (F.ev rfl)) fun a F => ?_
     refine Jr F (Ja rfl _) rfl (by rfl) (Um Tryz.func27 (by kernel_rfl) (by rfl) (F.ev rfl) _) ((by have := ck4_any M Z _ _ b4 w (HM.get 1 rfl) (fun u hb => c4 u (bel_tr HM.bel hb)); rw [hb3] at this; exact this)) fun a w z F => ?_
     replace HM := HM.on z
     clear z
     refine lxv (.bool true) F (Vn (b := false) (r := true) (F.ev rfl) rfl) fun a F => ?_
     refine Jj ?_
     repeat first|refine et1 ?_|refine eb1 ?_|refine ws1 ?_|refine wb1 ?_|refine wk1 ?_
     refine wp_cond_true (F.ev rfl) ?_
     repeat first|refine et1 ?_|refine eb1 ?_|refine ws1 ?_|refine wb1 ?_|refine wk1 ?_
     refine wp_region_lit ?_
     refine lxv (.bool false) F (Jk rfl) fun a F => ?_
     refine Jj ?_
     repeat first|refine et1 ?_|refine eb1 ?_|refine ws1 ?_|refine wb1 ?_|refine wk1 ?_
     refine wp_ret ?_
     repeat (first | refine Jt ?_ | refine Jp ?_)
     have hV2 : V = false := by rw [hV]; simp only [hb0, hb1, hb2, hb3, Bool.and_true, Bool.and_false, Bool.false_and, Bool.true_and]
     exact hV2 ▸ Ki F HM (Kf F rfl (s := 6) rfl)
    ·repeat first|refine et1 ?_|refine eb1 ?_|refine ws1 ?_|refine wb1 ?_|refine wk1 ?_
     refine wp_region_lit ?_
     refine lxv (.func (.func 27) #[] #[.pointer (some ⟨gq, 0, none⟩)]) F (Jg (F.ev rfl)) fun a F => ?_
     refine Jr F (Ja rfl _) rfl (by rfl) (Um Tryz.func27 (by kernel_rfl) (by rfl) (F.ev rfl) _) ((by have := ck4_any M Z _ _ b4 w (HM.get 1 rfl) (fun u hb => c4 u (bel_tr HM.bel hb)); rw [hb3] at this; exact this)) fun a w z F => ?_
     replace HM := HM.on z
     clear z
     refine lxv (.bool false) F (Vn (b := true) (r := false) (F.ev rfl) rfl) fun a F => ?_
     refine Jj ?_
     repeat first|refine et1 ?_|refine eb1 ?_|refine ws1 ?_|refine wb1 ?_|refine wk1 ?_
     refine wp_cond_false (F.ev rfl) ?_
     repeat first|refine et1 ?_|refine eb1 ?_|refine ws1 ?_|refine wb1 ?_|refine wk1 ?_
     refine wp_region_lit ?_
     refine lxv (.int .i64 4) F (Kh (u := .int .i64 3) (v := .int .i64 1) (fun ρ hx hy => by simp only [execOp, hx, hy]; simp [go_sem]; try rfl) (F.ev rfl) rfl) fun a F => ?_
     refine lxv (.int .i64 4) F (Jg (F.ev rfl)) fun a F => ?_
     refine Jj ?_
     refine Kv ?_
     refine Wx ?_
     repeat first|refine et1 ?_|refine eb1 ?_|refine ws1 ?_|refine wb1 ?_|refine wk1 ?_
     refine wp_region_lit ?_
     refine lxv (.bool true) F (Kh (u := .int .i64 4) (v := .int .i64 6) (fun ρ hx hy => by simp only [execOp, hx, hy]; simp [go_sem]) (F.ev rfl) rfl) fun a F => ?_
     refine Jj ?_
     repeat first|refine et1 ?_|refine eb1 ?_|refine ws1 ?_|refine wb1 ?_|refine wk1 ?_
     refine wp_cond_true (F.ev rfl) ?_
     repeat first|refine et1 ?_|refine eb1 ?_|refine ws1 ?_|refine wb1 ?_|refine wk1 ?_
     refine wp_region_lit ?_
     refine lxv (.func (.func 28) #[] #[.pointer (some ⟨gg, 0, none⟩)]) F (Jba (i := 4) (F.ev rfl) (F.ev rfl) rfl) fun a F => ?_
     refine lxv (.func (.func 28) #[] #[.pointer (some ⟨gg, 0, none⟩)]) F (Jk (F.ev rfl)) fun a F => ?_
     refine Jj ?_
     rcases hb4 : (Jdj P Q G) with _ | _
     ·repeat first|refine et1 ?_|refine eb1 ?_|refine ws1 ?_|refine wb1 ?_|refine wk1 ?_
      refine wp_region_lit ?_
      refine lxv (.func (.func 28) #[] #[.pointer (some ⟨gg, 0, none⟩)]) F (Jg (F.ev rfl)) fun a F => ?_
      refine Jr F (Ja rfl _) rfl (by rfl) (Um Tryz.func28 (by kernel_rfl) (by rfl) (F.ev rfl) _) ((by have := ck5_any P Q G H _ w (HM.get 3 rfl) hP hQ hG; rw [hb4] at this; exact this)) fun a w z F => ?_
      replace HM := HM.on z
      clear z
      refine lxv (.bool true) F (Vn (b := false) (r := true) (F.ev rfl) rfl) fun a F => ?_
      refine Jj ?_
      repeat first|refine et1 ?_|refine eb1 ?_|refine ws1 ?_|refine wb1 ?_|refine wk1 ?_
      refine wp_cond_true (F.ev rfl) ?_
      repeat first|refine et1 ?_|refine eb1 ?_|refine ws1 ?_|refine wb1 ?_|refine wk1 ?_
      refine wp_region_lit ?_
      refine lxv (.bool false) F (Jk rfl) fun a F => ?_
      refine Jj ?_
      repeat first|refine et1 ?_|refine eb1 ?_|refine ws1 ?_|refine wb1 ?_|refine wk1 ?_
      refine wp_ret ?_
      repeat (first | refine Jt ?_ | refine Jp ?_)
      have hV2 : V = false := by rw [hV]; simp only [hb0, hb1, hb2, hb3, hb4, Bool.and_true, Bool.and_false, Bool.false_and, Bool.true_and]
      exact hV2 ▸ Ki F HM (Kf F rfl (s := 6) rfl)
     ·repeat first|refine et1 ?_|refine eb1 ?_|refine ws1 ?_|refine wb1 ?_|refine wk1 ?_
      refine wp_region_lit ?_
      refine lxv (.func (.func 28) #[] #[.pointer (some ⟨gg, 0, none⟩)]) F (Jg (F.ev rfl)) fun a F => ?_
      refine Jr F (Ja rfl _) rfl (by rfl) (Um Tryz.func28 (by kernel_rfl) (by rfl) (F.ev rfl) _) ((by have := ck5_any P Q G H _ w (HM.get 3 rfl) hP hQ hG; rw [hb4] at this; exact this)) fun a w z F => ?_
      replace HM := HM.on z
      clear z
      refine lxv (.bool false) F (Vn (b := true) (r := false) (F.ev rfl) rfl) fun a F => ?_
      refine Jj ?_
      repeat first|refine et1 ?_|refine eb1 ?_|refine ws1 ?_|refine wb1 ?_|refine wk1 ?_
      refine wp_cond_false (F.ev rfl) ?_
      repeat first|refine et1 ?_|refine eb1 ?_|refine ws1 ?_|refine wb1 ?_|refine wk1 ?_
      refine wp_region_lit ?_
      refine lxv (.int .i64 5) F (Kh (u := .int .i64 4) (v := .int .i64 1) (fun ρ hx hy => by simp only [execOp, hx, hy]; simp [go_sem]; try rfl) (F.ev rfl) rfl) fun a F => ?_
      refine lxv (.int .i64 5) F (Jg (F.ev rfl)) fun a F => ?_
      refine Jj ?_
      refine Kv ?_
      refine Wx ?_
      repeat first|refine et1 ?_|refine eb1 ?_|refine ws1 ?_|refine wb1 ?_|refine wk1 ?_
      refine wp_region_lit ?_
      refine lxv (.bool true) F (Kh (u := .int .i64 5) (v := .int .i64 6) (fun ρ hx hy => by simp only [execOp, hx, hy]; simp [go_sem]) (F.ev rfl) rfl) fun a F => ?_
      refine Jj ?_
      repeat first|refine et1 ?_|refine eb1 ?_|refine ws1 ?_|refine wb1 ?_|refine wk1 ?_
      refine wp_cond_true (F.ev rfl) ?_
      repeat first|refine et1 ?_|refine eb1 ?_|refine ws1 ?_|refine wb1 ?_|refine wk1 ?_
      refine wp_region_lit ?_
      refine lxv (.func (.func 30) #[] #[.pointer (some ⟨gg, 0, none⟩)]) F (Jba (i := 5) (F.ev rfl) (F.ev rfl) rfl) fun a F => ?_
      refine lxv (.func (.func 30) #[] #[.pointer (some ⟨gg, 0, none⟩)]) F (Jk (F.ev rfl)) fun a F => ?_
      refine Jj ?_
      rcases hb5 : (Jdj P Q H) with _ | _
      ·repeat first|refine et1 ?_|refine eb1 ?_|refine ws1 ?_|refine wb1 ?_|refine wk1 ?_
       refine wp_region_lit ?_
       refine lxv (.func (.func 30) #[] #[.pointer (some ⟨gg, 0, none⟩)]) F (Jg (F.ev rfl)) fun a F => ?_
       refine Jr F (Ja rfl _) rfl (by rfl) (Um Tryz.func30 (by kernel_rfl) (by rfl) (F.ev rfl) _) ((by have := ck6_any P Q G H _ w (HM.get 3 rfl) hP hQ hH; rw [hb5] at this; exact this)) fun a w z F => ?_
       replace HM := HM.on z
       clear z
       refine lxv (.bool true) F (Vn (b := false) (r := true) (F.ev rfl) rfl) fun a F => ?_
       refine Jj ?_
       repeat first|refine et1 ?_|refine eb1 ?_|refine ws1 ?_|refine wb1 ?_|refine wk1 ?_
       refine wp_cond_true (F.ev rfl) ?_
       repeat first|refine et1 ?_|refine eb1 ?_|refine ws1 ?_|refine wb1 ?_|refine wk1 ?_
       refine wp_region_lit ?_
       refine lxv (.bool false) F (Jk rfl) fun a F => ?_
       refine Jj ?_
       repeat first|refine et1 ?_|refine eb1 ?_|refine ws1 ?_|refine wb1 ?_|refine wk1 ?_
       refine wp_ret ?_
       repeat (first | refine Jt ?_ | refine Jp ?_)
       have hV2 : V = false := by rw [hV]; simp only [hb0, hb1, hb2, hb3, hb4, hb5, Bool.and_true, Bool.and_false, Bool.false_and, Bool.true_and]
       exact hV2 ▸ Ki F HM (Kf F rfl (s := 6) rfl)
      ·repeat first|refine et1 ?_|refine eb1 ?_|refine ws1 ?_|refine wb1 ?_|refine wk1 ?_
       refine wp_region_lit ?_
       refine lxv (.func (.func 30) #[] #[.pointer (some ⟨gg, 0, none⟩)]) F (Jg (F.ev rfl)) fun a F => ?_
       refine Jr F (Ja rfl _) rfl (by rfl) (Um Tryz.func30 (by kernel_rfl) (by rfl) (F.ev rfl) _) ((by have := ck6_any P Q G H _ w (HM.get 3 rfl) hP hQ hH; rw [hb5] at this; exact this)) fun a w z F => ?_
       replace HM := HM.on z
       clear z
       refine lxv (.bool false) F (Vn (b := true) (r := false) (F.ev rfl) rfl) fun a F => ?_
       refine Jj ?_
       repeat first|refine et1 ?_|refine eb1 ?_|refine ws1 ?_|refine wb1 ?_|refine wk1 ?_
       refine wp_cond_false (F.ev rfl) ?_
       repeat first|refine et1 ?_|refine eb1 ?_|refine ws1 ?_|refine wb1 ?_|refine wk1 ?_
       refine wp_region_lit ?_
       refine lxv (.int .i64 6) F (Kh (u := .int .i64 5) (v := .int .i64 1) (fun ρ hx hy => by simp only [execOp, hx, hy]; simp [go_sem]; try rfl) (F.ev rfl) rfl) fun a F => ?_
       refine lxv (.int .i64 6) F (Jg (F.ev rfl)) fun a F => ?_
       refine Jj ?_
       refine Kv ?_
       refine Wx ?_
       repeat first|refine et1 ?_|refine eb1 ?_|refine ws1 ?_|refine wb1 ?_|refine wk1 ?_
       refine wp_region_lit ?_
       refine lxv (.bool false) F (Kh (u := .int .i64 6) (v := .int .i64 6) (fun ρ hx hy => by simp only [execOp, hx, hy]; simp [go_sem]) (F.ev rfl) rfl) fun a F => ?_
       refine Jj ?_
       repeat first|refine et1 ?_|refine eb1 ?_|refine ws1 ?_|refine wb1 ?_|refine wk1 ?_
       refine wp_cond_false (F.ev rfl) ?_
       repeat first|refine et1 ?_|refine eb1 ?_|refine ws1 ?_|refine wb1 ?_|refine wk1 ?_
       refine wp_exit ?_
       repeat (first | refine Wz ?_ | refine Wf ?_)
       repeat first|refine et1 ?_|refine eb1 ?_|refine ws1 ?_|refine wb1 ?_|refine wk1 ?_
       repeat first|refine et1 ?_|refine eb1 ?_|refine ws1 ?_|refine wb1 ?_|refine wk1 ?_
       refine wp_region_lit ?_
       refine lxv (.bool true) F (Jk rfl) fun a F => ?_
       refine Jj ?_
       repeat first|refine et1 ?_|refine eb1 ?_|refine ws1 ?_|refine wb1 ?_|refine wk1 ?_
       refine wp_ret ?_
       repeat (first | refine Jt ?_ | refine Jp ?_)
       have hV2 : V = true := by rw [hV]; simp only [hb0, hb1, hb2, hb3, hb4, hb5, Bool.and_true, Bool.and_false, Bool.false_and, Bool.true_and]
       exact hV2 ▸ Ki F HM (Kf F rfl (s := 6) rfl)

theorem check8_any (P Q G H : Nat) (r1 r2 : Pr.Rsn) (pa pb : Option Addr) (ca cb : Nat) (w : World) (hP : P < 2 ^ 256) (hQ : Q < 2 ^ 256) (hG : G < 2 ^ 256) (hH : H < 2 ^ 256) (h1 : r1.n < 2 ^ 256) (h2 : r2.n < 2 ^ 256) (y1 : r1.w < 2 ^ 256) (y2 : r2.w < 2 ^ 256)
  (s1 : Sl w pa ca r1.ps) (s2 : Sl w pb cb r2.ps) : Calls Tryz.prog 8 #[grp P Q G H, rv r1.n r1.w (.slice pa r1.ps.length ca), rv r2.n r2.w (.slice pb r2.ps.length cb)] w fun e w' => e = .returned (.bool ((decide (r1.n = P) && decide (r2.n = Q)) && Jae Q P && r1.holds && r2.holds && Jdj P Q G && Jdj P Q H)) ∧ Below w.heap.size w w' :=
 check8_w P Q G H r1.n r1.w r2.n r2.w _ ca _ cb pa pb r1.holds r2.holds _ w hP hQ hG hH h1 h2 (fun u hb => check_any r1 pa ca h1 y1 u (s1.on hb)) (fun u hb => check_any r2 pb cb h2 y2 u (s2.on hb)) rfl
end Go.Proofs.YtodlpmepoakdlaaGreat
