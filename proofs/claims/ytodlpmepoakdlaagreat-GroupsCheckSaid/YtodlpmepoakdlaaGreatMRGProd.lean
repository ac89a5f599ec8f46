import Derived.Deep.Cut
import Derived.Test.YtodlpmepoakdlaaGreatMGBoth
import Derived.Test.YtodlpmepoakdlaaGreatMProd
import Derived.Test.YtodlpmepoakdlaaGreatMRefE
import Derived.Test.YtodlpmepoakdlaaGreatMSmall
import Derived.Test.YtodlpmepoakdlaaGreatMSxS
import Derived.Test.YtodlpmepoakdlaaGreatMTwinN
namespace Go.Proofs.YtodlpmepoakdlaaGreat
set_option maxRecDepth 100000
set_option maxHeartbeats 8000000
open Go.RowKit
set_option linter.unusedSimpArgs false
set_option linter.unusedVariables false
attribute [local go_sem ↓] Go.wp_at_zero Go.wp_at_succ

theorem r8prod_low (P Q G H la ca lb cb : Nat) (pa pb : Option Addr) (hP : P < 2 ^ 256) (hk : Uu P 1 ≤ 0) (w : World) : Calls Tryz.prog 7 #[grp P Q G H, .slice pa la ca, .slice pb lb cb] w fun e w' => e = .returned (.tuple #[num 0, .int .i64 1]) ∧ Below w.heap.size w w' := by
 refine Kk (args := [grp P Q G H, .slice pa la ca, .slice pb lb cb]) Tryz.func7 rfl Tryz.ntmps7 (by rfl) fun a F HM => ?_
 repeat first|refine et1 ?_|refine eb1 ?_|refine ws1 ?_|refine wb1 ?_|refine wk1 ?_
 refine wp_region_lit ?_
 refine Jw F HM (Ja rfl _) rfl (by rfl) (Wc (F.ev rfl)) fun a w gg F HM => ?_
 refine Jw F HM (Ja rfl _) rfl (by rfl) (Jy) fun a w go F HM => ?_
 refine lxv (.int .i64 0) F (Jk rfl) fun a F => ?_
 refine Jj ?_
 repeat first|refine et1 ?_|refine eb1 ?_|refine ws1 ?_|refine wb1 ?_|refine wk1 ?_
 try simp only [List.append_eq, List.cons_append, List.nil_append]
 refine Kl [⟨0, 12, [], .val (.pointer (some ⟨gg, 0, none⟩)), true⟩,
   ⟨1, 13, [0], .val (num P), true⟩,
   ⟨2, 14, [1], .val (num 1), false⟩,
   ⟨3, 15, [1, 2], .val (.int .i64 (Uu P 1)), false⟩,
   ⟨4, 16, [3], .val (.bool true), true⟩,
   ⟨5, 17, [4], .val (.bool true), true⟩,
   ⟨6, 18, [5], .val undef, true⟩,
   ⟨8, 20, [5, 6], .val undef, true⟩,
   ⟨7, 19, [5, 6, 7], .val undef, true⟩,
   ⟨9, 21, [5, 7, 8], .val undef, true⟩,
   ⟨10, 22, [5, 8, 9], .val undef, true⟩,
   ⟨11, 23, [5, 10], .val (.bool true), true⟩] 0 F HM (by kernel_rfl) (by rfl) (by rfl) ?_ ?_ ?_ ?_ ?_ ?_ ?_
 ·kernel_rfl
 ·exact of_decide_eq_true (by kernel_rfl)
 ·(repeat refine all_cons ⟨_, by rfl, by rfl⟩ ?_); exact Je
 ·kernel_rfl
 ·(repeat (refine all_cons ?_ ?_; rotate_left)); exact Je
  ·exact Jz _ _ _ _ _ _ _ (by rfl) (by rfl) (Jc) (fun ρ w kn hs => Ky (kn _ _ (F.old (by rfl) rfl)))
  ·exact Jz _ _ _ _ _ _ _ (by rfl) (by rfl) (Jc) (fun ρ w kn hs => Uf (kn _ _ (kc 0 12)) (hs.get 1 rfl))
  ·exact Ji _ (by rfl)
  ·exact Ji _ (by rfl)
  ·exact Jz _ _ _ _ _ _ _ (by rfl) (by rfl) (Jc) (fun ρ w kn hs => Kh (u := .int .i64 (Uu P 1)) (v := .int .i64 0) (fun ρ hx hy => by simp only [execOp, hx, hy]; simp [go_sem]; exact hk) (kn _ _ (kc 3 15)) (kn _ _ (Jd _)))
  ·exact Jz _ _ _ _ _ _ _ (by rfl) (by rfl) (Jc) (fun ρ w kn hs => Jg (kn _ _ (kc 4 16)))
  ·exact Jf _ _ _ _ _ _ (by rfl) (by rfl) (wc 5 17 5 (kc 5 17))
  ·exact Jf _ _ _ _ _ _ (by rfl) (by rfl) (wc 5 17 5 (kc 5 17))
  ·exact Jf _ _ _ _ _ _ (by rfl) (by rfl) (wc 5 17 5 (kc 5 17))
  ·exact Jf _ _ _ _ _ _ (by rfl) (by rfl) (wc 5 17 5 (kc 5 17))
  ·exact Jf _ _ _ _ _ _ (by rfl) (by rfl) (wc 5 17 5 (kc 5 17))
  ·exact Jz _ _ _ _ _ _ _ (by rfl) (by rfl) (Jc) (fun ρ w kn hs => Js (b := true) (r := .bool true) (kn _ _ (kc 5 17)) (kn _ _ (Jd _)) (kn _ _ (kc 10 22)) rfl)
 ·(repeat (refine all_cons ?_ ?_; rotate_left)); exact Je
  all_goals try exact sA
  ·exact fun _ => Jh _ 18 _ _ [] _ _ _ _ _ _ _ (by rfl) Tryz.func18 (by kernel_rfl) (by rfl) (by rfl) (Jc) .nil (Uh)
  ·exact fun _ => Jh _ 17 _ _ [.tmp 13, .tmp 14] _ _ _ _ _ _ _ (by rfl) Tryz.func17 (by kernel_rfl) (by rfl) (by rfl) (Jc) (.cons (kc 1 13) (.cons (kc 2 14) .nil)) ((fun w => Kz P 1 hP (by decide) w))
 intro gs rs a w hgs hrs F HM
 obtain rfl := nl0 rs hrs
 clear hrs
 obtain rfl := nl0 gs hgs
 clear hgs
 refine Kn (by kernel_rfl) ?_ _
 repeat first|refine et1 ?_|refine eb1 ?_|refine ws1 ?_|refine wb1 ?_|refine wk1 ?_
 refine wp_cond_true (F.ev rfl) ?_
 repeat first|refine et1 ?_|refine eb1 ?_|refine ws1 ?_|refine wb1 ?_|refine wk1 ?_
 refine wp_region_lit ?_
 refine lxv (num 0) F (Kq) fun a F => ?_
 refine Kd F HM (Ja rfl _) rfl (k := 0) rfl (Ju (F.ev rfl) (F.ev rfl) (HM.get 0 rfl)) (M2 := [(go, 24, ncs 0), (gg, 26, gcs P Q G H)]) rfl fun w HM => ?_
 refine lxv (.int .i64 1) F (Jk rfl) fun a F => ?_
 refine Jj ?_
 repeat first|refine et1 ?_|refine eb1 ?_|refine ws1 ?_|refine wb1 ?_|refine wk1 ?_
 refine wp_ret ?_
 repeat (first | refine Jt ?_ | refine Jp ?_)
 exact Ki F HM (Jdv F (s := 6) (t := 7) rfl rfl rfl (HM.get 0 rfl))

theorem r8prod_len (P Q G H la ca lb cb : Nat) (pa pb : Option Addr) (hP : P < 2 ^ 256) (hk : 0 < Uu P 1) (hl : ¬ la = lb) (w : World) : Calls Tryz.prog 7 #[grp P Q G H, .slice pa la ca, .slice pb lb cb] w fun e w' => e = .returned (.tuple #[num 0, .int .i64 1]) ∧ Below w.heap.size w w' := by
 refine Kk (args := [grp P Q G H, .slice pa la ca, .slice pb lb cb]) Tryz.func7 rfl Tryz.ntmps7 (by rfl) fun a F HM => ?_
 repeat first|refine et1 ?_|refine eb1 ?_|refine ws1 ?_|refine wb1 ?_|refine wk1 ?_
 refine wp_region_lit ?_
 refine Jw F HM (Ja rfl _) rfl (by rfl) (Wc (F.ev rfl)) fun a w gg F HM => ?_
 refine Jw F HM (Ja rfl _) rfl (by rfl) (Jy) fun a w go F HM => ?_
 refine lxv (.int .i64 0) F (Jk rfl) fun a F => ?_
 refine Jj ?_
 repeat first|refine et1 ?_|refine eb1 ?_|refine ws1 ?_|refine wb1 ?_|refine wk1 ?_
 try simp only [List.append_eq, List.cons_append, List.nil_append]
 refine Kl [⟨0, 12, [], .val (.pointer (some ⟨gg, 0, none⟩)), true⟩,
   ⟨1, 13, [0], .val (num P), true⟩,
   ⟨2, 14, [1], .val (num 1), false⟩,
   ⟨3, 15, [1, 2], .val (.int .i64 (Uu P 1)), false⟩,
   ⟨4, 16, [3], .val (.bool false), true⟩,
   ⟨5, 17, [4], .val (.bool false), true⟩,
   ⟨6, 18, [5], .val (.slice pa la ca), true⟩,
   ⟨8, 20, [5, 6], .val (.slice pb lb cb), true⟩,
   ⟨7, 19, [5, 6, 7], .val (.int .i64 (la : Nat)), true⟩,
   ⟨9, 21, [5, 7, 8], .val (.int .i64 (lb : Nat)), true⟩,
   ⟨10, 22, [5, 8, 9], .val (.bool true), true⟩,
   ⟨11, 23, [5, 10], .val (.bool true), true⟩] 0 F HM (by kernel_rfl) (by rfl) (by rfl) ?_ ?_ ?_ ?_ ?_ ?_ ?_
 ·kernel_rfl
 ·exact of_decide_eq_true (by kernel_rfl)
 ·(repeat refine all_cons ⟨_, by rfl, by rfl⟩ ?_); exact Je
 ·kernel_rfl
 ·(repeat (refine all_cons ?_ ?_; rotate_left)); exact Je
  ·exact Jz _ _ _ _ _ _ _ (by rfl) (by rfl) (Jc) (fun ρ w kn hs => Ky (kn _ _ (F.old (by rfl) rfl)))
  ·exact Jz _ _ _ _ _ _ _ (by rfl) (by rfl) (Jc) (fun ρ w kn hs => Uf (kn _ _ (kc 0 12)) (hs.get 1 rfl))
  ·exact Ji _ (by rfl)
  ·exact Ji _ (by rfl)
  ·exact Jz _ _ _ _ _ _ _ (by rfl) (by rfl) (Jc) (fun ρ w kn hs => Kh (u := .int .i64 (Uu P 1)) (v := .int .i64 0) (fun ρ hx hy => by simp only [execOp, hx, hy]; simp [go_sem]; exact hk) (kn _ _ (kc 3 15)) (kn _ _ (Jd _)))
  ·exact Jz _ _ _ _ _ _ _ (by rfl) (by rfl) (Jc) (fun ρ w kn hs => Jg (kn _ _ (kc 4 16)))
  ·exact Jz _ _ _ _ _ _ _ (by rfl) (by rfl) (wc 5 17 5 (kc 5 17)) (fun ρ w kn hs => Jg (kn _ _ (F.old (by rfl) rfl)))
  ·exact Jz _ _ _ _ _ _ _ (by rfl) (by rfl) (wc 5 17 5 (kc 5 17)) (fun ρ w kn hs => Jg (kn _ _ (F.old (by rfl) rfl)))
  ·exact Jz _ _ _ _ _ _ _ (by rfl) (by rfl) (wc 5 17 5 (kc 5 17)) (fun ρ w kn hs => Vs (kn _ _ (kc 6 18)))
  ·exact Jz _ _ _ _ _ _ _ (by rfl) (by rfl) (wc 5 17 5 (kc 5 17)) (fun ρ w kn hs => Vs (kn _ _ (kc 7 20)))
  ·exact Jz _ _ _ _ _ _ _ (by rfl) (by rfl) (wc 5 17 5 (kc 5 17)) (fun ρ w kn hs => Kh (u := .int .i64 (la : Nat)) (v := .int .i64 (lb : Nat)) (fun ρ hx hy => by simp only [execOp, hx, hy]; simp [go_sem]; omega) (kn _ _ (kc 8 19)) (kn _ _ (kc 9 21)))
  ·exact Jz _ _ _ _ _ _ _ (by rfl) (by rfl) (Jc) (fun ρ w kn hs => Js (b := false) (r := .bool true) (kn _ _ (kc 5 17)) (kn _ _ (Jd _)) (kn _ _ (kc 10 22)) rfl)
 ·(repeat (refine all_cons ?_ ?_; rotate_left)); exact Je
  all_goals try exact sA
  ·exact fun _ => Jh _ 18 _ _ [] _ _ _ _ _ _ _ (by rfl) Tryz.func18 (by kernel_rfl) (by rfl) (by rfl) (Jc) .nil (Uh)
  ·exact fun _ => Jh _ 17 _ _ [.tmp 13, .tmp 14] _ _ _ _ _ _ _ (by rfl) Tryz.func17 (by kernel_rfl) (by rfl) (by rfl) (Jc) (.cons (kc 1 13) (.cons (kc 2 14) .nil)) ((fun w => Kz P 1 hP (by decide) w))
 intro gs rs a w hgs hrs F HM
 obtain rfl := nl0 rs hrs
 clear hrs
 obtain rfl := nl0 gs hgs
 clear hgs
 refine Kn (by kernel_rfl) ?_ _
 repeat first|refine et1 ?_|refine eb1 ?_|refine ws1 ?_|refine wb1 ?_|refine wk1 ?_
 refine wp_cond_true (F.ev rfl) ?_
 repeat first|refine et1 ?_|refine eb1 ?_|refine ws1 ?_|refine wb1 ?_|refine wk1 ?_
 refine wp_region_lit ?_
 refine lxv (num 0) F (Kq) fun a F => ?_
 refine Kd F HM (Ja rfl _) rfl (k := 0) rfl (Ju (F.ev rfl) (F.ev rfl) (HM.get 0 rfl)) (M2 := [(go, 24, ncs 0), (gg, 26, gcs P Q G H)]) rfl fun w HM => ?_
 refine lxv (.int .i64 1) F (Jk rfl) fun a F => ?_
 refine Jj ?_
 repeat first|refine et1 ?_|refine eb1 ?_|refine ws1 ?_|refine wb1 ?_|refine wk1 ?_
 refine wp_ret ?_
 repeat (first | refine Jt ?_ | refine Jp ?_)
 exact Ki F HM (Jdv F (s := 6) (t := 7) rfl rfl rfl (HM.get 0 rfl))

theorem r8prod_good (P Q G H : Nat) (zs : List NP) (pa pb : Option Addr) (ca cb : Nat) (hP : P < 2 ^ 256) (h1 : 1 < P) (hn : zs.length ≤ 100) (w0 : World) (sA : NSl w0.heap.size w0 pa ca (zs.map (·.1.1))) (sN : NSl w0.heap.size w0 pb cb (zs.map (·.1.2))) :
  Calls Tryz.prog 7 #[grp P Q G H, .slice pa zs.length ca, .slice pb zs.length cb] w0 fun e w' => e = .returned (if Jbg P zs then .tuple #[num (Uv P zs), .int .i64 0] else .tuple #[num 0, .int .i64 1]) ∧ Below w0.heap.size w0 w' := by
 have h1k := Uy h1
 refine Kk (args := [grp P Q G H, .slice pa zs.length ca, .slice pb zs.length cb]) Tryz.func7 rfl Tryz.ntmps7 (by rfl) fun a F HM => ?_
 repeat first|refine et1 ?_|refine eb1 ?_|refine ws1 ?_|refine wb1 ?_|refine wk1 ?_
 refine wp_region_lit ?_
 refine Jw F HM (Ja rfl _) rfl (by rfl) (Wc (F.ev rfl)) fun a w gg F HM => ?_
 refine Jw F HM (Ja rfl _) rfl (by rfl) (Jy) fun a w go F HM => ?_
 refine lxv (.int .i64 0) F (Jk rfl) fun a F => ?_
 refine Jj ?_
 repeat first|refine et1 ?_|refine eb1 ?_|refine ws1 ?_|refine wb1 ?_|refine wk1 ?_
 try simp only [List.append_eq, List.cons_append, List.nil_append]
 refine Kl [⟨0, 12, [], .val (.pointer (some ⟨gg, 0, none⟩)), true⟩,
   ⟨1, 13, [0], .val (num P), true⟩,
   ⟨2, 14, [1], .val (num 1), false⟩,
   ⟨3, 15, [1, 2], .val (.int .i64 (Uu P 1)), false⟩,
   ⟨4, 16, [3], .val (.bool false), true⟩,
   ⟨5, 17, [4], .val (.bool false), true⟩,
   ⟨6, 18, [5], .val (.slice pa zs.length ca), true⟩,
   ⟨8, 20, [5, 6], .val (.slice pb zs.length cb), true⟩,
   ⟨7, 19, [5, 6, 7], .val (.int .i64 (zs.length : Nat)), true⟩,
   ⟨9, 21, [5, 7, 8], .val (.int .i64 (zs.length : Nat)), true⟩,
   ⟨10, 22, [5, 8, 9], .val (.bool false), true⟩,
   ⟨11, 23, [5, 10], .val (.bool false), true⟩] 0 F HM (by kernel_rfl) (by rfl) (by rfl) ?_ ?_ ?_ ?_ ?_ ?_ ?_
 ·kernel_rfl
 ·exact of_decide_eq_true (by kernel_rfl)
 ·(repeat refine all_cons ⟨_, by rfl, by rfl⟩ ?_); exact Je
 ·kernel_rfl
 ·(repeat (refine all_cons ?_ ?_; rotate_left)); exact Je
  ·exact Jz _ _ _ _ _ _ _ (by rfl) (by rfl) (Jc) (fun ρ w kn hs => Ky (kn _ _ (F.old (by rfl) rfl)))
  ·exact Jz _ _ _ _ _ _ _ (by rfl) (by rfl) (Jc) (fun ρ w kn hs => Uf (kn _ _ (kc 0 12)) (hs.get 1 rfl))
  ·exact Ji _ (by rfl)
  ·exact Ji _ (by rfl)
  ·exact Jz _ _ _ _ _ _ _ (by rfl) (by rfl) (Jc) (fun ρ w kn hs => Kh (u := .int .i64 (Uu P 1)) (v := .int .i64 0) (fun ρ hx hy => by simp only [execOp, hx, hy]; simp [go_sem]; exact h1k) (kn _ _ (kc 3 15)) (kn _ _ (Jd _)))
  ·exact Jz _ _ _ _ _ _ _ (by rfl) (by rfl) (Jc) (fun ρ w kn hs => Jg (kn _ _ (kc 4 16)))
  ·exact Jz _ _ _ _ _ _ _ (by rfl) (by rfl) (wc 5 17 5 (kc 5 17)) (fun ρ w kn hs => Jg (kn _ _ (F.old (by rfl) rfl)))
  ·exact Jz _ _ _ _ _ _ _ (by rfl) (by rfl) (wc 5 17 5 (kc 5 17)) (fun ρ w kn hs => Jg (kn _ _ (F.old (by rfl) rfl)))
  ·exact Jz _ _ _ _ _ _ _ (by rfl) (by rfl) (wc 5 17 5 (kc 5 17)) (fun ρ w kn hs => Vs (kn _ _ (kc 6 18)))
  ·exact Jz _ _ _ _ _ _ _ (by rfl) (by rfl) (wc 5 17 5 (kc 5 17)) (fun ρ w kn hs => Vs (kn _ _ (kc 7 20)))
  ·exact Jz _ _ _ _ _ _ _ (by rfl) (by rfl) (wc 5 17 5 (kc 5 17)) (fun ρ w kn hs => Kh (u := .int .i64 (zs.length : Nat)) (v := .int .i64 (zs.length : Nat)) (fun ρ hx hy => by simp only [execOp, hx, hy]; simp [go_sem]) (kn _ _ (kc 8 19)) (kn _ _ (kc 9 21)))
  ·exact Jz _ _ _ _ _ _ _ (by rfl) (by rfl) (Jc) (fun ρ w kn hs => Js (b := false) (r := .bool false) (kn _ _ (kc 5 17)) (kn _ _ (Jd _)) (kn _ _ (kc 10 22)) rfl)
 ·(repeat (refine all_cons ?_ ?_; rotate_left)); exact Je
  all_goals try exact Go.Proofs.YtodlpmepoakdlaaGreat.sA
  ·exact fun _ => Jh _ 18 _ _ [] _ _ _ _ _ _ _ (by rfl) Tryz.func18 (by kernel_rfl) (by rfl) (by rfl) (Jc) .nil (Uh)
  ·exact fun _ => Jh _ 17 _ _ [.tmp 13, .tmp 14] _ _ _ _ _ _ _ (by rfl) Tryz.func17 (by kernel_rfl) (by rfl) (by rfl) (Jc) (.cons (kc 1 13) (.cons (kc 2 14) .nil)) ((fun w => Kz P 1 hP (by decide) w))
 intro gs rs a w hgs hrs F HM
 obtain rfl := nl0 rs hrs
 clear hrs
 obtain rfl := nl0 gs hgs
 clear hgs
 refine Kn (by kernel_rfl) ?_ _
 repeat first|refine et1 ?_|refine eb1 ?_|refine ws1 ?_|refine wb1 ?_|refine wk1 ?_
 refine wp_cond_false (F.ev rfl) ?_
 repeat first|refine et1 ?_|refine eb1 ?_|refine ws1 ?_|refine wb1 ?_|refine wk1 ?_
 refine wp_region_lit ?_
 refine Jr F (Ja rfl _) rfl (by rfl) (Jl Tryz.func18 (by kernel_rfl) (by rfl) .nil _) (Uh _) fun a w z F => ?_
 replace HM := HM.on z
 clear z
 refine Jw F HM (Ja rfl _) rfl (by rfl) (Jy) fun a w gl F HM => ?_
 refine Kd F HM (Ja rfl _) rfl (k := 0) rfl (Ju (F.ev rfl) (F.ev rfl) (HM.get 0 rfl)) (M2 := [(gl, 24, ncs 1), (go, 24, ncs 0), (gg, 26, gcs P Q G H)]) rfl fun w HM => ?_
 refine Jj ?_
 repeat first|refine et1 ?_|refine eb1 ?_|refine ws1 ?_|refine wb1 ?_|refine wk1 ?_
 refine wp_region_lit ?_
 refine lxv (.int .i64 0) F (Jk rfl) fun a F => ?_
 refine Jj ?_
 repeat first|refine et1 ?_|refine eb1 ?_|refine ws1 ?_|refine wb1 ?_|refine wk1 ?_
 refine wp_loop (fun a w => ∃ i : Nat, i ≤ zs.length ∧ Fr a 63 [(9, .int .i64 (i : Nat)), (8, .pointer (some ⟨gl, 0, none⟩)), (6, .pointer (some ⟨go, 0, none⟩)), (3, .pointer (some ⟨gg, 0, none⟩)), (1, .slice pa zs.length ca), (2, .slice pb zs.length cb), (7, .int .i64 0)] [] ∧ Mem w0.heap.size w0 w [(gl, 24, ncs (Uv P (zs.take i))), (go, 24, ncs 0), (gg, 26, gcs P Q G H)] ∧ Jbg P (zs.take i) = true)
  (fun a _ => zs.length - (intOf (a.tmps.getD 9 undef)).toNat) ⟨0, Nat.zero_le _, F.sub [9, 8, 6, 3, 1, 2, 7], HM, rfl⟩ ?_
 clear F HM
 rintro aS wS ⟨i, hi, FS, HM, hma⟩
 have F := FS
 by_cases hlt : i < zs.length
 ·repeat first|refine et1 ?_|refine eb1 ?_|refine ws1 ?_|refine wb1 ?_|refine wk1 ?_
  refine wp_region_lit ?_
  refine lxv (.int .i64 (i : Nat)) F (Jg (F.ev rfl)) fun a F => ?_
  refine lxv (.slice pa zs.length ca) F (Jg (F.ev rfl)) fun a F => ?_
  refine lxv (.int .i64 (zs.length : Nat)) F (Vs (F.ev rfl)) fun a F => ?_
  refine lxv (.bool true) F (Kh (u := .int .i64 (i : Nat)) (v := .int .i64 (zs.length : Nat)) (fun ρ hx hy => by simp only [execOp, hx, hy]; simp [go_sem]; omega) (F.ev rfl) (F.ev rfl)) fun a F => ?_
  refine Jj ?_
  repeat first|refine et1 ?_|refine eb1 ?_|refine ws1 ?_|refine wb1 ?_|refine wk1 ?_
  refine wp_cond_true (F.ev rfl) ?_
  obtain ⟨ga, oa, hpa, ka⟩ := sA.c4 (i := i) (x := (zs[i]).1.1) (by rw [List.length_map]; exact hlt) (by rw [List.getElem_map])
  obtain ⟨gb, ob, hpb, kb⟩ := sN.c4 (i := i) (x := (zs[i]).1.2) (by rw [List.length_map]; exact hlt) (by rw [List.getElem_map])
  have tk : zs.take (i + 1) = zs.take i ++ [zs[i]] := by rw [List.take_succ_eq_append_getElem hlt]
  have hzm : zs[i] ∈ zs := List.getElem_mem hlt
  generalize zs[i] = z at *
  have CM := fun w => Jbv P Q G H z.1.1 hP z.2.1 w
  rcases hm : Jbb P z.1.1 with _ | _
  ·rw [hm] at CM
   repeat first|refine et1 ?_|refine eb1 ?_|refine ws1 ?_|refine wb1 ?_|refine wk1 ?_
   try simp only [List.append_eq, List.cons_append, List.nil_append]
   refine Kl [⟨0, 32, [], .val (grp P Q G H), true⟩,
   ⟨1, 33, [0], .val (.slice pa zs.length ca), true⟩,
   ⟨2, 34, [1], .val (.int .i64 (i : Nat)), true⟩,
   ⟨3, 35, [1, 2], .val (.pointer (some ⟨ga, oa + i * 4, none⟩)), true⟩,
   ⟨4, 36, [3], .val (num (z.1.1)), true⟩,
   ⟨5, 37, [0, 4], .val (.bool false), false⟩,
   ⟨6, 38, [5], .val (.bool true), true⟩] 0 F HM (by kernel_rfl) (by rfl) (by rfl) ?_ ?_ ?_ ?_ ?_ ?_ ?_
   ·kernel_rfl
   ·exact of_decide_eq_true (by kernel_rfl)
   ·(repeat refine all_cons ⟨_, by rfl, by rfl⟩ ?_); exact Je
   ·kernel_rfl
   ·(repeat (refine all_cons ?_ ?_; rotate_left)); exact Je
    ·exact Jz _ _ _ _ _ _ _ (by rfl) (by rfl) (Jc) (fun ρ w kn hs => Uj (kn _ _ (F.old (by rfl) rfl)) (hs.get 2 rfl))
    ·exact Jz _ _ _ _ _ _ _ (by rfl) (by rfl) (Jc) (fun ρ w kn hs => Jg (kn _ _ (F.old (by rfl) rfl)))
    ·exact Jz _ _ _ _ _ _ _ (by rfl) (by rfl) (Jc) (fun ρ w kn hs => Jg (kn _ _ (F.old (by rfl) rfl)))
    ·exact Jz _ _ _ _ _ _ _ (by rfl) (by rfl) (Jc) (fun ρ w kn hs => Jbe (l := zs.length) (cap := ca) hlt (by rw [← hpa]; exact (kn _ _ (kc 1 33))) (kn _ _ (kc 2 34)))
    ·exact Jz _ _ _ _ _ _ _ (by rfl) (by rfl) (Jc) (fun ρ w kn hs => Xi (kn _ _ (kc 3 35)) (ka _ hs.bel))
    ·exact Ji _ (by rfl)
    ·exact Jz _ _ _ _ _ _ _ (by rfl) (by rfl) (Jc) (fun ρ w kn hs => Vn (b := false) (r := true) (kn _ _ (kc 5 37)) rfl)
   ·(repeat (refine all_cons ?_ ?_; rotate_left)); exact Je
    all_goals try exact Go.Proofs.YtodlpmepoakdlaaGreat.sA
    ·exact fun _ => Jh _ 19 _ _ [.tmp 32, .tmp 36] _ _ _ _ _ _ _ (by rfl) Tryz.func19 (by kernel_rfl) (by rfl) (by rfl) (Jc) (.cons (kc 0 32) (.cons (kc 4 36) .nil)) (CM)
   intro gs rs a w hgs hrs F HM
   obtain rfl := nl0 rs hrs
   clear hrs
   obtain rfl := nl0 gs hgs
   clear hgs
   refine Kn (by kernel_rfl) ?_ _
   repeat first|refine et1 ?_|refine eb1 ?_|refine ws1 ?_|refine wb1 ?_|refine wk1 ?_
   refine wp_cond_true (F.ev rfl) ?_
   repeat first|refine et1 ?_|refine eb1 ?_|refine ws1 ?_|refine wb1 ?_|refine wk1 ?_
   refine wp_region_lit ?_
   refine lxv (num 0) F (Kq) fun a F => ?_
   refine Kd F HM (Ja rfl _) rfl (k := 1) rfl (Ju (F.ev rfl) (F.ev rfl) (HM.get 1 rfl)) (M2 := [(gl, 24, ncs (Uv P (zs.take i))), (go, 24, ncs 0), (gg, 26, gcs P Q G H)]) rfl fun w HM => ?_
   refine lxv (.int .i64 1) F (Jk rfl) fun a F => ?_
   refine Jj ?_
   have hno : ¬ Jbg P zs = true := fun h => by have h2 := List.all_eq_true.1 h z hzm; rw [hm] at h2; cases h2
   repeat first|refine et1 ?_|refine eb1 ?_|refine ws1 ?_|refine wb1 ?_|refine wk1 ?_
   refine wp_ret ?_
   repeat (first | refine Jt ?_ | refine Jp ?_)
   rw [if_neg hno]
   exact Ki F HM (Jdv F (s := 6) (t := 7) rfl rfl rfl (HM.get 1 rfl))
  ·rw [hm] at CM
   repeat first|refine et1 ?_|refine eb1 ?_|refine ws1 ?_|refine wb1 ?_|refine wk1 ?_
   try simp only [List.append_eq, List.cons_append, List.nil_append]
   refine Kl [⟨0, 32, [], .val (grp P Q G H), true⟩,
   ⟨1, 33, [0], .val (.slice pa zs.length ca), true⟩,
   ⟨2, 34, [1], .val (.int .i64 (i : Nat)), true⟩,
   ⟨3, 35, [1, 2], .val (.pointer (some ⟨ga, oa + i * 4, none⟩)), true⟩,
   ⟨4, 36, [3], .val (num (z.1.1)), true⟩,
   ⟨5, 37, [0, 4], .val (.bool true), false⟩,
   ⟨6, 38, [5], .val (.bool false), true⟩] 0 F HM (by kernel_rfl) (by rfl) (by rfl) ?_ ?_ ?_ ?_ ?_ ?_ ?_
   ·kernel_rfl
   ·exact of_decide_eq_true (by kernel_rfl)
   ·(repeat refine all_cons ⟨_, by rfl, by rfl⟩ ?_); exact Je
   ·kernel_rfl
   ·(repeat (refine all_cons ?_ ?_; rotate_left)); exact Je
    ·exact Jz _ _ _ _ _ _ _ (by rfl) (by rfl) (Jc) (fun ρ w kn hs => Uj (kn _ _ (F.old (by rfl) rfl)) (hs.get 2 rfl))
    ·exact Jz _ _ _ _ _ _ _ (by rfl) (by rfl) (Jc) (fun ρ w kn hs => Jg (kn _ _ (F.old (by rfl) rfl)))
    ·exact Jz _ _ _ _ _ _ _ (by rfl) (by rfl) (Jc) (fun ρ w kn hs => Jg (kn _ _ (F.old (by rfl) rfl)))
    ·exact Jz _ _ _ _ _ _ _ (by rfl) (by rfl) (Jc) (fun ρ w kn hs => Jbe (l := zs.length) (cap := ca) hlt (by rw [← hpa]; exact (kn _ _ (kc 1 33))) (kn _ _ (kc 2 34)))
    ·exact Jz _ _ _ _ _ _ _ (by rfl) (by rfl) (Jc) (fun ρ w kn hs => Xi (kn _ _ (kc 3 35)) (ka _ hs.bel))
    ·exact Ji _ (by rfl)
    ·exact Jz _ _ _ _ _ _ _ (by rfl) (by rfl) (Jc) (fun ρ w kn hs => Vn (b := true) (r := false) (kn _ _ (kc 5 37)) rfl)
   ·(repeat (refine all_cons ?_ ?_; rotate_left)); exact Je
    all_goals try exact Go.Proofs.YtodlpmepoakdlaaGreat.sA
    ·exact fun _ => Jh _ 19 _ _ [.tmp 32, .tmp 36] _ _ _ _ _ _ _ (by rfl) Tryz.func19 (by kernel_rfl) (by rfl) (by rfl) (Jc) (.cons (kc 0 32) (.cons (kc 4 36) .nil)) (CM)
   intro gs rs a w hgs hrs F HM
   obtain rfl := nl0 rs hrs
   clear hrs
   obtain rfl := nl0 gs hgs
   clear hgs
   refine Kn (by kernel_rfl) ?_ _
   repeat first|refine et1 ?_|refine eb1 ?_|refine ws1 ?_|refine wb1 ?_|refine wk1 ?_
   refine wp_cond_false (F.ev rfl) ?_
   obtain ⟨hz0, hz1⟩ := mayB_iff.mp hm
   repeat first|refine et1 ?_|refine eb1 ?_|refine ws1 ?_|refine wb1 ?_|refine wk1 ?_
   try simp only [List.append_eq, List.cons_append, List.nil_append]
   refine Kl [⟨0, 41, [], .val (.slice pa zs.length ca), true⟩,
   ⟨1, 42, [0], .val (.int .i64 (i : Nat)), true⟩,
   ⟨2, 43, [0, 1], .val (.pointer (some ⟨ga, oa + i * 4, none⟩)), true⟩,
   ⟨3, 44, [2], .val (num (z.1.1)), true⟩,
   ⟨4, 45, [3], .val (.slice pb zs.length cb), true⟩,
   ⟨5, 46, [4], .val (.int .i64 (i : Nat)), true⟩,
   ⟨6, 47, [4, 5], .val (.pointer (some ⟨gb, ob + i * 4, none⟩)), true⟩,
   ⟨7, 48, [6], .val (num (z.1.2)), true⟩,
   ⟨8, 49, [7], .val (.pointer (some ⟨gg, 0, none⟩)), true⟩,
   ⟨9, 50, [8], .val (num P), true⟩,
   ⟨14, 10, [], .cell 24 (ncs 0), false⟩,
   ⟨10, 51, [3, 7, 9], .val (.tuple #[num (z.1.1 ^ z.1.2 % P), .int .i64 0]), false⟩,
   ⟨11, 40, [11], .val (.tuple #[num (z.1.1 ^ z.1.2 % P), .int .i64 0]), true⟩,
   ⟨12, 52, [12], .val (num (z.1.1 ^ z.1.2 % P)), true⟩,
   ⟨13, 53, [12, 13], .val (.int .i64 0), true⟩] 2 F HM (by kernel_rfl) (by rfl) (by rfl) ?_ ?_ ?_ ?_ ?_ ?_ ?_
   ·kernel_rfl
   ·exact of_decide_eq_true (by kernel_rfl)
   ·(repeat refine all_cons ⟨_, by rfl, by rfl⟩ ?_); exact Je
   ·kernel_rfl
   ·(repeat (refine all_cons ?_ ?_; rotate_left)); exact Je
    ·exact Jz _ _ _ _ _ _ _ (by rfl) (by rfl) (Jc) (fun ρ w kn hs => Jg (kn _ _ (F.old (by rfl) rfl)))
    ·exact Jz _ _ _ _ _ _ _ (by rfl) (by rfl) (Jc) (fun ρ w kn hs => Jg (kn _ _ (F.old (by rfl) rfl)))
    ·exact Jz _ _ _ _ _ _ _ (by rfl) (by rfl) (Jc) (fun ρ w kn hs => Jbe (l := zs.length) (cap := ca) hlt (by rw [← hpa]; exact (kn _ _ (kc 0 41))) (kn _ _ (kc 1 42)))
    ·exact Jz _ _ _ _ _ _ _ (by rfl) (by rfl) (Jc) (fun ρ w kn hs => Xi (kn _ _ (kc 2 43)) (ka _ hs.bel))
    ·exact Jz _ _ _ _ _ _ _ (by rfl) (by rfl) (Jc) (fun ρ w kn hs => Jg (kn _ _ (F.old (by rfl) rfl)))
    ·exact Jz _ _ _ _ _ _ _ (by rfl) (by rfl) (Jc) (fun ρ w kn hs => Jg (kn _ _ (F.old (by rfl) rfl)))
    ·exact Jz _ _ _ _ _ _ _ (by rfl) (by rfl) (Jc) (fun ρ w kn hs => Jbe (l := zs.length) (cap := cb) hlt (by rw [← hpb]; exact (kn _ _ (kc 4 45))) (kn _ _ (kc 5 46)))
    ·exact Jz _ _ _ _ _ _ _ (by rfl) (by rfl) (Jc) (fun ρ w kn hs => Xi (kn _ _ (kc 6 47)) (kb _ hs.bel))
    ·exact Jz _ _ _ _ _ _ _ (by rfl) (by rfl) (Jc) (fun ρ w kn hs => Ky (kn _ _ (F.old (by rfl) rfl)))
    ·exact Jz _ _ _ _ _ _ _ (by rfl) (by rfl) (Jc) (fun ρ w kn hs => Uf (kn _ _ (kc 8 49)) (hs.get 2 rfl))
    ·exact Ji _ (by rfl)
    ·exact Ji _ (by rfl)
    ·exact Jz _ _ _ _ _ _ _ (by rfl) (by rfl) (Jc) (fun ρ w kn hs => Jg (kn _ _ (kc 11 51)))
    ·exact Jz _ _ _ _ _ _ _ (by rfl) (by rfl) (Jc) (fun ρ w kn hs => Jq (kn _ _ (kc 12 40)) rfl)
    ·exact Jz _ _ _ _ _ _ _ (by rfl) (by rfl) (Jc) (fun ρ w kn hs => Jq (kn _ _ (kc 12 40)) rfl)
   ·(repeat (refine all_cons ?_ ?_; rotate_left)); exact Je
    all_goals try exact Go.Proofs.YtodlpmepoakdlaaGreat.sA
    ·exact fun _ => Xb _ _ _ _ _ _ _ _ (by rfl) (by rfl) (Nat.le_refl _) (fun ρ w => Jy)
    ·exact fun _ => Jh _ 20 _ _ [.tmp 44, .tmp 48, .tmp 50] _ _ _ _ _ _ _ (by rfl) Tryz.func20 (by kernel_rfl) (by rfl) (by rfl) (Jc) (.cons (kc 3 44) (.cons (kc 7 48) (.cons (kc 9 50) .nil))) ((Jeg z.1.1 z.1.2 P hP z.2.2 (by omega) hz1))
   intro gs rs a w hgs hrs F HM
   obtain rfl := nl0 rs hrs
   clear hrs
   obtain ⟨gx, rfl⟩ := nl1 gs hgs
   clear hgs
   refine Ul (i := 15) HM (by kernel_rfl) (by rfl) rfl rfl (k := 0) rfl (Ju (F.ev rfl) (F.ev rfl) (HM.get 0 rfl)) (M2 := [(gx, 24, ncs (z.1.1 ^ z.1.2 % P)), (gl, 24, ncs (Uv P (zs.take i))), (go, 24, ncs 0), (gg, 26, gcs P Q G H)]) rfl (fun _ h => h.tail (A := [(gx, 24, ncs (z.1.1 ^ z.1.2 % P))])) fun w HM => ?_
   refine Kx (i := 16) (d := 11) (x := .tmp 53) (v := .int .i64 0) F (HM.tail (A := [(gx, 24, ncs (z.1.1 ^ z.1.2 % P))])) (by kernel_rfl) (by rfl) (by rfl) (F.ev rfl) fun a F => ?_
   refine Kn (by kernel_rfl) ?_ _
   repeat first|refine et1 ?_|refine eb1 ?_|refine ws1 ?_|refine wb1 ?_|refine wk1 ?_
   refine wp_region_lit ?_
   refine lxv (num (Uv P (zs.take i))) F (Jn (F.ev rfl) (HM.get 1 rfl)) fun a F => ?_
   refine lxv (num (z.1.1 ^ z.1.2 % P)) F (Jn (F.ev rfl) (HM.get 0 rfl)) fun a F => ?_
   refine lxv (.pointer (some ⟨gg, 0, none⟩)) F (Ky (F.ev rfl)) fun a F => ?_
   refine lxv (num P) F (Uf (F.ev rfl) (HM.get 3 rfl)) fun a F => ?_
   refine Jr F (Ja rfl _) rfl (by rfl) (Jl Tryz.func21 (by kernel_rfl) (by rfl) (.cons (F.ev rfl) (.cons (F.ev rfl) (.cons (F.ev rfl) .nil))) _) ((rm_yes (Uv P (zs.take i)) (z.1.1 ^ z.1.2 % P) P hP h1 (prodN_lt h1 _) (Nat.mod_lt _ (by omega))) _) fun a w z F => ?_
   replace HM := HM.on z
   clear z
   refine lxv (.tuple #[num (Uv P (zs.take i) * (z.1.1 ^ z.1.2 % P) % P), .int .i64 0]) F (Jg (F.ev rfl)) fun a F => ?_
   refine lxv (num (Uv P (zs.take i) * (z.1.1 ^ z.1.2 % P) % P)) F (Jq (F.ev rfl) rfl) fun a F => ?_
   refine lxv (.int .i64 0) F (Jq (F.ev rfl) rfl) fun a F => ?_
   refine Kd F HM (Ja rfl _) rfl (k := 1) rfl (Ju (F.ev rfl) (F.ev rfl) (HM.get 1 rfl)) (M2 := [(gx, 24, ncs (z.1.1 ^ z.1.2 % P)), (gl, 24, ncs (Uv P (zs.take i) * (z.1.1 ^ z.1.2 % P) % P)), (go, 24, ncs 0), (gg, 26, gcs P Q G H)]) rfl fun w HM => ?_
   refine Jj ?_
   repeat first|refine et1 ?_|refine eb1 ?_|refine ws1 ?_|refine wb1 ?_|refine wk1 ?_
   refine wp_region_lit ?_
   refine lxv (.int .i64 (i : Nat)) F (Jg (F.ev rfl)) fun a F => ?_
   refine lxv (.int .i64 ((i + 1 : Nat) : Int)) F (Jdf (m := i) (k := 1) (by omega) (F.ev rfl) rfl) fun a F => ?_
   refine lxv (.int .i64 ((i + 1 : Nat) : Int)) F (Jk (F.ev rfl)) fun a F => ?_
   refine Jj ?_
   refine Kv ?_
   refine ⟨⟨i + 1, by omega, F.sub [9, 8, 6, 3, 1, 2, 7], by rw [tk, prodN_snoc]; exact HM.drop (A := []) 1, by rw [tk]; unfold Jbg at hma ⊢; rw [List.all_append, hma]; simp [hm]⟩, ?_⟩
   show zs.length - (intOf (a.tmps.getD 9 undef)).toNat < zs.length - (intOf (aS.tmps.getD 9 undef)).toNat
   rw [F.get 9 _ rfl, FS.get 9 _ rfl]
   show zs.length - ((i + 1 : Nat) : Int).toNat < zs.length - ((i : Nat) : Int).toNat
   omega
 ·repeat first|refine et1 ?_|refine eb1 ?_|refine ws1 ?_|refine wb1 ?_|refine wk1 ?_
  refine wp_region_lit ?_
  refine lxv (.int .i64 (i : Nat)) F (Jg (F.ev rfl)) fun a F => ?_
  refine lxv (.slice pa zs.length ca) F (Jg (F.ev rfl)) fun a F => ?_
  refine lxv (.int .i64 (zs.length : Nat)) F (Vs (F.ev rfl)) fun a F => ?_
  refine lxv (.bool false) F (Kh (u := .int .i64 (i : Nat)) (v := .int .i64 (zs.length : Nat)) (fun ρ hx hy => by simp only [execOp, hx, hy]; simp [go_sem]; omega) (F.ev rfl) (F.ev rfl)) fun a F => ?_
  refine Jj ?_
  repeat first|refine et1 ?_|refine eb1 ?_|refine ws1 ?_|refine wb1 ?_|refine wk1 ?_
  refine wp_cond_false (F.ev rfl) ?_
  repeat first|refine et1 ?_|refine eb1 ?_|refine ws1 ?_|refine wb1 ?_|refine wk1 ?_
  refine wp_exit ?_
  repeat (first | refine Wz ?_ | refine Wf ?_)
  obtain rfl : i = zs.length := by omega
  clear FS hlt hi
  rw [List.take_length] at HM hma
  repeat first|refine et1 ?_|refine eb1 ?_|refine ws1 ?_|refine wb1 ?_|refine wk1 ?_
  refine wp_region_lit ?_
  refine lxv (num (Uv P zs)) F (Jn (F.ev rfl) (HM.get 0 rfl)) fun a F => ?_
  refine Kd F HM (Ja rfl _) rfl (k := 1) rfl (Ju (F.ev rfl) (F.ev rfl) (HM.get 1 rfl)) (M2 := [(gl, 24, ncs (Uv P zs)), (go, 24, ncs (Uv P zs)), (gg, 26, gcs P Q G H)]) rfl fun w HM => ?_
  refine lxv (.int .i64 0) F (Jk rfl) fun a F => ?_
  refine Jj ?_
  repeat first|refine et1 ?_|refine eb1 ?_|refine ws1 ?_|refine wb1 ?_|refine wk1 ?_
  refine wp_ret ?_
  repeat (first | refine Jt ?_ | refine Jp ?_)
  rw [if_pos hma]
  exact Ki F HM (Jdv F (s := 6) (t := 7) rfl rfl rfl (HM.get 1 rfl))
end Go.Proofs.YtodlpmepoakdlaaGreat
