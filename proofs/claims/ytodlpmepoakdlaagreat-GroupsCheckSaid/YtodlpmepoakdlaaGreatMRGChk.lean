import Derived.Deep.Cut
import Derived.Test.YtodlpmepoakdlaaGreatMGBoth
import Derived.Test.YtodlpmepoakdlaaGreatMGChk
import Derived.Test.YtodlpmepoakdlaaGreatMRCheck
import Derived.Test.YtodlpmepoakdlaaGreatMRCmp
import Derived.Test.YtodlpmepoakdlaaGreatMRDiv
import Derived.Test.YtodlpmepoakdlaaGreatMSmall
import Derived.Test.YtodlpmepoakdlaaGreatMTwinN
namespace Go.Proofs.YtodlpmepoakdlaaGreat
set_option maxRecDepth 100000
set_option maxHeartbeats 8000000
open Go.RowKit
set_option linter.unusedSimpArgs false
set_option linter.unusedVariables false
attribute [local go_sem ↓] Go.wp_at_zero Go.wp_at_succ

theorem r8c_w (P Q G H N Y M Z la ca lb cb : Nat) (pa pb : Option Addr) (b3 b4 g0 b1 b2 V : Bool) (w0 : World)
  (hN : N < 2 ^ 256)
  (hM : M < 2 ^ 256)
  (hP : P < 2 ^ 256)
  (hQ : Q < 2 ^ 256)
  (hG : G < 2 ^ 256)
  (hH : H < 2 ^ 256)
  (c3 : ∀ u, Below w0.heap.size w0 u → Calls Tryz.prog 31 #[rv N Y (.slice pa la ca)] u fun e w2 => e = .returned (.bool b3) ∧ Below u.heap.size u w2)
  (c4 : ∀ u, Below w0.heap.size w0 u → Calls Tryz.prog 31 #[rv M Z (.slice pb lb cb)] u fun e w2 => e = .returned (.bool b4) ∧ Below u.heap.size u w2)
  (hSD : b3 = true → b4 = true → N = P → M = Q → ∃ S c D R : Nat, R < 2 ^ 256 ∧ (∀ w, Calls Tryz.prog 32 #[num P, num 1] w fun e w' => e = .returned (.tuple #[num S, .int .u64 (c : Nat)]) ∧ Below w.heap.size w w') ∧ (∀ w, Calls Tryz.prog 33 #[num S, num Q] w fun e w' => e = .returned (.tuple #[num D, num R, .int .i64 0]) ∧ Below w.heap.size w w') ∧ decide (R = 0) = g0)
  (i1 : ∀ w, Calls Tryz.prog 34 #[grp P Q G H, num G] w fun e w' => e = .returned (.bool b1) ∧ Below w.heap.size w w')
  (i2 : ∀ w, Calls Tryz.prog 34 #[grp P Q G H, num H] w fun e w' => e = .returned (.bool b2) ∧ Below w.heap.size w w')
  (hV : V = ((decide (N = P) && decide (M = Q)) && g0 && b3 && b4 && (decide (G ≠ 1) && b1) && (decide (H ≠ 1) && b2)))
  : Calls Tryz.prog 9 #[grp P Q G H, rv N Y ((.slice pa la ca)), rv M Z ((.slice pb lb cb))] w0 fun e w' => e = .returned (.bool V) ∧ Below w0.heap.size w0 w' := by
 refine Kk (args := [grp P Q G H, rv N Y ((.slice pa la ca)), rv M Z ((.slice pb lb cb))]) Tryz.func9 rfl Tryz.ntmps9 (by rfl) fun a F HM => ?_
 repeat first|refine et1 ?_|refine eb1 ?_|refine ws1 ?_|refine wb1 ?_|refine wk1 ?_
 refine wp_region_lit ?_
 refine Jw F HM (Ja rfl _) rfl (by rfl) (Wc (F.ev rfl)) fun a w gg F HM => ?_
 refine Jw F HM (Ja rfl _) rfl (by rfl) (Jde (F.ev rfl) rfl) fun a w gp F HM => ?_
 refine Jw F HM (Ja rfl _) rfl (by rfl) (Jde (F.ev rfl) rfl) fun a w gq F HM => ?_
 refine lxv (.bool false) F (Jk rfl) fun a F => ?_
 refine Jj ?_
 cases b3
 ·repeat first|refine et1 ?_|refine eb1 ?_|refine ws1 ?_|refine wb1 ?_|refine wk1 ?_
  refine wp_region_lit ?_
  refine lxv (rv N Y ((.slice pa la ca))) F (Wa (F.ev rfl) (HM.get 1 rfl)) fun a F => ?_
  refine Jr F (Ja rfl _) rfl (by rfl) (Jl Tryz.func31 (by kernel_rfl) (by rfl) (.cons (F.ev rfl) .nil) _) (c3 _ HM.bel) fun a w z F => ?_
  replace HM := HM.on z
  clear z
  refine lxv (.bool true) F (Vn (b := false) (r := true) (F.ev rfl) rfl) fun a F => ?_
  refine lxv (.bool true) F (Jg (F.ev rfl)) fun a F => ?_
  refine lxp 15 true F fun a F => ?_
  refine lxp 15 true F fun a F => ?_
  refine lxp 15 true F fun a F => ?_
  refine lxv (.bool true) F (Js (b := true) (r := .bool true) (F.ev rfl) rfl (F.ev rfl) rfl) fun a F => ?_
  refine lxv (.bool true) F (Jg (F.ev rfl)) fun a F => ?_
  refine lxp 20 true F fun a F => ?_
  refine lxp 20 true F fun a F => ?_
  refine lxp 20 true F fun a F => ?_
  refine lxp 20 true F fun a F => ?_
  refine lxp 20 true F fun a F => ?_
  refine lxv (.bool true) F (Js (b := true) (r := .bool true) (F.ev rfl) rfl (F.ev rfl) rfl) fun a F => ?_
  refine lxv (.bool true) F (Jg (F.ev rfl)) fun a F => ?_
  refine lxp 27 true F fun a F => ?_
  refine lxp 27 true F fun a F => ?_
  refine lxp 27 true F fun a F => ?_
  refine lxp 27 true F fun a F => ?_
  refine lxp 27 true F fun a F => ?_
  refine lxv (.bool true) F (Js (b := true) (r := .bool true) (F.ev rfl) rfl (F.ev rfl) rfl) fun a F => ?_
  refine Jj ?_
  repeat first|refine et1 ?_|refine eb1 ?_|refine ws1 ?_|refine wb1 ?_|refine wk1 ?_
  refine wp_cond_true (F.ev rfl) ?_
  repeat first|refine et1 ?_|refine eb1 ?_|refine ws1 ?_|refine wb1 ?_|refine wk1 ?_
  refine wp_region_lit ?_
  refine lxv (.bool false) F (Jk rfl) fun a F => ?_
  refine Jj ?_
  have hV2 : V = false := by rw [hV]; simp
  repeat first|refine et1 ?_|refine eb1 ?_|refine ws1 ?_|refine wb1 ?_|refine wk1 ?_
  refine wp_ret ?_
  repeat (first | refine Jt ?_ | refine Jp ?_)
  exact hV2 ▸ Ki F HM (Kf F rfl (s := 6) rfl)
 ·cases b4
  ·repeat first|refine et1 ?_|refine eb1 ?_|refine ws1 ?_|refine wb1 ?_|refine wk1 ?_
   refine wp_region_lit ?_
   refine lxv (rv N Y ((.slice pa la ca))) F (Wa (F.ev rfl) (HM.get 1 rfl)) fun a F => ?_
   refine Jr F (Ja rfl _) rfl (by rfl) (Jl Tryz.func31 (by kernel_rfl) (by rfl) (.cons (F.ev rfl) .nil) _) (c3 _ HM.bel) fun a w z F => ?_
   replace HM := HM.on z
   clear z
   refine lxv (.bool false) F (Vn (b := true) (r := false) (F.ev rfl) rfl) fun a F => ?_
   refine lxv (.bool false) F (Jg (F.ev rfl)) fun a F => ?_
   refine lxw 15 false (rv M Z ((.slice pb lb cb))) F (Wa (F.ev rfl) (HM.get 0 rfl)) fun a F => ?_
   refine Jr F (F.want (t := 15) (c := false) rfl rfl rfl (by rfl) rfl) rfl (by rfl) (Jl Tryz.func31 (by kernel_rfl) (by rfl) (.cons (F.ev rfl) .nil) _) (c4 _ HM.bel) fun a w z F => ?_
   replace HM := HM.on z
   clear z
   refine lxw 15 false (.bool true) F (Vn (b := false) (r := true) (F.ev rfl) rfl) fun a F => ?_
   refine lxv (.bool true) F (Js (b := false) (r := .bool true) (F.ev rfl) rfl (F.ev rfl) rfl) fun a F => ?_
   refine lxv (.bool true) F (Jg (F.ev rfl)) fun a F => ?_
   refine lxp 20 true F fun a F => ?_
   refine lxp 20 true F fun a F => ?_
   refine lxp 20 true F fun a F => ?_
   refine lxp 20 true F fun a F => ?_
   refine lxp 20 true F fun a F => ?_
   refine lxv (.bool true) F (Js (b := true) (r := .bool true) (F.ev rfl) rfl (F.ev rfl) rfl) fun a F => ?_
   refine lxv (.bool true) F (Jg (F.ev rfl)) fun a F => ?_
   refine lxp 27 true F fun a F => ?_
   refine lxp 27 true F fun a F => ?_
   refine lxp 27 true F fun a F => ?_
   refine lxp 27 true F fun a F => ?_
   refine lxp 27 true F fun a F => ?_
   refine lxv (.bool true) F (Js (b := true) (r := .bool true) (F.ev rfl) rfl (F.ev rfl) rfl) fun a F => ?_
   refine Jj ?_
   repeat first|refine et1 ?_|refine eb1 ?_|refine ws1 ?_|refine wb1 ?_|refine wk1 ?_
   refine wp_cond_true (F.ev rfl) ?_
   repeat first|refine et1 ?_|refine eb1 ?_|refine ws1 ?_|refine wb1 ?_|refine wk1 ?_
   refine wp_region_lit ?_
   refine lxv (.bool false) F (Jk rfl) fun a F => ?_
   refine Jj ?_
   have hV2 : V = false := by rw [hV]; simp
   repeat first|refine et1 ?_|refine eb1 ?_|refine ws1 ?_|refine wb1 ?_|refine wk1 ?_
   refine wp_ret ?_
   repeat (first | refine Jt ?_ | refine Jp ?_)
   exact hV2 ▸ Ki F HM (Kf F rfl (s := 6) rfl)
  ·rcases e1 : decide (N = P) with _ | _
   ·repeat first|refine et1 ?_|refine eb1 ?_|refine ws1 ?_|refine wb1 ?_|refine wk1 ?_
    refine wp_region_lit ?_
    refine lxv (rv N Y ((.slice pa la ca))) F (Wa (F.ev rfl) (HM.get 1 rfl)) fun a F => ?_
    refine Jr F (Ja rfl _) rfl (by rfl) (Jl Tryz.func31 (by kernel_rfl) (by rfl) (.cons (F.ev rfl) .nil) _) (c3 _ HM.bel) fun a w z F => ?_
    replace HM := HM.on z
    clear z
    refine lxv (.bool false) F (Vn (b := true) (r := false) (F.ev rfl) rfl) fun a F => ?_
    refine lxv (.bool false) F (Jg (F.ev rfl)) fun a F => ?_
    refine lxw 15 false (rv M Z ((.slice pb lb cb))) F (Wa (F.ev rfl) (HM.get 0 rfl)) fun a F => ?_
    refine Jr F (F.want (t := 15) (c := false) rfl rfl rfl (by rfl) rfl) rfl (by rfl) (Jl Tryz.func31 (by kernel_rfl) (by rfl) (.cons (F.ev rfl) .nil) _) (c4 _ HM.bel) fun a w z F => ?_
    replace HM := HM.on z
    clear z
    refine lxw 15 false (.bool false) F (Vn (b := true) (r := false) (F.ev rfl) rfl) fun a F => ?_
    refine lxv (.bool false) F (Js (b := false) (r := .bool false) (F.ev rfl) rfl (F.ev rfl) rfl) fun a F => ?_
    refine lxv (.bool false) F (Jg (F.ev rfl)) fun a F => ?_
    refine lxw 20 false (.pointer (some ⟨gp, 0, none⟩)) F (Kj (F.ev rfl)) fun a F => ?_
    refine lxw 20 false (num N) F (Ks (F.ev rfl) (HM.get 1 rfl)) fun a F => ?_
    refine lxw 20 false (.pointer (some ⟨gg, 0, none⟩)) F (Ky (F.ev rfl)) fun a F => ?_
    refine lxw 20 false (num P) F (Uf (F.ev rfl) (HM.get 2 rfl)) fun a F => ?_
    refine lxw 20 false (.bool true) F (Vl hN hP e1 (F.ev rfl) (F.ev rfl)) fun a F => ?_
    refine lxv (.bool true) F (Js (b := false) (r := .bool true) (F.ev rfl) rfl (F.ev rfl) rfl) fun a F => ?_
    refine lxv (.bool true) F (Jg (F.ev rfl)) fun a F => ?_
    refine lxp 27 true F fun a F => ?_
    refine lxp 27 true F fun a F => ?_
    refine lxp 27 true F fun a F => ?_
    refine lxp 27 true F fun a F => ?_
    refine lxp 27 true F fun a F => ?_
    refine lxv (.bool true) F (Js (b := true) (r := .bool true) (F.ev rfl) rfl (F.ev rfl) rfl) fun a F => ?_
    refine Jj ?_
    repeat first|refine et1 ?_|refine eb1 ?_|refine ws1 ?_|refine wb1 ?_|refine wk1 ?_
    refine wp_cond_true (F.ev rfl) ?_
    repeat first|refine et1 ?_|refine eb1 ?_|refine ws1 ?_|refine wb1 ?_|refine wk1 ?_
    refine wp_region_lit ?_
    refine lxv (.bool false) F (Jk rfl) fun a F => ?_
    refine Jj ?_
    have hV2 : V = false := by rw [hV]; simp [e1]
    repeat first|refine et1 ?_|refine eb1 ?_|refine ws1 ?_|refine wb1 ?_|refine wk1 ?_
    refine wp_ret ?_
    repeat (first | refine Jt ?_ | refine Jp ?_)
    exact hV2 ▸ Ki F HM (Kf F rfl (s := 6) rfl)
   ·rcases e2 : decide (M = Q) with _ | _
    ·repeat first|refine et1 ?_|refine eb1 ?_|refine ws1 ?_|refine wb1 ?_|refine wk1 ?_
     refine wp_region_lit ?_
     refine lxv (rv N Y ((.slice pa la ca))) F (Wa (F.ev rfl) (HM.get 1 rfl)) fun a F => ?_
     refine Jr F (Ja rfl _) rfl (by rfl) (Jl Tryz.func31 (by kernel_rfl) (by rfl) (.cons (F.ev rfl) .nil) _) (c3 _ HM.bel) fun a w z F => ?_
     replace HM := HM.on z
     clear z
     refine lxv (.bool false) F (Vn (b := true) (r := false) (F.ev rfl) rfl) fun a F => ?_
     refine lxv (.bool false) F (Jg (F.ev rfl)) fun a F => ?_
     refine lxw 15 false (rv M Z ((.slice pb lb cb))) F (Wa (F.ev rfl) (HM.get 0 rfl)) fun a F => ?_
     refine Jr F (F.want (t := 15) (c := false) rfl rfl rfl (by rfl) rfl) rfl (by rfl) (Jl Tryz.func31 (by kernel_rfl) (by rfl) (.cons (F.ev rfl) .nil) _) (c4 _ HM.bel) fun a w z F => ?_
     replace HM := HM.on z
     clear z
     refine lxw 15 false (.bool false) F (Vn (b := true) (r := false) (F.ev rfl) rfl) fun a F => ?_
     refine lxv (.bool false) F (Js (b := false) (r := .bool false) (F.ev rfl) rfl (F.ev rfl) rfl) fun a F => ?_
     refine lxv (.bool false) F (Jg (F.ev rfl)) fun a F => ?_
     refine lxw 20 false (.pointer (some ⟨gp, 0, none⟩)) F (Kj (F.ev rfl)) fun a F => ?_
     refine lxw 20 false (num N) F (Ks (F.ev rfl) (HM.get 1 rfl)) fun a F => ?_
     refine lxw 20 false (.pointer (some ⟨gg, 0, none⟩)) F (Ky (F.ev rfl)) fun a F => ?_
     refine lxw 20 false (num P) F (Uf (F.ev rfl) (HM.get 2 rfl)) fun a F => ?_
     refine lxw 20 false (.bool false) F (Vl hN hP e1 (F.ev rfl) (F.ev rfl)) fun a F => ?_
     refine lxv (.bool false) F (Js (b := false) (r := .bool false) (F.ev rfl) rfl (F.ev rfl) rfl) fun a F => ?_
     refine lxv (.bool false) F (Jg (F.ev rfl)) fun a F => ?_
     refine lxw 27 false (.pointer (some ⟨gq, 0, none⟩)) F (Kj (F.ev rfl)) fun a F => ?_
     refine lxw 27 false (num M) F (Ks (F.ev rfl) (HM.get 0 rfl)) fun a F => ?_
     refine lxw 27 false (.pointer (some ⟨gg, 4, none⟩)) F (Wr (F.ev rfl)) fun a F => ?_
     refine lxw 27 false (num Q) F (Xr (F.ev rfl) (HM.get 2 rfl)) fun a F => ?_
     refine lxw 27 false (.bool true) F (Vl hM hQ e2 (F.ev rfl) (F.ev rfl)) fun a F => ?_
     refine lxv (.bool true) F (Js (b := false) (r := .bool true) (F.ev rfl) rfl (F.ev rfl) rfl) fun a F => ?_
     refine Jj ?_
     repeat first|refine et1 ?_|refine eb1 ?_|refine ws1 ?_|refine wb1 ?_|refine wk1 ?_
     refine wp_cond_true (F.ev rfl) ?_
     repeat first|refine et1 ?_|refine eb1 ?_|refine ws1 ?_|refine wb1 ?_|refine wk1 ?_
     refine wp_region_lit ?_
     refine lxv (.bool false) F (Jk rfl) fun a F => ?_
     refine Jj ?_
     have hV2 : V = false := by rw [hV]; simp [e2]
     repeat first|refine et1 ?_|refine eb1 ?_|refine ws1 ?_|refine wb1 ?_|refine wk1 ?_
     refine wp_ret ?_
     repeat (first | refine Jt ?_ | refine Jp ?_)
     exact hV2 ▸ Ki F HM (Kf F rfl (s := 6) rfl)
    ·repeat first|refine et1 ?_|refine eb1 ?_|refine ws1 ?_|refine wb1 ?_|refine wk1 ?_
     refine wp_region_lit ?_
     refine lxv (rv N Y ((.slice pa la ca))) F (Wa (F.ev rfl) (HM.get 1 rfl)) fun a F => ?_
     refine Jr F (Ja rfl _) rfl (by rfl) (Jl Tryz.func31 (by kernel_rfl) (by rfl) (.cons (F.ev rfl) .nil) _) (c3 _ HM.bel) fun a w z F => ?_
     replace HM := HM.on z
     clear z
     refine lxv (.bool false) F (Vn (b := true) (r := false) (F.ev rfl) rfl) fun a F => ?_
     refine lxv (.bool false) F (Jg (F.ev rfl)) fun a F => ?_
     refine lxw 15 false (rv M Z ((.slice pb lb cb))) F (Wa (F.ev rfl) (HM.get 0 rfl)) fun a F => ?_
     refine Jr F (F.want (t := 15) (c := false) rfl rfl rfl (by rfl) rfl) rfl (by rfl) (Jl Tryz.func31 (by kernel_rfl) (by rfl) (.cons (F.ev rfl) .nil) _) (c4 _ HM.bel) fun a w z F => ?_
     replace HM := HM.on z
     clear z
     refine lxw 15 false (.bool false) F (Vn (b := true) (r := false) (F.ev rfl) rfl) fun a F => ?_
     refine lxv (.bool false) F (Js (b := false) (r := .bool false) (F.ev rfl) rfl (F.ev rfl) rfl) fun a F => ?_
     refine lxv (.bool false) F (Jg (F.ev rfl)) fun a F => ?_
     refine lxw 20 false (.pointer (some ⟨gp, 0, none⟩)) F (Kj (F.ev rfl)) fun a F => ?_
     refine lxw 20 false (num N) F (Ks (F.ev rfl) (HM.get 1 rfl)) fun a F => ?_
     refine lxw 20 false (.pointer (some ⟨gg, 0, none⟩)) F (Ky (F.ev rfl)) fun a F => ?_
     refine lxw 20 false (num P) F (Uf (F.ev rfl) (HM.get 2 rfl)) fun a F => ?_
     refine lxw 20 false (.bool false) F (Vl hN hP e1 (F.ev rfl) (F.ev rfl)) fun a F => ?_
     refine lxv (.bool false) F (Js (b := false) (r := .bool false) (F.ev rfl) rfl (F.ev rfl) rfl) fun a F => ?_
     refine lxv (.bool false) F (Jg (F.ev rfl)) fun a F => ?_
     refine lxw 27 false (.pointer (some ⟨gq, 0, none⟩)) F (Kj (F.ev rfl)) fun a F => ?_
     refine lxw 27 false (num M) F (Ks (F.ev rfl) (HM.get 0 rfl)) fun a F => ?_
     refine lxw 27 false (.pointer (some ⟨gg, 4, none⟩)) F (Wr (F.ev rfl)) fun a F => ?_
     refine lxw 27 false (num Q) F (Xr (F.ev rfl) (HM.get 2 rfl)) fun a F => ?_
     refine lxw 27 false (.bool false) F (Vl hM hQ e2 (F.ev rfl) (F.ev rfl)) fun a F => ?_
     refine lxv (.bool false) F (Js (b := false) (r := .bool false) (F.ev rfl) rfl (F.ev rfl) rfl) fun a F => ?_
     refine Jj ?_
     repeat first|refine et1 ?_|refine eb1 ?_|refine ws1 ?_|refine wb1 ?_|refine wk1 ?_
     refine wp_cond_false (F.ev rfl) ?_
     obtain ⟨S, c, D, R, hR, cS, cD, hg0⟩ := hSD rfl rfl (of_decide_eq_true e1) (of_decide_eq_true e2)
     repeat first|refine et1 ?_|refine eb1 ?_|refine ws1 ?_|refine wb1 ?_|refine wk1 ?_
     try simp only [List.append_eq, List.cons_append, List.nil_append]
     refine Kl [⟨0, 35, [], .val (.pointer (some ⟨gg, 0, none⟩)), true⟩,
   ⟨1, 36, [0], .val (num P), true⟩,
   ⟨7, 7, [], .cell 24 (ncs 0), false⟩,
   ⟨2, 37, [1], .val (num 1), false⟩,
   ⟨3, 38, [1, 3], .val (.tuple #[num S, .int .u64 (c : Nat)]), false⟩,
   ⟨4, 34, [4], .val (.tuple #[num S, .int .u64 (c : Nat)]), true⟩,
   ⟨5, 39, [5], .val (num S), true⟩,
   ⟨6, 40, [5, 6], .val (.int .u64 (c : Nat)), true⟩] 2 F HM (by kernel_rfl) (by rfl) (by rfl) ?_ ?_ ?_ ?_ ?_ ?_ ?_
     ·kernel_rfl
     ·exact of_decide_eq_true (by kernel_rfl)
     ·(repeat refine all_cons ⟨_, by rfl, by rfl⟩ ?_); exact Je
     ·kernel_rfl
     ·(repeat (refine all_cons ?_ ?_; rotate_left)); exact Je
      all_goals try exact Ji _ (by rfl)
      ·exact Jz _ _ _ _ _ _ _ (by rfl) (by rfl) (Jc) (fun ρ w kn hs => Ky (kn _ _ (F.old (by rfl) rfl)))
      ·exact Jz _ _ _ _ _ _ _ (by rfl) (by rfl) (Jc) (fun ρ w kn hs => Uf (kn _ _ (kc 0 35)) (hs.get 2 rfl))
      ·exact Jz _ _ _ _ _ _ _ (by rfl) (by rfl) (Jc) (fun ρ w kn hs => Jg (kn _ _ (kc 4 38)))
      ·exact Jz _ _ _ _ _ _ _ (by rfl) (by rfl) (Jc) (fun ρ w kn hs => Jq (kn _ _ (kc 5 34)) rfl)
      ·exact Jz _ _ _ _ _ _ _ (by rfl) (by rfl) (Jc) (fun ρ w kn hs => Jq (kn _ _ (kc 5 34)) rfl)
     ·(repeat (refine all_cons ?_ ?_; rotate_left)); exact Je
      all_goals try exact sA
      ·exact fun _ => Xb _ _ _ _ _ _ _ _ (by rfl) (by rfl) (Nat.le_refl _) (fun ρ w => Jy)
      ·exact fun _ => Jh _ 18 _ _ [] _ _ _ _ _ _ _ (by rfl) Tryz.func18 (by kernel_rfl) (by rfl) (by rfl) (Jc) .nil (Uh)
      ·exact fun _ => Jh _ 32 _ _ [.tmp 36, .tmp 37] _ _ _ _ _ _ _ (by rfl) Tryz.func32 (by kernel_rfl) (by rfl) (by rfl) (Jc) (.cons (kc 1 36) (.cons (kc 3 37) .nil)) (cS)
     intro gs rs a w hgs hrs F HM
     obtain rfl := nl0 rs hrs
     clear hrs
     obtain ⟨gs, rfl⟩ := nl1 gs hgs
     clear hgs
     refine Ul (i := 8) HM (by kernel_rfl) (by rfl) rfl rfl (k := 0) rfl (Ju (F.ev rfl) (F.ev rfl) (HM.get 0 rfl)) (M2 := [(gs, 24, ncs S), (gq, 29, rcs M Z ((.slice pb lb cb))), (gp, 29, rcs N Y ((.slice pa la ca))), (gg, 26, gcs P Q G H)]) rfl (fun _ h => h.tail (A := [(gs, 24, ncs S)])) fun w HM => ?_
     refine Kx (i := 9) (d := 8) (x := .tmp 40) (v := .int .u64 (c : Nat)) F (HM.tail (A := [(gs, 24, ncs S)])) (by kernel_rfl) (by rfl) (by rfl) (F.ev rfl) fun a F => ?_
     refine Kn (by kernel_rfl) ?_ _
     repeat first|refine et1 ?_|refine eb1 ?_|refine ws1 ?_|refine wb1 ?_|refine wk1 ?_
     refine wp_region_lit ?_
     refine lxv (num S) F (Jn (F.ev rfl) (HM.get 0 rfl)) fun a F => ?_
     refine lxv (.pointer (some ⟨gg, 4, none⟩)) F (Wr (F.ev rfl)) fun a F => ?_
     refine lxv (num Q) F (Xr (F.ev rfl) (HM.get 3 rfl)) fun a F => ?_
     refine Jr F (Ja rfl _) rfl (by rfl) (Jl Tryz.func33 (by kernel_rfl) (by rfl) (.cons (F.ev rfl) (.cons (F.ev rfl) .nil)) _) (cD _) fun a w z F => ?_
     replace HM := HM.on z
     clear z
     refine lxv (.tuple #[num D, num R, .int .i64 0]) F (Jg (F.ev rfl)) fun a F => ?_
     refine lxv (num D) F (Jq (F.ev rfl) rfl) fun a F => ?_
     refine lxv (num R) F (Jq (F.ev rfl) rfl) fun a F => ?_
     refine lxv (.int .i64 0) F (Jq (F.ev rfl) rfl) fun a F => ?_
     refine Jw F HM (Ja rfl _) rfl (by rfl) (Jy) fun a w gd F HM => ?_
     refine Jw F HM (Ja rfl _) rfl (by rfl) (Jy) fun a w gr F HM => ?_
     refine Kd F HM (Ja rfl _) rfl (k := 1) rfl (Ju (F.ev rfl) (F.ev rfl) (HM.get 1 rfl)) (M2 := [(gr, 24, ncs 0), (gd, 24, ncs D), (gs, 24, ncs S), (gq, 29, rcs M Z ((.slice pb lb cb))), (gp, 29, rcs N Y ((.slice pa la ca))), (gg, 26, gcs P Q G H)]) rfl fun w HM => ?_
     refine Kd F HM (Ja rfl _) rfl (k := 0) rfl (Ju (F.ev rfl) (F.ev rfl) (HM.get 0 rfl)) (M2 := [(gr, 24, ncs R), (gd, 24, ncs D), (gs, 24, ncs S), (gq, 29, rcs M Z ((.slice pb lb cb))), (gp, 29, rcs N Y ((.slice pa la ca))), (gg, 26, gcs P Q G H)]) rfl fun w HM => ?_
     refine lxv (.int .i64 0) F (Jk (F.ev rfl)) fun a F => ?_
     refine Jj ?_
     cases g0
     ·repeat first|refine et1 ?_|refine eb1 ?_|refine ws1 ?_|refine wb1 ?_|refine wk1 ?_
      try simp only [List.append_eq, List.cons_append, List.nil_append]
      refine Kl [⟨0, 49, [], .val (num R), true⟩,
   ⟨1, 50, [0], .val (num 0), true⟩,
   ⟨2, 51, [0, 1], .val (.bool false), true⟩,
   ⟨3, 52, [2], .val (.bool false), true⟩,
   ⟨4, 53, [3], .val undef, true⟩,
   ⟨5, 54, [3, 4], .val undef, true⟩,
   ⟨6, 55, [3, 5], .val undef, true⟩,
   ⟨7, 56, [3, 4, 6], .val undef, true⟩,
   ⟨8, 57, [3, 7], .val (.bool false), true⟩,
   ⟨9, 58, [8], .val (.bool false), true⟩,
   ⟨10, 59, [9], .val undef, true⟩,
   ⟨11, 60, [9, 10], .val undef, true⟩,
   ⟨12, 61, [9, 11], .val undef, true⟩,
   ⟨13, 62, [9, 10, 12], .val undef, true⟩,
   ⟨14, 63, [9, 13], .val (.bool false), true⟩,
   ⟨15, 64, [14], .val (.bool false), true⟩,
   ⟨16, 65, [15], .val undef, true⟩,
   ⟨17, 66, [15, 16], .val undef, true⟩,
   ⟨18, 67, [15, 17], .val undef, true⟩,
   ⟨19, 68, [15, 17, 18], .val undef, true⟩,
   ⟨20, 69, [15, 19], .val (.bool false), true⟩,
   ⟨21, 70, [20], .val (.bool false), true⟩,
   ⟨22, 71, [21], .val undef, true⟩,
   ⟨23, 72, [21, 22], .val undef, true⟩,
   ⟨24, 73, [21, 23], .val undef, true⟩,
   ⟨25, 74, [21, 23, 24], .val undef, true⟩,
   ⟨26, 75, [21, 25], .val (.bool false), true⟩] 1 F HM (by kernel_rfl) (by rfl) (by rfl) ?_ ?_ ?_ ?_ ?_ ?_ ?_
      ·kernel_rfl
      ·exact of_decide_eq_true (by kernel_rfl)
      ·(repeat refine all_cons ⟨_, by rfl, by rfl⟩ ?_); exact Je
      ·kernel_rfl
      ·(repeat (refine all_cons ?_ ?_; rotate_left)); exact Je
       ·exact Jz _ _ _ _ _ _ _ (by rfl) (by rfl) (Jc) (fun ρ w kn hs => Jn (kn _ _ (F.old (by rfl) rfl)) (hs.get 0 rfl))
       ·exact Jz _ _ _ _ _ _ _ (by rfl) (by rfl) (Jc) (fun ρ w kn hs => Kq)
       ·exact Jz _ _ _ _ _ _ _ (by rfl) (by rfl) (Jc) (fun ρ w kn hs => Vg hR (show 0 < 2 ^ 256 by decide) hg0 (kn _ _ (kc 0 49)) (kn _ _ (kc 1 50)))
       ·exact Jz _ _ _ _ _ _ _ (by rfl) (by rfl) (Jc) (fun ρ w kn hs => Jg (kn _ _ (kc 2 51)))
       ·exact Jf _ _ _ _ _ _ (by rfl) (by rfl) (wc 3 52 3 (kc 3 52))
       ·exact Jf _ _ _ _ _ _ (by rfl) (by rfl) (wc 3 52 3 (kc 3 52))
       ·exact Jf _ _ _ _ _ _ (by rfl) (by rfl) (wc 3 52 3 (kc 3 52))
       ·exact Jf _ _ _ _ _ _ (by rfl) (by rfl) (wc 3 52 3 (kc 3 52))
       ·exact Jz _ _ _ _ _ _ _ (by rfl) (by rfl) (Jc) (fun ρ w kn hs => Js (b := false) (r := .bool false) (kn _ _ (kc 3 52)) (kn _ _ (kc 7 56)) (kn _ _ (Jd _)) rfl)
       ·exact Jz _ _ _ _ _ _ _ (by rfl) (by rfl) (Jc) (fun ρ w kn hs => Jg (kn _ _ (kc 8 57)))
       ·exact Jf _ _ _ _ _ _ (by rfl) (by rfl) (wc 9 58 9 (kc 9 58))
       ·exact Jf _ _ _ _ _ _ (by rfl) (by rfl) (wc 9 58 9 (kc 9 58))
       ·exact Jf _ _ _ _ _ _ (by rfl) (by rfl) (wc 9 58 9 (kc 9 58))
       ·exact Jf _ _ _ _ _ _ (by rfl) (by rfl) (wc 9 58 9 (kc 9 58))
       ·exact Jz _ _ _ _ _ _ _ (by rfl) (by rfl) (Jc) (fun ρ w kn hs => Js (b := false) (r := .bool false) (kn _ _ (kc 9 58)) (kn _ _ (kc 13 62)) (kn _ _ (Jd _)) rfl)
       ·exact Jz _ _ _ _ _ _ _ (by rfl) (by rfl) (Jc) (fun ρ w kn hs => Jg (kn _ _ (kc 14 63)))
       ·exact Jf _ _ _ _ _ _ (by rfl) (by rfl) (wc 15 64 15 (kc 15 64))
       ·exact Jf _ _ _ _ _ _ (by rfl) (by rfl) (wc 15 64 15 (kc 15 64))
       ·exact Jf _ _ _ _ _ _ (by rfl) (by rfl) (wc 15 64 15 (kc 15 64))
       ·exact Jf _ _ _ _ _ _ (by rfl) (by rfl) (wc 15 64 15 (kc 15 64))
       ·exact Jz _ _ _ _ _ _ _ (by rfl) (by rfl) (Jc) (fun ρ w kn hs => Js (b := false) (r := .bool false) (kn _ _ (kc 15 64)) (kn _ _ (kc 19 68)) (kn _ _ (Jd _)) rfl)
       ·exact Jz _ _ _ _ _ _ _ (by rfl) (by rfl) (Jc) (fun ρ w kn hs => Jg (kn _ _ (kc 20 69)))
       ·exact Jf _ _ _ _ _ _ (by rfl) (by rfl) (wc 21 70 21 (kc 21 70))
       ·exact Jf _ _ _ _ _ _ (by rfl) (by rfl) (wc 21 70 21 (kc 21 70))
       ·exact Jf _ _ _ _ _ _ (by rfl) (by rfl) (wc 21 70 21 (kc 21 70))
       ·exact Jf _ _ _ _ _ _ (by rfl) (by rfl) (wc 21 70 21 (kc 21 70))
       ·exact Jz _ _ _ _ _ _ _ (by rfl) (by rfl) (Jc) (fun ρ w kn hs => Js (b := false) (r := .bool false) (kn _ _ (kc 21 70)) (kn _ _ (kc 25 74)) (kn _ _ (Jd _)) rfl)
      ·(repeat (refine all_cons ?_ ?_; rotate_left)); exact Je
       all_goals try exact sA
      intro gs rs a w hgs hrs F HM
      obtain rfl := nl0 rs hrs
      clear hrs
      obtain rfl := nl0 gs hgs
      clear hgs
      refine Kx (i := 27) (d := 6) (x := .tmp 75) (v := .bool false) F (HM) (by kernel_rfl) (by rfl) (by rfl) (F.ev rfl) fun a F => ?_
      refine Kn (by kernel_rfl) ?_ _
      have hV2 : V = false := by rw [hV]; simp
      repeat first|refine et1 ?_|refine eb1 ?_|refine ws1 ?_|refine wb1 ?_|refine wk1 ?_
      refine wp_ret ?_
      repeat (first | refine Jt ?_ | refine Jp ?_)
      exact hV2 ▸ Ki F HM (Kf F rfl (s := 6) rfl)
     ·cases b1
      ·repeat first|refine et1 ?_|refine eb1 ?_|refine ws1 ?_|refine wb1 ?_|refine wk1 ?_
       try simp only [List.append_eq, List.cons_append, List.nil_append]
       refine Kl [⟨0, 49, [], .val (num R), true⟩,
   ⟨1, 50, [0], .val (num 0), true⟩,
   ⟨2, 51, [0, 1], .val (.bool true), true⟩,
   ⟨3, 52, [2], .val (.bool true), true⟩,
   ⟨4, 53, [3], .val (grp P Q G H), true⟩,
   ⟨5, 54, [3, 4], .val (.pointer (some ⟨gg, 8, none⟩)), true⟩,
   ⟨6, 55, [3, 5], .val (num G), true⟩,
   ⟨7, 56, [3, 4, 6], .val (.bool false), false⟩,
   ⟨8, 57, [3, 7], .val (.bool false), true⟩,
   ⟨9, 58, [8], .val (.bool false), true⟩,
   ⟨10, 59, [9], .val undef, true⟩,
   ⟨11, 60, [9, 10], .val undef, true⟩,
   ⟨12, 61, [9, 11], .val undef, true⟩,
   ⟨13, 62, [9, 10, 12], .val undef, true⟩,
   ⟨14, 63, [9, 13], .val (.bool false), true⟩,
   ⟨15, 64, [14], .val (.bool false), true⟩,
   ⟨16, 65, [15], .val undef, true⟩,
   ⟨17, 66, [15, 16], .val undef, true⟩,
   ⟨18, 67, [15, 17], .val undef, true⟩,
   ⟨19, 68, [15, 17, 18], .val undef, true⟩,
   ⟨20, 69, [15, 19], .val (.bool false), true⟩,
   ⟨21, 70, [20], .val (.bool false), true⟩,
   ⟨22, 71, [21], .val undef, true⟩,
   ⟨23, 72, [21, 22], .val undef, true⟩,
   ⟨24, 73, [21, 23], .val undef, true⟩,
   ⟨25, 74, [21, 23, 24], .val undef, true⟩,
   ⟨26, 75, [21, 25], .val (.bool false), true⟩] 1 F HM (by kernel_rfl) (by rfl) (by rfl) ?_ ?_ ?_ ?_ ?_ ?_ ?_
       ·kernel_rfl
       ·exact of_decide_eq_true (by kernel_rfl)
       ·(repeat refine all_cons ⟨_, by rfl, by rfl⟩ ?_); exact Je
       ·kernel_rfl
       ·(repeat (refine all_cons ?_ ?_; rotate_left)); exact Je
        ·exact Jz _ _ _ _ _ _ _ (by rfl) (by rfl) (Jc) (fun ρ w kn hs => Jn (kn _ _ (F.old (by rfl) rfl)) (hs.get 0 rfl))
        ·exact Jz _ _ _ _ _ _ _ (by rfl) (by rfl) (Jc) (fun ρ w kn hs => Kq)
        ·exact Jz _ _ _ _ _ _ _ (by rfl) (by rfl) (Jc) (fun ρ w kn hs => Vg hR (show 0 < 2 ^ 256 by decide) hg0 (kn _ _ (kc 0 49)) (kn _ _ (kc 1 50)))
        ·exact Jz _ _ _ _ _ _ _ (by rfl) (by rfl) (Jc) (fun ρ w kn hs => Jg (kn _ _ (kc 2 51)))
        ·exact Jz _ _ _ _ _ _ _ (by rfl) (by rfl) (wc 3 52 3 (kc 3 52)) (fun ρ w kn hs => Uj (kn _ _ (F.old (by rfl) rfl)) (hs.get 5 rfl))
        ·exact Jz _ _ _ _ _ _ _ (by rfl) (by rfl) (wc 3 52 3 (kc 3 52)) (fun ρ w kn hs => Vi (kn _ _ (F.old (by rfl) rfl)))
        ·exact Jz _ _ _ _ _ _ _ (by rfl) (by rfl) (wc 3 52 3 (kc 3 52)) (fun ρ w kn hs => Vu (kn _ _ (kc 5 54)) (hs.get 5 rfl))
        ·exact Ji _ (by rfl)
        ·exact Jz _ _ _ _ _ _ _ (by rfl) (by rfl) (Jc) (fun ρ w kn hs => Js (b := true) (r := .bool false) (kn _ _ (kc 3 52)) (kn _ _ (kc 7 56)) (kn _ _ (Jd _)) rfl)
        ·exact Jz _ _ _ _ _ _ _ (by rfl) (by rfl) (Jc) (fun ρ w kn hs => Jg (kn _ _ (kc 8 57)))
        ·exact Jf _ _ _ _ _ _ (by rfl) (by rfl) (wc 9 58 9 (kc 9 58))
        ·exact Jf _ _ _ _ _ _ (by rfl) (by rfl) (wc 9 58 9 (kc 9 58))
        ·exact Jf _ _ _ _ _ _ (by rfl) (by rfl) (wc 9 58 9 (kc 9 58))
        ·exact Jf _ _ _ _ _ _ (by rfl) (by rfl) (wc 9 58 9 (kc 9 58))
        ·exact Jz _ _ _ _ _ _ _ (by rfl) (by rfl) (Jc) (fun ρ w kn hs => Js (b := false) (r := .bool false) (kn _ _ (kc 9 58)) (kn _ _ (kc 13 62)) (kn _ _ (Jd _)) rfl)
        ·exact Jz _ _ _ _ _ _ _ (by rfl) (by rfl) (Jc) (fun ρ w kn hs => Jg (kn _ _ (kc 14 63)))
        ·exact Jf _ _ _ _ _ _ (by rfl) (by rfl) (wc 15 64 15 (kc 15 64))
        ·exact Jf _ _ _ _ _ _ (by rfl) (by rfl) (wc 15 64 15 (kc 15 64))
        ·exact Jf _ _ _ _ _ _ (by rfl) (by rfl) (wc 15 64 15 (kc 15 64))
        ·exact Jf _ _ _ _ _ _ (by rfl) (by rfl) (wc 15 64 15 (kc 15 64))
        ·exact Jz _ _ _ _ _ _ _ (by rfl) (by rfl) (Jc) (fun ρ w kn hs => Js (b := false) (r := .bool false) (kn _ _ (kc 15 64)) (kn _ _ (kc 19 68)) (kn _ _ (Jd _)) rfl)
        ·exact Jz _ _ _ _ _ _ _ (by rfl) (by rfl) (Jc) (fun ρ w kn hs => Jg (kn _ _ (kc 20 69)))
        ·exact Jf _ _ _ _ _ _ (by rfl) (by rfl) (wc 21 70 21 (kc 21 70))
        ·exact Jf _ _ _ _ _ _ (by rfl) (by rfl) (wc 21 70 21 (kc 21 70))
        ·exact Jf _ _ _ _ _ _ (by rfl) (by rfl) (wc 21 70 21 (kc 21 70))
        ·exact Jf _ _ _ _ _ _ (by rfl) (by rfl) (wc 21 70 21 (kc 21 70))
        ·exact Jz _ _ _ _ _ _ _ (by rfl) (by rfl) (Jc) (fun ρ w kn hs => Js (b := false) (r := .bool false) (kn _ _ (kc 21 70)) (kn _ _ (kc 25 74)) (kn _ _ (Jd _)) rfl)
       ·(repeat (refine all_cons ?_ ?_; rotate_left)); exact Je
        all_goals try exact sA
        ·exact fun _ => Jh _ 34 _ _ [.tmp 53, .tmp 55] _ _ _ _ _ _ _ (by rfl) Tryz.func34 (by kernel_rfl) (by rfl) (by rfl) (wc 3 52 3 (kc 3 52)) (.cons (kc 4 53) (.cons (kc 6 55) .nil)) (i1)
       intro gs rs a w hgs hrs F HM
       obtain rfl := nl0 rs hrs
       clear hrs
       obtain rfl := nl0 gs hgs
       clear hgs
       refine Kx (i := 27) (d := 6) (x := .tmp 75) (v := .bool false) F (HM) (by kernel_rfl) (by rfl) (by rfl) (F.ev rfl) fun a F => ?_
       refine Kn (by kernel_rfl) ?_ _
       have hV2 : V = false := by rw [hV]; simp
       repeat first|refine et1 ?_|refine eb1 ?_|refine ws1 ?_|refine wb1 ?_|refine wk1 ?_
       refine wp_ret ?_
       repeat (first | refine Jt ?_ | refine Jp ?_)
       exact hV2 ▸ Ki F HM (Kf F rfl (s := 6) rfl)
      ·cases b2
       ·repeat first|refine et1 ?_|refine eb1 ?_|refine ws1 ?_|refine wb1 ?_|refine wk1 ?_
        try simp only [List.append_eq, List.cons_append, List.nil_append]
        refine Kl [⟨0, 49, [], .val (num R), true⟩,
   ⟨1, 50, [0], .val (num 0), true⟩,
   ⟨2, 51, [0, 1], .val (.bool true), true⟩,
   ⟨3, 52, [2], .val (.bool true), true⟩,
   ⟨4, 53, [3], .val (grp P Q G H), true⟩,
   ⟨5, 54, [3, 4], .val (.pointer (some ⟨gg, 8, none⟩)), true⟩,
   ⟨6, 55, [3, 5], .val (num G), true⟩,
   ⟨7, 56, [3, 4, 6], .val (.bool true), false⟩,
   ⟨8, 57, [3, 7], .val (.bool true), true⟩,
   ⟨9, 58, [8], .val (.bool true), true⟩,
   ⟨10, 59, [9], .val (grp P Q G H), true⟩,
   ⟨11, 60, [9, 10], .val (.pointer (some ⟨gg, 12, none⟩)), true⟩,
   ⟨12, 61, [9, 11], .val (num H), true⟩,
   ⟨13, 62, [9, 10, 12], .val (.bool false), false⟩,
   ⟨14, 63, [9, 13], .val (.bool false), true⟩,
   ⟨15, 64, [14], .val (.bool false), true⟩,
   ⟨16, 65, [15], .val undef, true⟩,
   ⟨17, 66, [15, 16], .val undef, true⟩,
   ⟨18, 67, [15, 17], .val undef, true⟩,
   ⟨19, 68, [15, 17, 18], .val undef, true⟩,
   ⟨20, 69, [15, 19], .val (.bool false), true⟩,
   ⟨21, 70, [20], .val (.bool false), true⟩,
   ⟨22, 71, [21], .val undef, true⟩,
   ⟨23, 72, [21, 22], .val undef, true⟩,
   ⟨24, 73, [21, 23], .val undef, true⟩,
   ⟨25, 74, [21, 23, 24], .val undef, true⟩,
   ⟨26, 75, [21, 25], .val (.bool false), true⟩] 1 F HM (by kernel_rfl) (by rfl) (by rfl) ?_ ?_ ?_ ?_ ?_ ?_ ?_
        ·kernel_rfl
        ·exact of_decide_eq_true (by kernel_rfl)
        ·(repeat refine all_cons ⟨_, by rfl, by rfl⟩ ?_); exact Je
        ·kernel_rfl
        ·(repeat (refine all_cons ?_ ?_; rotate_left)); exact Je
         ·exact Jz _ _ _ _ _ _ _ (by rfl) (by rfl) (Jc) (fun ρ w kn hs => Jn (kn _ _ (F.old (by rfl) rfl)) (hs.get 0 rfl))
         ·exact Jz _ _ _ _ _ _ _ (by rfl) (by rfl) (Jc) (fun ρ w kn hs => Kq)
         ·exact Jz _ _ _ _ _ _ _ (by rfl) (by rfl) (Jc) (fun ρ w kn hs => Vg hR (show 0 < 2 ^ 256 by decide) hg0 (kn _ _ (kc 0 49)) (kn _ _ (kc 1 50)))
         ·exact Jz _ _ _ _ _ _ _ (by rfl) (by rfl) (Jc) (fun ρ w kn hs => Jg (kn _ _ (kc 2 51)))
         ·exact Jz _ _ _ _ _ _ _ (by rfl) (by rfl) (wc 3 52 3 (kc 3 52)) (fun ρ w kn hs => Uj (kn _ _ (F.old (by rfl) rfl)) (hs.get 5 rfl))
         ·exact Jz _ _ _ _ _ _ _ (by rfl) (by rfl) (wc 3 52 3 (kc 3 52)) (fun ρ w kn hs => Vi (kn _ _ (F.old (by rfl) rfl)))
         ·exact Jz _ _ _ _ _ _ _ (by rfl) (by rfl) (wc 3 52 3 (kc 3 52)) (fun ρ w kn hs => Vu (kn _ _ (kc 5 54)) (hs.get 5 rfl))
         ·exact Ji _ (by rfl)
         ·exact Jz _ _ _ _ _ _ _ (by rfl) (by rfl) (Jc) (fun ρ w kn hs => Js (b := true) (r := .bool true) (kn _ _ (kc 3 52)) (kn _ _ (kc 7 56)) (kn _ _ (Jd _)) rfl)
         ·exact Jz _ _ _ _ _ _ _ (by rfl) (by rfl) (Jc) (fun ρ w kn hs => Jg (kn _ _ (kc 8 57)))
         ·exact Jz _ _ _ _ _ _ _ (by rfl) (by rfl) (wc 9 58 9 (kc 9 58)) (fun ρ w kn hs => Uj (kn _ _ (F.old (by rfl) rfl)) (hs.get 5 rfl))
         ·exact Jz _ _ _ _ _ _ _ (by rfl) (by rfl) (wc 9 58 9 (kc 9 58)) (fun ρ w kn hs => Wb (kn _ _ (F.old (by rfl) rfl)))
         ·exact Jz _ _ _ _ _ _ _ (by rfl) (by rfl) (wc 9 58 9 (kc 9 58)) (fun ρ w kn hs => Wu (kn _ _ (kc 11 60)) (hs.get 5 rfl))
         ·exact Ji _ (by rfl)
         ·exact Jz _ _ _ _ _ _ _ (by rfl) (by rfl) (Jc) (fun ρ w kn hs => Js (b := true) (r := .bool false) (kn _ _ (kc 9 58)) (kn _ _ (kc 13 62)) (kn _ _ (Jd _)) rfl)
         ·exact Jz _ _ _ _ _ _ _ (by rfl) (by rfl) (Jc) (fun ρ w kn hs => Jg (kn _ _ (kc 14 63)))
         ·exact Jf _ _ _ _ _ _ (by rfl) (by rfl) (wc 15 64 15 (kc 15 64))
         ·exact Jf _ _ _ _ _ _ (by rfl) (by rfl) (wc 15 64 15 (kc 15 64))
         ·exact Jf _ _ _ _ _ _ (by rfl) (by rfl) (wc 15 64 15 (kc 15 64))
         ·exact Jf _ _ _ _ _ _ (by rfl) (by rfl) (wc 15 64 15 (kc 15 64))
         ·exact Jz _ _ _ _ _ _ _ (by rfl) (by rfl) (Jc) (fun ρ w kn hs => Js (b := false) (r := .bool false) (kn _ _ (kc 15 64)) (kn _ _ (kc 19 68)) (kn _ _ (Jd _)) rfl)
         ·exact Jz _ _ _ _ _ _ _ (by rfl) (by rfl) (Jc) (fun ρ w kn hs => Jg (kn _ _ (kc 20 69)))
         ·exact Jf _ _ _ _ _ _ (by rfl) (by rfl) (wc 21 70 21 (kc 21 70))
         ·exact Jf _ _ _ _ _ _ (by rfl) (by rfl) (wc 21 70 21 (kc 21 70))
         ·exact Jf _ _ _ _ _ _ (by rfl) (by rfl) (wc 21 70 21 (kc 21 70))
         ·exact Jf _ _ _ _ _ _ (by rfl) (by rfl) (wc 21 70 21 (kc 21 70))
         ·exact Jz _ _ _ _ _ _ _ (by rfl) (by rfl) (Jc) (fun ρ w kn hs => Js (b := false) (r := .bool false) (kn _ _ (kc 21 70)) (kn _ _ (kc 25 74)) (kn _ _ (Jd _)) rfl)
        ·(repeat (refine all_cons ?_ ?_; rotate_left)); exact Je
         all_goals try exact sA
         ·exact fun _ => Jh _ 34 _ _ [.tmp 53, .tmp 55] _ _ _ _ _ _ _ (by rfl) Tryz.func34 (by kernel_rfl) (by rfl) (by rfl) (wc 3 52 3 (kc 3 52)) (.cons (kc 4 53) (.cons (kc 6 55) .nil)) (i1)
         ·exact fun _ => Jh _ 34 _ _ [.tmp 59, .tmp 61] _ _ _ _ _ _ _ (by rfl) Tryz.func34 (by kernel_rfl) (by rfl) (by rfl) (wc 9 58 9 (kc 9 58)) (.cons (kc 10 59) (.cons (kc 12 61) .nil)) (i2)
        intro gs rs a w hgs hrs F HM
        obtain rfl := nl0 rs hrs
        clear hrs
        obtain rfl := nl0 gs hgs
        clear hgs
        refine Kx (i := 27) (d := 6) (x := .tmp 75) (v := .bool false) F (HM) (by kernel_rfl) (by rfl) (by rfl) (F.ev rfl) fun a F => ?_
        refine Kn (by kernel_rfl) ?_ _
        have hV2 : V = false := by rw [hV]; simp
        repeat first|refine et1 ?_|refine eb1 ?_|refine ws1 ?_|refine wb1 ?_|refine wk1 ?_
        refine wp_ret ?_
        repeat (first | refine Jt ?_ | refine Jp ?_)
        exact hV2 ▸ Ki F HM (Kf F rfl (s := 6) rfl)
       ·rcases g1 : decide (G = 1) with _ | _
        ·rcases g2 : decide (H = 1) with _ | _
         ·repeat first|refine et1 ?_|refine eb1 ?_|refine ws1 ?_|refine wb1 ?_|refine wk1 ?_
          try simp only [List.append_eq, List.cons_append, List.nil_append]
          refine Kl [⟨0, 49, [], .val (num R), true⟩,
   ⟨1, 50, [0], .val (num 0), true⟩,
   ⟨2, 51, [0, 1], .val (.bool true), true⟩,
   ⟨3, 52, [2], .val (.bool true), true⟩,
   ⟨4, 53, [3], .val (grp P Q G H), true⟩,
   ⟨5, 54, [3, 4], .val (.pointer (some ⟨gg, 8, none⟩)), true⟩,
   ⟨6, 55, [3, 5], .val (num G), true⟩,
   ⟨7, 56, [3, 4, 6], .val (.bool true), false⟩,
   ⟨8, 57, [3, 7], .val (.bool true), true⟩,
   ⟨9, 58, [8], .val (.bool true), true⟩,
   ⟨10, 59, [9], .val (grp P Q G H), true⟩,
   ⟨11, 60, [9, 10], .val (.pointer (some ⟨gg, 12, none⟩)), true⟩,
   ⟨12, 61, [9, 11], .val (num H), true⟩,
   ⟨13, 62, [9, 10, 12], .val (.bool true), false⟩,
   ⟨14, 63, [9, 13], .val (.bool true), true⟩,
   ⟨15, 64, [14], .val (.bool true), true⟩,
   ⟨16, 65, [15], .val (.pointer (some ⟨gg, 8, none⟩)), true⟩,
   ⟨17, 66, [15, 16], .val (num G), true⟩,
   ⟨18, 67, [15, 17], .val (num 1), false⟩,
   ⟨19, 68, [15, 17, 18], .val (.bool true), true⟩,
   ⟨20, 69, [15, 19], .val (.bool true), true⟩,
   ⟨21, 70, [20], .val (.bool true), true⟩,
   ⟨22, 71, [21], .val (.pointer (some ⟨gg, 12, none⟩)), true⟩,
   ⟨23, 72, [21, 22], .val (num H), true⟩,
   ⟨24, 73, [21, 23], .val (num 1), false⟩,
   ⟨25, 74, [21, 23, 24], .val (.bool true), true⟩,
   ⟨26, 75, [21, 25], .val (.bool true), true⟩] 1 F HM (by kernel_rfl) (by rfl) (by rfl) ?_ ?_ ?_ ?_ ?_ ?_ ?_
          ·kernel_rfl
          ·exact of_decide_eq_true (by kernel_rfl)
          ·(repeat refine all_cons ⟨_, by rfl, by rfl⟩ ?_); exact Je
          ·kernel_rfl
          ·(repeat (refine all_cons ?_ ?_; rotate_left)); exact Je
           all_goals try exact Ji _ (by rfl)
           ·exact Jz _ _ _ _ _ _ _ (by rfl) (by rfl) (Jc) (fun ρ w kn hs => Jn (kn _ _ (F.old (by rfl) rfl)) (hs.get 0 rfl))
           ·exact Jz _ _ _ _ _ _ _ (by rfl) (by rfl) (Jc) (fun ρ w kn hs => Kq)
           ·exact Jz _ _ _ _ _ _ _ (by rfl) (by rfl) (Jc) (fun ρ w kn hs => Vg hR (show 0 < 2 ^ 256 by decide) hg0 (kn _ _ (kc 0 49)) (kn _ _ (kc 1 50)))
           ·exact Jz _ _ _ _ _ _ _ (by rfl) (by rfl) (Jc) (fun ρ w kn hs => Jg (kn _ _ (kc 2 51)))
           ·exact Jz _ _ _ _ _ _ _ (by rfl) (by rfl) (wc 3 52 3 (kc 3 52)) (fun ρ w kn hs => Uj (kn _ _ (F.old (by rfl) rfl)) (hs.get 5 rfl))
           ·exact Jz _ _ _ _ _ _ _ (by rfl) (by rfl) (wc 3 52 3 (kc 3 52)) (fun ρ w kn hs => Vi (kn _ _ (F.old (by rfl) rfl)))
           ·exact Jz _ _ _ _ _ _ _ (by rfl) (by rfl) (wc 3 52 3 (kc 3 52)) (fun ρ w kn hs => Vu (kn _ _ (kc 5 54)) (hs.get 5 rfl))
           ·exact Jz _ _ _ _ _ _ _ (by rfl) (by rfl) (Jc) (fun ρ w kn hs => Js (b := true) (r := .bool true) (kn _ _ (kc 3 52)) (kn _ _ (kc 7 56)) (kn _ _ (Jd _)) rfl)
           ·exact Jz _ _ _ _ _ _ _ (by rfl) (by rfl) (Jc) (fun ρ w kn hs => Jg (kn _ _ (kc 8 57)))
           ·exact Jz _ _ _ _ _ _ _ (by rfl) (by rfl) (wc 9 58 9 (kc 9 58)) (fun ρ w kn hs => Uj (kn _ _ (F.old (by rfl) rfl)) (hs.get 5 rfl))
           ·exact Jz _ _ _ _ _ _ _ (by rfl) (by rfl) (wc 9 58 9 (kc 9 58)) (fun ρ w kn hs => Wb (kn _ _ (F.old (by rfl) rfl)))
           ·exact Jz _ _ _ _ _ _ _ (by rfl) (by rfl) (wc 9 58 9 (kc 9 58)) (fun ρ w kn hs => Wu (kn _ _ (kc 11 60)) (hs.get 5 rfl))
           ·exact Jz _ _ _ _ _ _ _ (by rfl) (by rfl) (Jc) (fun ρ w kn hs => Js (b := true) (r := .bool true) (kn _ _ (kc 9 58)) (kn _ _ (kc 13 62)) (kn _ _ (Jd _)) rfl)
           ·exact Jz _ _ _ _ _ _ _ (by rfl) (by rfl) (Jc) (fun ρ w kn hs => Jg (kn _ _ (kc 14 63)))
           ·exact Jz _ _ _ _ _ _ _ (by rfl) (by rfl) (wc 15 64 15 (kc 15 64)) (fun ρ w kn hs => Vi (kn _ _ (F.old (by rfl) rfl)))
           ·exact Jz _ _ _ _ _ _ _ (by rfl) (by rfl) (wc 15 64 15 (kc 15 64)) (fun ρ w kn hs => Vu (kn _ _ (kc 16 65)) (hs.get 5 rfl))
           ·exact Jz _ _ _ _ _ _ _ (by rfl) (by rfl) (wc 15 64 15 (kc 15 64)) (fun ρ w kn hs => Vl hG (show 1 < 2 ^ 256 by decide) g1 (kn _ _ (kc 17 66)) (kn _ _ (kc 18 67)))
           ·exact Jz _ _ _ _ _ _ _ (by rfl) (by rfl) (Jc) (fun ρ w kn hs => Js (b := true) (r := .bool true) (kn _ _ (kc 15 64)) (kn _ _ (kc 19 68)) (kn _ _ (Jd _)) rfl)
           ·exact Jz _ _ _ _ _ _ _ (by rfl) (by rfl) (Jc) (fun ρ w kn hs => Jg (kn _ _ (kc 20 69)))
           ·exact Jz _ _ _ _ _ _ _ (by rfl) (by rfl) (wc 21 70 21 (kc 21 70)) (fun ρ w kn hs => Wb (kn _ _ (F.old (by rfl) rfl)))
           ·exact Jz _ _ _ _ _ _ _ (by rfl) (by rfl) (wc 21 70 21 (kc 21 70)) (fun ρ w kn hs => Wu (kn _ _ (kc 22 71)) (hs.get 5 rfl))
           ·exact Jz _ _ _ _ _ _ _ (by rfl) (by rfl) (wc 21 70 21 (kc 21 70)) (fun ρ w kn hs => Vl hH (show 1 < 2 ^ 256 by decide) g2 (kn _ _ (kc 23 72)) (kn _ _ (kc 24 73)))
           ·exact Jz _ _ _ _ _ _ _ (by rfl) (by rfl) (Jc) (fun ρ w kn hs => Js (b := true) (r := .bool true) (kn _ _ (kc 21 70)) (kn _ _ (kc 25 74)) (kn _ _ (Jd _)) rfl)
          ·(repeat (refine all_cons ?_ ?_; rotate_left)); exact Je
           all_goals try exact sA
           ·exact fun _ => Jh _ 34 _ _ [.tmp 53, .tmp 55] _ _ _ _ _ _ _ (by rfl) Tryz.func34 (by kernel_rfl) (by rfl) (by rfl) (wc 3 52 3 (kc 3 52)) (.cons (kc 4 53) (.cons (kc 6 55) .nil)) (i1)
           ·exact fun _ => Jh _ 34 _ _ [.tmp 59, .tmp 61] _ _ _ _ _ _ _ (by rfl) Tryz.func34 (by kernel_rfl) (by rfl) (by rfl) (wc 9 58 9 (kc 9 58)) (.cons (kc 10 59) (.cons (kc 12 61) .nil)) (i2)
           ·exact fun _ => Jh _ 18 _ _ [] _ _ _ _ _ _ _ (by rfl) Tryz.func18 (by kernel_rfl) (by rfl) (by rfl) (wc 15 64 15 (kc 15 64)) .nil (Uh)
           ·exact fun _ => Jh _ 18 _ _ [] _ _ _ _ _ _ _ (by rfl) Tryz.func18 (by kernel_rfl) (by rfl) (by rfl) (wc 21 70 21 (kc 21 70)) .nil (Uh)
          intro gs rs a w hgs hrs F HM
          obtain rfl := nl0 rs hrs
          clear hrs
          obtain rfl := nl0 gs hgs
          clear hgs
          refine Kx (i := 27) (d := 6) (x := .tmp 75) (v := .bool true) F (HM) (by kernel_rfl) (by rfl) (by rfl) (F.ev rfl) fun a F => ?_
          refine Kn (by kernel_rfl) ?_ _
          have hV2 : V = true := by rw [hV]; simp [e1, e2, hg0, g1, g2]
          repeat first|refine et1 ?_|refine eb1 ?_|refine ws1 ?_|refine wb1 ?_|refine wk1 ?_
          refine wp_ret ?_
          repeat (first | refine Jt ?_ | refine Jp ?_)
          exact hV2 ▸ Ki F HM (Kf F rfl (s := 6) rfl)
         ·repeat first|refine et1 ?_|refine eb1 ?_|refine ws1 ?_|refine wb1 ?_|refine wk1 ?_
          try simp only [List.append_eq, List.cons_append, List.nil_append]
          refine Kl [⟨0, 49, [], .val (num R), true⟩,
   ⟨1, 50, [0], .val (num 0), true⟩,
   ⟨2, 51, [0, 1], .val (.bool true), true⟩,
   ⟨3, 52, [2], .val (.bool true), true⟩,
   ⟨4, 53, [3], .val (grp P Q G H), true⟩,
   ⟨5, 54, [3, 4], .val (.pointer (some ⟨gg, 8, none⟩)), true⟩,
   ⟨6, 55, [3, 5], .val (num G), true⟩,
   ⟨7, 56, [3, 4, 6], .val (.bool true), false⟩,
   ⟨8, 57, [3, 7], .val (.bool true), true⟩,
   ⟨9, 58, [8], .val (.bool true), true⟩,
   ⟨10, 59, [9], .val (grp P Q G H), true⟩,
   ⟨11, 60, [9, 10], .val (.pointer (some ⟨gg, 12, none⟩)), true⟩,
   ⟨12, 61, [9, 11], .val (num H), true⟩,
   ⟨13, 62, [9, 10, 12], .val (.bool true), false⟩,
   ⟨14, 63, [9, 13], .val (.bool true), true⟩,
   ⟨15, 64, [14], .val (.bool true), true⟩,
   ⟨16, 65, [15], .val (.pointer (some ⟨gg, 8, none⟩)), true⟩,
   ⟨17, 66, [15, 16], .val (num G), true⟩,
   ⟨18, 67, [15, 17], .val (num 1), false⟩,
   ⟨19, 68, [15, 17, 18], .val (.bool true), true⟩,
   ⟨20, 69, [15, 19], .val (.bool true), true⟩,
   ⟨21, 70, [20], .val (.bool true), true⟩,
   ⟨22, 71, [21], .val (.pointer (some ⟨gg, 12, none⟩)), true⟩,
   ⟨23, 72, [21, 22], .val (num H), true⟩,
   ⟨24, 73, [21, 23], .val (num 1), false⟩,
   ⟨25, 74, [21, 23, 24], .val (.bool false), true⟩,
   ⟨26, 75, [21, 25], .val (.bool false), true⟩] 1 F HM (by kernel_rfl) (by rfl) (by rfl) ?_ ?_ ?_ ?_ ?_ ?_ ?_
          ·kernel_rfl
          ·exact of_decide_eq_true (by kernel_rfl)
          ·(repeat refine all_cons ⟨_, by rfl, by rfl⟩ ?_); exact Je
          ·kernel_rfl
          ·(repeat (refine all_cons ?_ ?_; rotate_left)); exact Je
           all_goals try exact Ji _ (by rfl)
           ·exact Jz _ _ _ _ _ _ _ (by rfl) (by rfl) (Jc) (fun ρ w kn hs => Jn (kn _ _ (F.old (by rfl) rfl)) (hs.get 0 rfl))
           ·exact Jz _ _ _ _ _ _ _ (by rfl) (by rfl) (Jc) (fun ρ w kn hs => Kq)
           ·exact Jz _ _ _ _ _ _ _ (by rfl) (by rfl) (Jc) (fun ρ w kn hs => Vg hR (show 0 < 2 ^ 256 by decide) hg0 (kn _ _ (kc 0 49)) (kn _ _ (kc 1 50)))
           ·exact Jz _ _ _ _ _ _ _ (by rfl) (by rfl) (Jc) (fun ρ w kn hs => Jg (kn _ _ (kc 2 51)))
           ·exact Jz _ _ _ _ _ _ _ (by rfl) (by rfl) (wc 3 52 3 (kc 3 52)) (fun ρ w kn hs => Uj (kn _ _ (F.old (by rfl) rfl)) (hs.get 5 rfl))
           ·exact Jz _ _ _ _ _ _ _ (by rfl) (by rfl) (wc 3 52 3 (kc 3 52)) (fun ρ w kn hs => Vi (kn _ _ (F.old (by rfl) rfl)))
           ·exact Jz _ _ _ _ _ _ _ (by rfl) (by rfl) (wc 3 52 3 (kc 3 52)) (fun ρ w kn hs => Vu (kn _ _ (kc 5 54)) (hs.get 5 rfl))
           ·exact Jz _ _ _ _ _ _ _ (by rfl) (by rfl) (Jc) (fun ρ w kn hs => Js (b := true) (r := .bool true) (kn _ _ (kc 3 52)) (kn _ _ (kc 7 56)) (kn _ _ (Jd _)) rfl)
           ·exact Jz _ _ _ _ _ _ _ (by rfl) (by rfl) (Jc) (fun ρ w kn hs => Jg (kn _ _ (kc 8 57)))
           ·exact Jz _ _ _ _ _ _ _ (by rfl) (by rfl) (wc 9 58 9 (kc 9 58)) (fun ρ w kn hs => Uj (kn _ _ (F.old (by rfl) rfl)) (hs.get 5 rfl))
           ·exact Jz _ _ _ _ _ _ _ (by rfl) (by rfl) (wc 9 58 9 (kc 9 58)) (fun ρ w kn hs => Wb (kn _ _ (F.old (by rfl) rfl)))
           ·exact Jz _ _ _ _ _ _ _ (by rfl) (by rfl) (wc 9 58 9 (kc 9 58)) (fun ρ w kn hs => Wu (kn _ _ (kc 11 60)) (hs.get 5 rfl))
           ·exact Jz _ _ _ _ _ _ _ (by rfl) (by rfl) (Jc) (fun ρ w kn hs => Js (b := true) (r := .bool true) (kn _ _ (kc 9 58)) (kn _ _ (kc 13 62)) (kn _ _ (Jd _)) rfl)
           ·exact Jz _ _ _ _ _ _ _ (by rfl) (by rfl) (Jc) (fun ρ w kn hs => Jg (kn _ _ (kc 14 63)))
           ·exact Jz _ _ _ _ _ _ _ (by rfl) (by rfl) (wc 15 64 15 (kc 15 64)) (fun ρ w kn hs => Vi (kn _ _ (F.old (by rfl) rfl)))
           ·exact Jz _ _ _ _ _ _ _ (by rfl) (by rfl) (wc 15 64 15 (kc 15 64)) (fun ρ w kn hs => Vu (kn _ _ (kc 16 65)) (hs.get 5 rfl))
           ·exact Jz _ _ _ _ _ _ _ (by rfl) (by rfl) (wc 15 64 15 (kc 15 64)) (fun ρ w kn hs => Vl hG (show 1 < 2 ^ 256 by decide) g1 (kn _ _ (kc 17 66)) (kn _ _ (kc 18 67)))
           ·exact Jz _ _ _ _ _ _ _ (by rfl) (by rfl) (Jc) (fun ρ w kn hs => Js (b := true) (r := .bool true) (kn _ _ (kc 15 64)) (kn _ _ (kc 19 68)) (kn _ _ (Jd _)) rfl)
           ·exact Jz _ _ _ _ _ _ _ (by rfl) (by rfl) (Jc) (fun ρ w kn hs => Jg (kn _ _ (kc 20 69)))
           ·exact Jz _ _ _ _ _ _ _ (by rfl) (by rfl) (wc 21 70 21 (kc 21 70)) (fun ρ w kn hs => Wb (kn _ _ (F.old (by rfl) rfl)))
           ·exact Jz _ _ _ _ _ _ _ (by rfl) (by rfl) (wc 21 70 21 (kc 21 70)) (fun ρ w kn hs => Wu (kn _ _ (kc 22 71)) (hs.get 5 rfl))
           ·exact Jz _ _ _ _ _ _ _ (by rfl) (by rfl) (wc 21 70 21 (kc 21 70)) (fun ρ w kn hs => Vl hH (show 1 < 2 ^ 256 by decide) g2 (kn _ _ (kc 23 72)) (kn _ _ (kc 24 73)))
           ·exact Jz _ _ _ _ _ _ _ (by rfl) (by rfl) (Jc) (fun ρ w kn hs => Js (b := true) (r := .bool false) (kn _ _ (kc 21 70)) (kn _ _ (kc 25 74)) (kn _ _ (Jd _)) rfl)
          ·(repeat (refine all_cons ?_ ?_; rotate_left)); exact Je
           all_goals try exact sA
           ·exact fun _ => Jh _ 34 _ _ [.tmp 53, .tmp 55] _ _ _ _ _ _ _ (by rfl) Tryz.func34 (by kernel_rfl) (by rfl) (by rfl) (wc 3 52 3 (kc 3 52)) (.cons (kc 4 53) (.cons (kc 6 55) .nil)) (i1)
           ·exact fun _ => Jh _ 34 _ _ [.tmp 59, .tmp 61] _ _ _ _ _ _ _ (by rfl) Tryz.func34 (by kernel_rfl) (by rfl) (by rfl) (wc 9 58 9 (kc 9 58)) (.cons (kc 10 59) (.cons (kc 12 61) .nil)) (i2)
           ·exact fun _ => Jh _ 18 _ _ [] _ _ _ _ _ _ _ (by rfl) Tryz.func18 (by kernel_rfl) (by rfl) (by rfl) (wc 15 64 15 (kc 15 64)) .nil (Uh)
           ·exact fun _ => Jh _ 18 _ _ [] _ _ _ _ _ _ _ (by rfl) Tryz.func18 (by kernel_rfl) (by rfl) (by rfl) (wc 21 70 21 (kc 21 70)) .nil (Uh)
          intro gs rs a w hgs hrs F HM
          obtain rfl := nl0 rs hrs
          clear hrs
          obtain rfl := nl0 gs hgs
          clear hgs
          refine Kx (i := 27) (d := 6) (x := .tmp 75) (v := .bool false) F (HM) (by kernel_rfl) (by rfl) (by rfl) (F.ev rfl) fun a F => ?_
          refine Kn (by kernel_rfl) ?_ _
          have hV2 : V = false := by rw [hV]; simp [of_decide_eq_true g2]
          repeat first|refine et1 ?_|refine eb1 ?_|refine ws1 ?_|refine wb1 ?_|refine wk1 ?_
          refine wp_ret ?_
          repeat (first | refine Jt ?_ | refine Jp ?_)
          exact hV2 ▸ Ki F HM (Kf F rfl (s := 6) rfl)
        ·repeat first|refine et1 ?_|refine eb1 ?_|refine ws1 ?_|refine wb1 ?_|refine wk1 ?_
         try simp only [List.append_eq, List.cons_append, List.nil_append]
         refine Kl [⟨0, 49, [], .val (num R), true⟩,
   ⟨1, 50, [0], .val (num 0), true⟩,
   ⟨2, 51, [0, 1], .val (.bool true), true⟩,
   ⟨3, 52, [2], .val (.bool true), true⟩,
   ⟨4, 53, [3], .val (grp P Q G H), true⟩,
   ⟨5, 54, [3, 4], .val (.pointer (some ⟨gg, 8, none⟩)), true⟩,
   ⟨6, 55, [3, 5], .val (num G), true⟩,
   ⟨7, 56, [3, 4, 6], .val (.bool true), false⟩,
   ⟨8, 57, [3, 7], .val (.bool true), true⟩,
   ⟨9, 58, [8], .val (.bool true), true⟩,
   ⟨10, 59, [9], .val (grp P Q G H), true⟩,
   ⟨11, 60, [9, 10], .val (.pointer (some ⟨gg, 12, none⟩)), true⟩,
   ⟨12, 61, [9, 11], .val (num H), true⟩,
   ⟨13, 62, [9, 10, 12], .val (.bool true), false⟩,
   ⟨14, 63, [9, 13], .val (.bool true), true⟩,
   ⟨15, 64, [14], .val (.bool true), true⟩,
   ⟨16, 65, [15], .val (.pointer (some ⟨gg, 8, none⟩)), true⟩,
   ⟨17, 66, [15, 16], .val (num G), true⟩,
   ⟨18, 67, [15, 17], .val (num 1), false⟩,
   ⟨19, 68, [15, 17, 18], .val (.bool false), true⟩,
   ⟨20, 69, [15, 19], .val (.bool false), true⟩,
   ⟨21, 70, [20], .val (.bool false), true⟩,
   ⟨22, 71, [21], .val undef, true⟩,
   ⟨23, 72, [21, 22], .val undef, true⟩,
   ⟨24, 73, [21, 23], .val undef, true⟩,
   ⟨25, 74, [21, 23, 24], .val undef, true⟩,
   ⟨26, 75, [21, 25], .val (.bool false), true⟩] 1 F HM (by kernel_rfl) (by rfl) (by rfl) ?_ ?_ ?_ ?_ ?_ ?_ ?_
         ·kernel_rfl
         ·exact of_decide_eq_true (by kernel_rfl)
         ·(repeat refine all_cons ⟨_, by rfl, by rfl⟩ ?_); exact Je
         ·kernel_rfl
         ·(repeat (refine all_cons ?_ ?_; rotate_left)); exact Je
          all_goals try exact Ji _ (by rfl)
          ·exact Jz _ _ _ _ _ _ _ (by rfl) (by rfl) (Jc) (fun ρ w kn hs => Jn (kn _ _ (F.old (by rfl) rfl)) (hs.get 0 rfl))
          ·exact Jz _ _ _ _ _ _ _ (by rfl) (by rfl) (Jc) (fun ρ w kn hs => Kq)
          ·exact Jz _ _ _ _ _ _ _ (by rfl) (by rfl) (Jc) (fun ρ w kn hs => Vg hR (show 0 < 2 ^ 256 by decide) hg0 (kn _ _ (kc 0 49)) (kn _ _ (kc 1 50)))
          ·exact Jz _ _ _ _ _ _ _ (by rfl) (by rfl) (Jc) (fun ρ w kn hs => Jg (kn _ _ (kc 2 51)))
          ·exact Jz _ _ _ _ _ _ _ (by rfl) (by rfl) (wc 3 52 3 (kc 3 52)) (fun ρ w kn hs => Uj (kn _ _ (F.old (by rfl) rfl)) (hs.get 5 rfl))
          ·exact Jz _ _ _ _ _ _ _ (by rfl) (by rfl) (wc 3 52 3 (kc 3 52)) (fun ρ w kn hs => Vi (kn _ _ (F.old (by rfl) rfl)))
          ·exact Jz _ _ _ _ _ _ _ (by rfl) (by rfl) (wc 3 52 3 (kc 3 52)) (fun ρ w kn hs => Vu (kn _ _ (kc 5 54)) (hs.get 5 rfl))
          ·exact Jz _ _ _ _ _ _ _ (by rfl) (by rfl) (Jc) (fun ρ w kn hs => Js (b := true) (r := .bool true) (kn _ _ (kc 3 52)) (kn _ _ (kc 7 56)) (kn _ _ (Jd _)) rfl)
          ·exact Jz _ _ _ _ _ _ _ (by rfl) (by rfl) (Jc) (fun ρ w kn hs => Jg (kn _ _ (kc 8 57)))
          ·exact Jz _ _ _ _ _ _ _ (by rfl) (by rfl) (wc 9 58 9 (kc 9 58)) (fun ρ w kn hs => Uj (kn _ _ (F.old (by rfl) rfl)) (hs.get 5 rfl))
          ·exact Jz _ _ _ _ _ _ _ (by rfl) (by rfl) (wc 9 58 9 (kc 9 58)) (fun ρ w kn hs => Wb (kn _ _ (F.old (by rfl) rfl)))
          ·exact Jz _ _ _ _ _ _ _ (by rfl) (by rfl) (wc 9 58 9 (kc 9 58)) (fun ρ w kn hs => Wu (kn _ _ (kc 11 60)) (hs.get 5 rfl))
          ·exact Jz _ _ _ _ _ _ _ (by rfl) (by rfl) (Jc) (fun ρ w kn hs => Js (b := true) (r := .bool true) (kn _ _ (kc 9 58)) (kn _ _ (kc 13 62)) (kn _ _ (Jd _)) rfl)
          ·exact Jz _ _ _ _ _ _ _ (by rfl) (by rfl) (Jc) (fun ρ w kn hs => Jg (kn _ _ (kc 14 63)))
          ·exact Jz _ _ _ _ _ _ _ (by rfl) (by rfl) (wc 15 64 15 (kc 15 64)) (fun ρ w kn hs => Vi (kn _ _ (F.old (by rfl) rfl)))
          ·exact Jz _ _ _ _ _ _ _ (by rfl) (by rfl) (wc 15 64 15 (kc 15 64)) (fun ρ w kn hs => Vu (kn _ _ (kc 16 65)) (hs.get 5 rfl))
          ·exact Jz _ _ _ _ _ _ _ (by rfl) (by rfl) (wc 15 64 15 (kc 15 64)) (fun ρ w kn hs => Vl hG (show 1 < 2 ^ 256 by decide) g1 (kn _ _ (kc 17 66)) (kn _ _ (kc 18 67)))
          ·exact Jz _ _ _ _ _ _ _ (by rfl) (by rfl) (Jc) (fun ρ w kn hs => Js (b := true) (r := .bool false) (kn _ _ (kc 15 64)) (kn _ _ (kc 19 68)) (kn _ _ (Jd _)) rfl)
          ·exact Jz _ _ _ _ _ _ _ (by rfl) (by rfl) (Jc) (fun ρ w kn hs => Jg (kn _ _ (kc 20 69)))
          ·exact Jf _ _ _ _ _ _ (by rfl) (by rfl) (wc 21 70 21 (kc 21 70))
          ·exact Jf _ _ _ _ _ _ (by rfl) (by rfl) (wc 21 70 21 (kc 21 70))
          ·exact Jf _ _ _ _ _ _ (by rfl) (by rfl) (wc 21 70 21 (kc 21 70))
          ·exact Jf _ _ _ _ _ _ (by rfl) (by rfl) (wc 21 70 21 (kc 21 70))
          ·exact Jz _ _ _ _ _ _ _ (by rfl) (by rfl) (Jc) (fun ρ w kn hs => Js (b := false) (r := .bool false) (kn _ _ (kc 21 70)) (kn _ _ (kc 25 74)) (kn _ _ (Jd _)) rfl)
         ·(repeat (refine all_cons ?_ ?_; rotate_left)); exact Je
          all_goals try exact sA
          ·exact fun _ => Jh _ 34 _ _ [.tmp 53, .tmp 55] _ _ _ _ _ _ _ (by rfl) Tryz.func34 (by kernel_rfl) (by rfl) (by rfl) (wc 3 52 3 (kc 3 52)) (.cons (kc 4 53) (.cons (kc 6 55) .nil)) (i1)
          ·exact fun _ => Jh _ 34 _ _ [.tmp 59, .tmp 61] _ _ _ _ _ _ _ (by rfl) Tryz.func34 (by kernel_rfl) (by rfl) (by rfl) (wc 9 58 9 (kc 9 58)) (.cons (kc 10 59) (.cons (kc 12 61) .nil)) (i2)
          ·exact fun _ => Jh _ 18 _ _ [] _ _ _ _ _ _ _ (by rfl) Tryz.func18 (by kernel_rfl) (by rfl) (by rfl) (wc 15 64 15 (kc 15 64)) .nil (Uh)
         intro gs rs a w hgs hrs F HM
         obtain rfl := nl0 rs hrs
         clear hrs
         obtain rfl := nl0 gs hgs
         clear hgs
         refine Kx (i := 27) (d := 6) (x := .tmp 75) (v := .bool false) F (HM) (by kernel_rfl) (by rfl) (by rfl) (F.ev rfl) fun a F => ?_
         refine Kn (by kernel_rfl) ?_ _
         have hV2 : V = false := by rw [hV]; simp [of_decide_eq_true g1]
         repeat first|refine et1 ?_|refine eb1 ?_|refine ws1 ?_|refine wb1 ?_|refine wk1 ?_
         refine wp_ret ?_
         repeat (first | refine Jt ?_ | refine Jp ?_)
         exact hV2 ▸ Ki F HM (Kf F rfl (s := 6) rfl)

theorem r8check_any (P Q G H : Nat) (r1 r2 : Pr.Rsn) (pa pb : Option Addr) (ca cb : Nat) (w : World) (hP : P < 2 ^ 256) (hQ : Q < 2 ^ 256) (hG : G < 2 ^ 256) (hH : H < 2 ^ 256) (h1 : r1.n < 2 ^ 256) (h2 : r2.n < 2 ^ 256) (y1 : r1.w < 2 ^ 256) (y2 : r2.w < 2 ^ 256)
  (s1 : Sl w pa ca r1.ps) (s2 : Sl w pb cb r2.ps) : Calls Tryz.prog 9 #[grp P Q G H, rv r1.n r1.w (.slice pa r1.ps.length ca), rv r2.n r2.w (.slice pb r2.ps.length cb)] w fun e w' => e = .returned (.bool ((decide (r1.n = P) && decide (r2.n = Q)) && Jae Q P && r1.holds && r2.holds && Jdj P Q G && Jdj P Q H)) ∧ Below w.heap.size w w' := by
 refine r8c_w P Q G H r1.n r1.w r2.n r2.w _ ca _ cb pa pb r1.holds r2.holds (Jae Q P) (inB P Q G) (inB P Q H) _ w h1 h2 hP hQ hG hH (fun u hb => rcheck_any r1 pa ca h1 y1 u (s1.on hb)) (fun u hb => rcheck_any r2 pb cb h2 y2 u (s2.on hb)) (fun b3 b4 e1 e2 => ?_) (r8in_any P Q G H G hP hQ hG) (r8in_any P Q G H H hP hQ hH) rfl
 have p1 := (Pr.holds_pri b3).1
 have p2 := (Pr.holds_pri b4).1
 rw [e1] at p1
 rw [e2] at p2
 have hS : P - 1 < 2 ^ 256 := by omega
 refine ⟨P - 1, 0, (P - 1) / Q, (P - 1) % Q, Nat.lt_trans (Nat.mod_lt _ (by omega)) hQ, fun w => Xq P 1 (P - 1) 0 hP (by decide) hS (by omega) (by omega) w, fun w => Jal (P - 1) Q hS hQ (by omega) w, ?_⟩
 unfold Jae Jer
 rw [if_neg (by omega), decide_eq_true (show Q ≠ 0 by omega), Bool.true_and]
end Go.Proofs.YtodlpmepoakdlaaGreat
