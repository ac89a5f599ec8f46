import Derived.Deep.Cut
import Derived.Test.YtodlpmepoakdlaaGreatMAlive7
import Derived.Test.YtodlpmepoakdlaaGreatMPowIn
import Derived.Test.YtodlpmepoakdlaaGreatMRCmp
import Derived.Test.YtodlpmepoakdlaaGreatMRMany
import Derived.Test.YtodlpmepoakdlaaGreatMRbits
import Derived.Test.YtodlpmepoakdlaaGreatMRefE
import Derived.Test.YtodlpmepoakdlaaGreatMShows
import Derived.Test.YtodlpmepoakdlaaGreatMSmall
import Derived.Test.YtodlpmepoakdlaaGreatMSxS
namespace Go.Proofs.YtodlpmepoakdlaaGreat
set_option maxRecDepth 100000
set_option maxHeartbeats 8000000
open Go.RowKit
set_option linter.unusedSimpArgs false
set_option linter.unusedVariables false
attribute [local go_sem ↓] Go.wp_at_zero Go.wp_at_succ

open Pr (Rsn)
theorem bits_small2 {N : Nat} (hN : N < 2 ^ 256) : ((Go.bitLen N : Nat) : Int) ≤ 32 ↔ N < 4294967296 := by
 have h := (Go.bitLen_spec N).1
 constructor
 ·intro h2
  have h3 : 2 ^ Go.bitLen N ≤ 2 ^ 32 := Nat.pow_le_pow_right (by decide) (by omega)
  have h4 : (2 : Nat) ^ 32 = 4294967296 := by decide
  omega
 ·intro h2
  have : Go.bitLen N ≤ 32 := Nat.le_of_not_lt fun hc => by
   have := (Go.bitLen_spec N).2
   have h5 : N ≠ 0 := fun h0 => by subst h0; simp [Go.bitLen] at hc
   have h6 : 2 ^ (Go.bitLen N - 1) ≤ N := by
    first
     | exact this (by omega)
     | exact this h5
     | (rcases this with h | h <;> omega)
   have h7 : (2 : Nat) ^ 32 ≤ 2 ^ (Go.bitLen N - 1) := Nat.pow_le_pow_right (by decide) (by omega)
   have h4 : (2 : Nat) ^ 32 = 4294967296 := by decide
   omega
  omega
def RH (r : Rsn) : Prop := ∀ (a : Option Addr) (cap : Nat) (w : World), r.n < 2 ^ 256 → r.w < 2 ^ 256 → Sl w a cap r.ps →
 Calls Tryz.prog 54 #[rv r.n r.w (.slice a r.ps.length cap)] w fun e w' => e = .returned (.bool r.ok) ∧ Below w.heap.size w w'
theorem ok_small_eq {r : Rsn} (h : r.n < 4294967296) : r.ok = (Pr.priB r.n && (decide (r.w = 0) && decide (r.ps.length = 0))) := by
 cases r with
 | mk n y ps =>
   show Rsn.ok _ = (Pr.priB n && (decide (y = 0) && decide (ps.length = 0)))
   have h' : n < 4294967296 := h
   unfold Rsn.ok
   rw [if_pos h', len_empty]
theorem ok_great_eq {r : Rsn} (h : ¬ r.n < 4294967296) : r.ok = (Pr.oks r.ps && (Vh r.n (r.ps.map Rsn.n) && Jcl r.n r.w (r.ps.map Rsn.n))) := by
 cases r with
 | mk n y ps =>
   show Rsn.ok _ = (Pr.oks ps && (Vh n (ps.map Rsn.n) && Jcl n y (ps.map Rsn.n)))
   have h' : ¬ n < 4294967296 := h
   unfold Rsn.ok
   rw [if_neg h', great_eq]
theorem reach_norise2 {N i q : Nat} {qs : List Nat} (hi : i < qs.length) (hq : qs.getD i 0 = q) (h0 : 0 < i) (hl : q ≤ Jau qs i) : Vh N qs = false := by
 unfold Jau at hl
 rw [if_neg (by omega)] at hl
 obtain ⟨k, rfl⟩ : ∃ k, i = k + 1 := ⟨i - 1, by omega⟩
 simp only [Vh, Pr.rises_no hi rfl hq hl, Bool.false_and]
theorem ok_no_reach {r : Rsn} (h : ¬ r.n < 4294967296) (hr : Vh r.n (r.ps.map Rsn.n) = false) : r.ok = false := by rw [ok_great_eq h, hr]; simp
theorem rholds_step (r : Rsn) (ih : ∀ p ∈ r.ps, RH p) : RH r := by
 intro pa cap w0 hN hY hs
 obtain ⟨ps, hps⟩ : ∃ ps, ps = r.ps := ⟨_, rfl⟩
 obtain ⟨N, hNe⟩ : ∃ N, N = r.n := ⟨_, rfl⟩
 obtain ⟨Y, hYe⟩ : ∃ Y, Y = r.w := ⟨_, rfl⟩
 obtain ⟨V, hV⟩ : ∃ V, V = r.ok := ⟨_, rfl⟩
 obtain ⟨qs, hqs⟩ : ∃ qs, qs = ps.map Rsn.n := ⟨_, rfl⟩
 have hql : qs.length = ps.length := by rw [hqs]; simp
 have hqg : ∀ i (h : i < ps.length), qs.getD i 0 = (ps[i]).n := fun i h => by rw [hqs]; simp [h]
 rw [← hps] at ih hs ⊢
 rw [← hNe] at hN ⊢
 rw [← hYe] at hY ⊢
 rw [← hV]
 obtain ⟨l, hl⟩ : ∃ l, ps.length = l := ⟨_, rfl⟩
 have hlc : l ≤ 9223372036854775807 := by rw [← hl]; exact Nat.le_trans hs.1 hs.2.1
 rw [hl] at hql ⊢
 have HBI := fun w => Jbw N hN w
 have hbs := bits_small2 hN
 generalize Go.bitLen N = m at *
 refine Kk (args := [rv N Y (.slice pa l cap)]) Tryz.func54 rfl Tryz.ntmps54 (by rfl) fun a F HM => ?_
 repeat first|refine et1 ?_|refine eb1 ?_|refine ws1 ?_|refine wb1 ?_|refine wk1 ?_
 refine wp_region_lit ?_
 refine Jw F HM (Ja rfl _) rfl (by rfl) (Jde (F.ev rfl) rfl) fun a w gr F HM => ?_
 refine lxv (.bool false) F (Jk rfl) fun a F => ?_
 refine Jj ?_
 by_cases hsm : N < 4294967296
 ·have hm := hbs.mpr hsm
  have hvv : V = (Pr.priB N && (decide (Y = 0) && decide (l = 0))) := by rw [hV, ok_small_eq (by rw [← hNe]; exact hsm), ← hNe, ← hYe, ← hps, hl]
  have hsa := rsmall_any (wd N 0) (Kw _ _)
  rw [Jbj (show N < 18446744073709551616 by omega), Wo hsm] at hsa
  obtain ⟨b, hb⟩ : ∃ b, b = Pr.priB N := ⟨_, rfl⟩
  rw [← hb] at hsa hvv
  have hsm2 : ∀ w, Calls Tryz.prog 70 #[.int .u64 (wd N 0)] w fun e w' => e = .returned (.bool b) ∧ Below w.heap.size w w' := fun w => by rw [Jbj (show N < 18446744073709551616 by omega)]; exact hsa w
  repeat first|refine et1 ?_|refine eb1 ?_|refine ws1 ?_|refine wb1 ?_|refine wk1 ?_
  refine wp_region_lit ?_
  refine lxv (.pointer (some ⟨gr, 0, none⟩)) F (Kj (F.ev rfl)) fun a F => ?_
  refine lxv (num N) F (Ks (F.ev rfl) (HM.get 0 rfl)) fun a F => ?_
  refine Jr F (Ja rfl _) rfl (by rfl) (Jl Tryz.func46 (by kernel_rfl) (by rfl) (.cons (F.ev rfl) .nil) _) (HBI _) fun a w z F => ?_
  replace HM := HM.on z
  clear z
  refine lxv (.bool true) F (Kh (u := .int .i64 (m : Nat)) (v := .int .i64 32) (fun ρ hx hy => by simp only [execOp, hx, hy]; simp [go_sem] <;> omega) (F.ev rfl) rfl) fun a F => ?_
  refine Jj ?_
  repeat first|refine et1 ?_|refine eb1 ?_|refine ws1 ?_|refine wb1 ?_|refine wk1 ?_
  refine wp_cond_true (F.ev rfl) ?_
  cases b
  ·repeat first|refine et1 ?_|refine eb1 ?_|refine ws1 ?_|refine wb1 ?_|refine wk1 ?_
   refine wp_region_lit ?_
   refine lxv (.pointer (some ⟨gr, 0, none⟩)) F (Kj (F.ev rfl)) fun a F => ?_
   refine lxv (.pointer (some ⟨gr, 0, none⟩)) F (Ug _ _ _ _ _ _ _ _ _ gr 0 (by decide) (F.ev rfl) rfl) fun a F => ?_
   refine lxv (.int .u64 (wd N 0)) F (Uk _ _ _ _ _ _ _ _ gr 0 _ (F.ev rfl) ((HM.get 0 rfl).cell 0)) fun a F => ?_
   refine Jr F (Ja rfl _) rfl (by rfl) (Jl Tryz.func70 (by kernel_rfl) (by rfl) (.cons (F.ev rfl) .nil) _) (hsm2 _) fun a w z F => ?_
   replace HM := HM.on z
   clear z
   refine lxv (.bool false) F (Jg (F.ev rfl)) fun a F => ?_
   refine lxp 30 false F fun a F => ?_
   refine lxp 30 false F fun a F => ?_
   refine lxp 30 false F fun a F => ?_
   refine lxp 30 false F fun a F => ?_
   refine lxv (.bool false) F (Js (b := false) (r := .bool false) (F.ev rfl) (F.ev rfl) rfl rfl) fun a F => ?_
   refine lxv (.bool false) F (Jg (F.ev rfl)) fun a F => ?_
   refine lxp 36 false F fun a F => ?_
   refine lxp 36 false F fun a F => ?_
   refine lxp 36 false F fun a F => ?_
   refine lxp 36 false F fun a F => ?_
   refine lxv (.bool false) F (Js (b := false) (r := .bool false) (F.ev rfl) (F.ev rfl) rfl rfl) fun a F => ?_
   refine lxv (.bool false) F (Jk (F.ev rfl)) fun a F => ?_
   refine Jj ?_
   have hv3 : V = false := by rw [hvv]; simp
   repeat first|refine et1 ?_|refine eb1 ?_|refine ws1 ?_|refine wb1 ?_|refine wk1 ?_
   refine wp_ret ?_
   repeat (first | refine Jt ?_ | refine Jp ?_)
   rw [hv3]
   exact Ki F HM (Kf F rfl (s := 2) rfl)
  ·by_cases hy0 : Y = 0
   ·by_cases hl0 : l = 0
    ·have hy : decide (Y = 0) = true := by simp [hy0]
     repeat first|refine et1 ?_|refine eb1 ?_|refine ws1 ?_|refine wb1 ?_|refine wk1 ?_
     refine wp_region_lit ?_
     refine lxv (.pointer (some ⟨gr, 0, none⟩)) F (Kj (F.ev rfl)) fun a F => ?_
     refine lxv (.pointer (some ⟨gr, 0, none⟩)) F (Ug _ _ _ _ _ _ _ _ _ gr 0 (by decide) (F.ev rfl) rfl) fun a F => ?_
     refine lxv (.int .u64 (wd N 0)) F (Uk _ _ _ _ _ _ _ _ gr 0 _ (F.ev rfl) ((HM.get 0 rfl).cell 0)) fun a F => ?_
     refine Jr F (Ja rfl _) rfl (by rfl) (Jl Tryz.func70 (by kernel_rfl) (by rfl) (.cons (F.ev rfl) .nil) _) (hsm2 _) fun a w z F => ?_
     replace HM := HM.on z
     clear z
     refine lxv (.bool true) F (Jg (F.ev rfl)) fun a F => ?_
     refine lxw 30 true (.pointer (some ⟨gr, 4, none⟩)) F (Wn _ _ _ _ _ _ _ _ gr (F.ev rfl)) fun a F => ?_
     refine lxw 30 true (num Y) F (Jac _ _ _ _ _ _ _ _ gr _ _ _ _ _ _ _ _ _ (F.ev rfl) (HM.get 0 rfl)) fun a F => ?_
     refine lxw 30 true (num 0) F (Kq) fun a F => ?_
     refine lxw 30 true (.bool true) F (Vg hY (show 0 < 2 ^ 256 by decide) hy (F.ev rfl) (F.ev rfl)) fun a F => ?_
     refine lxv (.bool true) F (Js (b := true) (r := .bool true) (F.ev rfl) (F.ev rfl) rfl rfl) fun a F => ?_
     refine lxv (.bool true) F (Jg (F.ev rfl)) fun a F => ?_
     refine lxw 36 true (.pointer (some ⟨gr, 8, none⟩)) F (Vf _ _ _ _ _ _ _ _ gr (F.ev rfl)) fun a F => ?_
     refine lxw 36 true (.slice pa l cap) F (We _ _ _ _ _ _ _ _ gr _ _ _ _ _ _ _ _ _ (F.ev rfl) (HM.get 0 rfl)) fun a F => ?_
     refine lxw 36 true (.int .i64 (l : Nat)) F (Jez _ _ _ _ _ _ _ _ _ _ _ (F.ev rfl)) fun a F => ?_
     refine lxw 36 true (.bool true) F (Kh (u := .int .i64 (l : Nat)) (v := .int .i64 0) (fun ρ hx hy => by simp only [execOp, hx, hy]; simp [go_sem] <;> omega) (F.ev rfl) rfl) fun a F => ?_
     refine lxv (.bool true) F (Js (b := true) (r := .bool true) (F.ev rfl) (F.ev rfl) rfl rfl) fun a F => ?_
     refine lxv (.bool true) F (Jk (F.ev rfl)) fun a F => ?_
     refine Jj ?_
     have hv3 : V = true := by rw [hvv]; simp [hy0, hl0]
     repeat first|refine et1 ?_|refine eb1 ?_|refine ws1 ?_|refine wb1 ?_|refine wk1 ?_
     refine wp_ret ?_
     repeat (first | refine Jt ?_ | refine Jp ?_)
     rw [hv3]
     exact Ki F HM (Kf F rfl (s := 2) rfl)
    ·have hy : decide (Y = 0) = true := by simp [hy0]
     repeat first|refine et1 ?_|refine eb1 ?_|refine ws1 ?_|refine wb1 ?_|refine wk1 ?_
     refine wp_region_lit ?_
     refine lxv (.pointer (some ⟨gr, 0, none⟩)) F (Kj (F.ev rfl)) fun a F => ?_
     refine lxv (.pointer (some ⟨gr, 0, none⟩)) F (Ug _ _ _ _ _ _ _ _ _ gr 0 (by decide) (F.ev rfl) rfl) fun a F => ?_
     refine lxv (.int .u64 (wd N 0)) F (Uk _ _ _ _ _ _ _ _ gr 0 _ (F.ev rfl) ((HM.get 0 rfl).cell 0)) fun a F => ?_
     refine Jr F (Ja rfl _) rfl (by rfl) (Jl Tryz.func70 (by kernel_rfl) (by rfl) (.cons (F.ev rfl) .nil) _) (hsm2 _) fun a w z F => ?_
     replace HM := HM.on z
     clear z
     refine lxv (.bool true) F (Jg (F.ev rfl)) fun a F => ?_
     refine lxw 30 true (.pointer (some ⟨gr, 4, none⟩)) F (Wn _ _ _ _ _ _ _ _ gr (F.ev rfl)) fun a F => ?_
     refine lxw 30 true (num Y) F (Jac _ _ _ _ _ _ _ _ gr _ _ _ _ _ _ _ _ _ (F.ev rfl) (HM.get 0 rfl)) fun a F => ?_
     refine lxw 30 true (num 0) F (Kq) fun a F => ?_
     refine lxw 30 true (.bool true) F (Vg hY (show 0 < 2 ^ 256 by decide) hy (F.ev rfl) (F.ev rfl)) fun a F => ?_
     refine lxv (.bool true) F (Js (b := true) (r := .bool true) (F.ev rfl) (F.ev rfl) rfl rfl) fun a F => ?_
     refine lxv (.bool true) F (Jg (F.ev rfl)) fun a F => ?_
     refine lxw 36 true (.pointer (some ⟨gr, 8, none⟩)) F (Vf _ _ _ _ _ _ _ _ gr (F.ev rfl)) fun a F => ?_
     refine lxw 36 true (.slice pa l cap) F (We _ _ _ _ _ _ _ _ gr _ _ _ _ _ _ _ _ _ (F.ev rfl) (HM.get 0 rfl)) fun a F => ?_
     refine lxw 36 true (.int .i64 (l : Nat)) F (Jez _ _ _ _ _ _ _ _ _ _ _ (F.ev rfl)) fun a F => ?_
     refine lxw 36 true (.bool false) F (Kh (u := .int .i64 (l : Nat)) (v := .int .i64 0) (fun ρ hx hy => by simp only [execOp, hx, hy]; simp [go_sem] <;> omega) (F.ev rfl) rfl) fun a F => ?_
     refine lxv (.bool false) F (Js (b := true) (r := .bool false) (F.ev rfl) (F.ev rfl) rfl rfl) fun a F => ?_
     refine lxv (.bool false) F (Jk (F.ev rfl)) fun a F => ?_
     refine Jj ?_
     have hv3 : V = false := by rw [hvv]; simp [hy0, hl0]
     repeat first|refine et1 ?_|refine eb1 ?_|refine ws1 ?_|refine wb1 ?_|refine wk1 ?_
     refine wp_ret ?_
     repeat (first | refine Jt ?_ | refine Jp ?_)
     rw [hv3]
     exact Ki F HM (Kf F rfl (s := 2) rfl)
   ·have hy : decide (Y = 0) = false := by simp [hy0]
    repeat first|refine et1 ?_|refine eb1 ?_|refine ws1 ?_|refine wb1 ?_|refine wk1 ?_
    refine wp_region_lit ?_
    refine lxv (.pointer (some ⟨gr, 0, none⟩)) F (Kj (F.ev rfl)) fun a F => ?_
    refine lxv (.pointer (some ⟨gr, 0, none⟩)) F (Ug _ _ _ _ _ _ _ _ _ gr 0 (by decide) (F.ev rfl) rfl) fun a F => ?_
    refine lxv (.int .u64 (wd N 0)) F (Uk _ _ _ _ _ _ _ _ gr 0 _ (F.ev rfl) ((HM.get 0 rfl).cell 0)) fun a F => ?_
    refine Jr F (Ja rfl _) rfl (by rfl) (Jl Tryz.func70 (by kernel_rfl) (by rfl) (.cons (F.ev rfl) .nil) _) (hsm2 _) fun a w z F => ?_
    replace HM := HM.on z
    clear z
    refine lxv (.bool true) F (Jg (F.ev rfl)) fun a F => ?_
    refine lxw 30 true (.pointer (some ⟨gr, 4, none⟩)) F (Wn _ _ _ _ _ _ _ _ gr (F.ev rfl)) fun a F => ?_
    refine lxw 30 true (num Y) F (Jac _ _ _ _ _ _ _ _ gr _ _ _ _ _ _ _ _ _ (F.ev rfl) (HM.get 0 rfl)) fun a F => ?_
    refine lxw 30 true (num 0) F (Kq) fun a F => ?_
    refine lxw 30 true (.bool false) F (Vg hY (show 0 < 2 ^ 256 by decide) hy (F.ev rfl) (F.ev rfl)) fun a F => ?_
    refine lxv (.bool false) F (Js (b := true) (r := .bool false) (F.ev rfl) (F.ev rfl) rfl rfl) fun a F => ?_
    refine lxv (.bool false) F (Jg (F.ev rfl)) fun a F => ?_
    refine lxp 36 false F fun a F => ?_
    refine lxp 36 false F fun a F => ?_
    refine lxp 36 false F fun a F => ?_
    refine lxp 36 false F fun a F => ?_
    refine lxv (.bool false) F (Js (b := false) (r := .bool false) (F.ev rfl) (F.ev rfl) rfl rfl) fun a F => ?_
    refine lxv (.bool false) F (Jk (F.ev rfl)) fun a F => ?_
    refine Jj ?_
    have hv3 : V = false := by rw [hvv]; simp [hy0]
    repeat first|refine et1 ?_|refine eb1 ?_|refine ws1 ?_|refine wb1 ?_|refine wk1 ?_
    refine wp_ret ?_
    repeat (first | refine Jt ?_ | refine Jp ?_)
    rw [hv3]
    exact Ki F HM (Kf F rfl (s := 2) rfl)
 ·have hm : ¬ (m : Int) ≤ 32 := fun h => hsm (hbs.mp h)
  have HNG : ¬ r.n < 4294967296 := by rw [← hNe]; exact hsm
  have hN1 : 1 < N := by omega
  obtain ⟨M, hM⟩ : ∃ M, M = N - 1 := ⟨_, rfl⟩
  have CS := fun w => Xq N 1 M 0 hN (by decide) (by omega) (by decide) (by omega) w
  have HM0 : 0 < M := by omega
  have HMB : M < 2 ^ 256 := by omega
  repeat first|refine et1 ?_|refine eb1 ?_|refine ws1 ?_|refine wb1 ?_|refine wk1 ?_
  refine wp_region_lit ?_
  refine lxv (.pointer (some ⟨gr, 0, none⟩)) F (Kj (F.ev rfl)) fun a F => ?_
  refine lxv (num N) F (Ks (F.ev rfl) (HM.get 0 rfl)) fun a F => ?_
  refine Jr F (Ja rfl _) rfl (by rfl) (Jl Tryz.func46 (by kernel_rfl) (by rfl) (.cons (F.ev rfl) .nil) _) (HBI _) fun a w z F => ?_
  replace HM := HM.on z
  clear z
  refine lxv (.bool false) F (Kh (u := .int .i64 (m : Nat)) (v := .int .i64 32) (fun ρ hx hy => by simp only [execOp, hx, hy]; simp [go_sem] <;> omega) (F.ev rfl) rfl) fun a F => ?_
  refine Jj ?_
  repeat first|refine et1 ?_|refine eb1 ?_|refine ws1 ?_|refine wb1 ?_|refine wk1 ?_
  refine wp_cond_false (F.ev rfl) ?_
  clear hm HBI hbs
  repeat first|refine et1 ?_|refine eb1 ?_|refine ws1 ?_|refine wb1 ?_|refine wk1 ?_
  refine wp_region_lit ?_
  refine Jr F (Ja rfl _) rfl (by rfl) (Jl Tryz.func42 (by kernel_rfl) (by rfl) (.cons rfl .nil) _) ((Vt 1 (by decide)) _) fun a w z F => ?_
  replace HM := HM.on z
  clear z
  refine Jw F HM (Ja rfl _) rfl (by rfl) (Jy) fun a w go F HM => ?_
  refine Kd F HM (Ja rfl _) rfl (k := 0) rfl (Ju (F.ev rfl) (F.ev rfl) (HM.get 0 rfl)) (M2 := [(go, 24, ncs 1), (gr, 29, rcs N Y (.slice pa l cap))]) rfl fun w HM => ?_
  refine Jj ?_
  repeat first|refine et1 ?_|refine eb1 ?_|refine ws1 ?_|refine wb1 ?_|refine wk1 ?_
  refine wp_region_lit ?_
  refine lxv (.pointer (some ⟨gr, 0, none⟩)) F (Kj (F.ev rfl)) fun a F => ?_
  refine lxv (num N) F (Ks (F.ev rfl) (HM.get 1 rfl)) fun a F => ?_
  refine lxv (num 1) F (Jn (F.ev rfl) (HM.get 0 rfl)) fun a F => ?_
  refine Jr F (Ja rfl _) rfl (by rfl) (Jl Tryz.func32 (by kernel_rfl) (by rfl) (.cons (F.ev rfl) (.cons (F.ev rfl) .nil)) _) (CS _) fun a w z F => ?_
  replace HM := HM.on z
  clear z
  refine lxv (.tuple #[num M, .int .u64 (0 : Nat)]) F (Jg (F.ev rfl)) fun a F => ?_
  refine lxv (num M) F (Jq (F.ev rfl) rfl) fun a F => ?_
  refine lxv (.int .u64 (0 : Nat)) F (Jq (F.ev rfl) rfl) fun a F => ?_
  refine Jw F HM (Ja rfl _) rfl (by rfl) (Jy) fun a w gm F HM => ?_
  refine Kd F HM (Ja rfl _) rfl (k := 0) rfl (Ju (F.ev rfl) (F.ev rfl) (HM.get 0 rfl)) (M2 := [(gm, 24, ncs M), (go, 24, ncs 1), (gr, 29, rcs N Y (.slice pa l cap))]) rfl fun w HM => ?_
  refine lxv (.int .u64 (0 : Nat)) F (Jk (F.ev rfl)) fun a F => ?_
  refine Jj ?_
  repeat first|refine et1 ?_|refine eb1 ?_|refine ws1 ?_|refine wb1 ?_|refine wk1 ?_
  refine wp_region_lit ?_
  refine lxv (num 1) F (Jn (F.ev rfl) (HM.get 1 rfl)) fun a F => ?_
  refine Jw F HM (Ja rfl _) rfl (by rfl) (Jy) fun a w gf F HM => ?_
  refine Kd F HM (Ja rfl _) rfl (k := 0) rfl (Ju (F.ev rfl) (F.ev rfl) (HM.get 0 rfl)) (M2 := [(gf, 24, ncs 1), (gm, 24, ncs M), (go, 24, ncs 1), (gr, 29, rcs N Y (.slice pa l cap))]) rfl fun w HM => ?_
  refine Jj ?_
  repeat first|refine et1 ?_|refine eb1 ?_|refine ws1 ?_|refine wb1 ?_|refine wk1 ?_
  refine wp_region_lit ?_
  refine lxv (.int .i64 0) F (Jk rfl) fun a F => ?_
  refine Jj ?_
  repeat first|refine et1 ?_|refine eb1 ?_|refine ws1 ?_|refine wb1 ?_|refine wk1 ?_
  refine wp_loop (fun a w1 => ∃ i X : Nat, i ≤ l ∧ X = Pr.fprod M (qs.take i) ∧ Up qs i ∧ (∀ j, j < i → qs.getD j 0 ∣ M) ∧ (∀ j (hj : j < ps.length), j < i → (ps[j]).ok = true) ∧ Fr a 188 [(7, .int .i64 (i : Nat)), (6, .pointer (some ⟨gf, 0, none⟩)), (4, .pointer (some ⟨gm, 0, none⟩)), (3, .pointer (some ⟨go, 0, none⟩)), (1, .pointer (some ⟨gr, 0, none⟩))] [] ∧ Mem w0.heap.size w0 w1 [(gf, 24, ncs X), (gm, 24, ncs M), (go, 24, ncs 1), (gr, 29, rcs N Y (.slice pa l cap))]) (fun a _ => l - (intOf (a.tmps.getD 7 undef)).toNat) ⟨0, 1, Nat.zero_le _, rfl, (fun k h => by omega), (fun j h => absurd h (Nat.not_lt_zero _)), (fun j _ h => absurd h (Nat.not_lt_zero _)), F.sub [7, 6, 4, 3, 1], HM⟩ ?_
  clear F HM CS
  rintro aS wS ⟨i, X, hi, HX, HU, HD, HJ, FS, HM⟩
  have F := FS
  have HPF : ∀ q ∈ qs.take i, Pr.Pri q := fun q hq => by
   obtain ⟨j, hj, rfl⟩ := List.getElem_of_mem hq
   have h1 : j < i := by have := List.length_take_le i qs; omega
   have h2 : j < ps.length := by have := List.length_take_le' i qs; rw [hl, ← hql]; omega
   have h3 := Pr.ok_pri _ (HJ j h2 h1)
   rw [← hqg j h2, ← Jcd qs i j h1, Jbt hj] at h3
   exact h3
  have hxd : X ∣ M := by rw [HX]; exact Pr.fprod_dvd (Pr.rises_nodup HU.take) HPF
  have HXM := Nat.le_of_dvd HM0 hxd
  by_cases hlt : i < l
  ·have hil : i < ps.length := by rw [hl]; exact hlt
   obtain ⟨gs, os, a2, cap2, q, y2, l2, ha, hq1, hq2, hq3, hqb, hyb, hs2, hc9⟩ := hs.c9 hil
   obtain ⟨b, hb⟩ : ∃ b, b = (ps[i]).ok := ⟨_, rfl⟩
   have CP := fun (u : World) (hb : Below w0.heap.size w0 u) => ih (ps[i]) (List.getElem_mem hil) a2 cap2 u (by rw [hq1]; exact hqb) (by rw [hq2]; exact hyb) (hs2.on hb)
   rw [← hb, hq1, hq2, hq3] at CP
   have HQQ : qs.getD i 0 = q := by rw [hqg i hil, hq1]
   have HIQ : i < qs.length := by rw [hql]; exact hlt
   have HIW : (i : Int) + 1 ≤ 9223372036854775807 := by omega
   repeat first|refine et1 ?_|refine eb1 ?_|refine ws1 ?_|refine wb1 ?_|refine wk1 ?_
   refine wp_region_lit ?_
   refine lxv (.int .i64 (i : Nat)) F (Jg (F.ev rfl)) fun a F => ?_
   refine lxv (.pointer (some ⟨gr, 8, none⟩)) F (Vf _ _ _ _ _ _ _ _ gr (F.ev rfl)) fun a F => ?_
   refine lxv (.slice pa l cap) F (We _ _ _ _ _ _ _ _ gr _ _ _ _ _ _ _ _ _ (F.ev rfl) (HM.get 3 rfl)) fun a F => ?_
   refine lxv (.int .i64 (l : Nat)) F (Jez _ _ _ _ _ _ _ _ _ _ _ (F.ev rfl)) fun a F => ?_
   refine lxv (.bool true) F (Kh (u := .int .i64 (i : Nat)) (v := .int .i64 (l : Nat)) (fun ρ hx hy => by simp only [execOp, hx, hy]; simp [go_sem] <;> omega) (F.ev rfl) (F.ev rfl)) fun a F => ?_
   refine Jj ?_
   repeat first|refine et1 ?_|refine eb1 ?_|refine ws1 ?_|refine wb1 ?_|refine wk1 ?_
   refine wp_cond_true (F.ev rfl) ?_
   repeat first|refine et1 ?_|refine eb1 ?_|refine ws1 ?_|refine wb1 ?_|refine wk1 ?_
   refine wp_region_lit ?_
   refine lxv (.pointer (some ⟨gr, 8, none⟩)) F (Vf _ _ _ _ _ _ _ _ gr (F.ev rfl)) fun a F => ?_
   refine lxv (.slice pa l cap) F (We _ _ _ _ _ _ _ _ gr _ _ _ _ _ _ _ _ _ (F.ev rfl) (HM.get 3 rfl)) fun a F => ?_
   refine lxv (.int .i64 (i : Nat)) F (Jg (F.ev rfl)) fun a F => ?_
   refine lxv (.pointer (some ⟨gs, os + i * 9, none⟩)) F (Jes _ _ _ _ _ _ _ _ _ gs os i l cap hlt (by rw [← ha]; exact (F.ev rfl)) (F.ev rfl)) fun a F => ?_
   refine lxv (.pointer (some ⟨gs, os + i * 9, none⟩)) F (Jce _ _ _ _ _ _ _ _ gs _ (F.ev rfl)) fun a F => ?_
   refine lxv (num q) F (Jdh _ _ _ _ _ _ _ _ gs _ q y2 _ (F.ev rfl) (hc9 _ HM.bel)) fun a F => ?_
   refine Jw F HM (Ja rfl _) rfl (by rfl) (Jy) fun a w gq F HM => ?_
   refine Kd F HM (Ja rfl _) rfl (k := 0) rfl (Ju (F.ev rfl) (F.ev rfl) (HM.get 0 rfl)) (M2 := [(gq, 24, ncs q), (gf, 24, ncs X), (gm, 24, ncs M), (go, 24, ncs 1), (gr, 29, rcs N Y (.slice pa l cap))]) rfl fun w HM => ?_
   refine Jj ?_
   repeat first|refine et1 ?_|refine eb1 ?_|refine ws1 ?_|refine wb1 ?_|refine wk1 ?_
   refine Code.wp_mono (Q := fun e a w1 => e = .normal ∧ ∃ v : Bool, Fr a 188 [(86, .bool v), (8, .pointer (some ⟨gq, 0, none⟩)), (7, .int .i64 (i : Nat)), (6, .pointer (some ⟨gf, 0, none⟩)), (4, .pointer (some ⟨gm, 0, none⟩)), (3, .pointer (some ⟨go, 0, none⟩)), (1, .pointer (some ⟨gr, 0, none⟩))] [] ∧ Mem w0.heap.size w0 w1 [(gq, 24, ncs q), (gf, 24, ncs X), (gm, 24, ncs M), (go, 24, ncs 1), (gr, 29, rcs N Y (.slice pa l cap))] ∧ (v = true → V = false) ∧ (v = false → Jau qs i < q ∧ (ps[i]).ok = true)) ?_ ?_
   ·rintro e a w ⟨rfl, v, F, HM, hT, hF⟩
    rcases v with _ | _
    ·replace hF := hF rfl
     clear hT
     obtain ⟨hri, hok⟩ := hF
     have hpq : Pr.Pri q := by have := Pr.ok_pri _ hok; rw [hq1] at this; exact this
     have HUP : Up qs (i + 1) := HU.more HQQ hri
     have CD := fun w => Jal M q HMB hqb (by have := hpq.1; omega) w
     obtain ⟨D, hD⟩ : ∃ D, D = M / q := ⟨_, rfl⟩
     obtain ⟨u, hu⟩ : ∃ u, u = M % q := ⟨_, rfl⟩
     rw [← hD, ← hu] at CD
     have hub : u < 2 ^ 256 := by rw [hu]; exact Nat.lt_trans (Nat.mod_lt _ (by have := hpq.1; omega)) hqb
     repeat first|refine et1 ?_|refine eb1 ?_|refine ws1 ?_|refine wb1 ?_|refine wk1 ?_
     refine wp_cond_false (F.ev rfl) ?_
     repeat first|refine et1 ?_|refine eb1 ?_|refine ws1 ?_|refine wb1 ?_|refine wk1 ?_
     refine wp_region_lit ?_
     refine lxv (num M) F (Jn (F.ev rfl) (HM.get 2 rfl)) fun a F => ?_
     refine lxv (num q) F (Jn (F.ev rfl) (HM.get 0 rfl)) fun a F => ?_
     refine Jr F (Ja rfl _) rfl (by rfl) (Jl Tryz.func33 (by kernel_rfl) (by rfl) (.cons (F.ev rfl) (.cons (F.ev rfl) .nil)) _) (CD _) fun a w z F => ?_
     replace HM := HM.on z
     clear z
     refine lxv (.tuple #[num D, num u, .int .i64 0]) F (Jg (F.ev rfl)) fun a F => ?_
     refine lxv (num D) F (Jq (F.ev rfl) rfl) fun a F => ?_
     refine lxv (num u) F (Jq (F.ev rfl) rfl) fun a F => ?_
     refine lxv (.int .i64 0) F (Jq (F.ev rfl) rfl) fun a F => ?_
     refine Jw F HM (Ja rfl _) rfl (by rfl) (Jy) fun a w gd F HM => ?_
     refine Jw F HM (Ja rfl _) rfl (by rfl) (Jy) fun a w gu F HM => ?_
     refine Kd F HM (Ja rfl _) rfl (k := 1) rfl (Ju (F.ev rfl) (F.ev rfl) (HM.get 1 rfl)) (M2 := [(gu, 24, ncs 0), (gd, 24, ncs D), (gq, 24, ncs q), (gf, 24, ncs X), (gm, 24, ncs M), (go, 24, ncs 1), (gr, 29, rcs N Y (.slice pa l cap))]) rfl fun w HM => ?_
     refine Kd F HM (Ja rfl _) rfl (k := 0) rfl (Ju (F.ev rfl) (F.ev rfl) (HM.get 0 rfl)) (M2 := [(gu, 24, ncs u), (gd, 24, ncs D), (gq, 24, ncs q), (gf, 24, ncs X), (gm, 24, ncs M), (go, 24, ncs 1), (gr, 29, rcs N Y (.slice pa l cap))]) rfl fun w HM => ?_
     refine lxv (.int .i64 0) F (Jk (F.ev rfl)) fun a F => ?_
     refine Jj ?_
     by_cases hz : u = 0
     ·have hzz : decide (u = 0) = true := decide_eq_true hz
      have hqd : q ∣ M := Nat.dvd_of_mod_eq_zero (by rw [← hu]; exact hz)
      obtain ⟨G, hG⟩ : ∃ G, G = Pr.gp q M := ⟨_, rfl⟩
      have CP2 := rpow_any M q HM0 HMB hpq.1 hqb
      rw [← hG] at CP2
      have hfx : X * G = Pr.fprod M (qs.take (i + 1)) := by rw [Jco _ _ HIQ, fprod_snoc, HQQ, ← hG, ← HX]
      have hpf2 : ∀ q2 ∈ qs.take (i + 1), Pr.Pri q2 := fun q2 h2 => by
       rw [Jco _ _ HIQ, List.mem_append] at h2
       rcases h2 with h2 | h2
       ·exact HPF q2 h2
       ·rw [List.mem_singleton, HQQ] at h2; rw [h2]; exact hpq
      have hle : X * G ≤ M := by rw [hfx]; exact Nat.le_of_dvd HM0 (Pr.fprod_dvd (Pr.rises_nodup HUP.take) hpf2)
      have hGM : G ≤ M := by rw [hG]; exact Nat.le_of_dvd HM0 (Pr.gp_dvd q M)
      have CM := Jbl X G (X * G) 0 (Nat.lt_of_le_of_lt HXM HMB) (Nat.lt_of_le_of_lt hGM HMB) (Nat.lt_of_le_of_lt hle HMB) (by decide) (by omega)
      obtain ⟨Lo, hLo⟩ : ∃ Lo, Lo = X * G := ⟨_, rfl⟩
      rw [← hLo] at CM hfx
      have hiw : IntKind.i64.wrap ((i : Int) + 1) = (i : Int) + 1 := by rw [IntKind.wrap_i64]; omega
      repeat first|refine et1 ?_|refine eb1 ?_|refine ws1 ?_|refine wb1 ?_|refine wk1 ?_
      refine wp_region_lit ?_
      refine lxv (num u) F (Jn (F.ev rfl) (HM.get 0 rfl)) fun a F => ?_
      refine lxv (num 0) F (Kq) fun a F => ?_
      refine lxv (.bool false) F (Vl hub (show 0 < 2 ^ 256 by decide) hzz (F.ev rfl) (F.ev rfl)) fun a F => ?_
      refine Jj ?_
      repeat first|refine et1 ?_|refine eb1 ?_|refine ws1 ?_|refine wb1 ?_|refine wk1 ?_
      refine wp_cond_false (F.ev rfl) ?_
      repeat first|refine et1 ?_|refine eb1 ?_|refine ws1 ?_|refine wb1 ?_|refine wk1 ?_
      try simp only [List.append_eq, List.cons_append, List.nil_append]
      refine Xe [⟨0, 98, [], .val (num X), false⟩,
   ⟨1, 99, [], .val (num q), false⟩,
   ⟨2, 100, [], .val (num M), false⟩,
   ⟨3, 101, [1, 2], .val (num G), false⟩,
   ⟨4, 102, [0, 3], .val (.tuple #[num Lo, num 0]), false⟩,
   ⟨5, 97, [4], .val (.tuple #[num Lo, num 0]), true⟩,
   ⟨6, 103, [5], .val (num Lo), true⟩,
   ⟨7, 104, [5], .val (num 0), true⟩] 1 F HM (by kernel_rfl) (by rfl) (by rfl) ?_ ?_ ?_ ?_ ?_ ?_ ?_
      ·kernel_rfl
      ·exact of_decide_eq_true (by kernel_rfl)
      ·(repeat refine all_cons ⟨_, by rfl, by rfl⟩ ?_); exact Je
      ·kernel_rfl
      ·(repeat (refine all_cons ?_ ?_; rotate_left)); exact Je
       all_goals try exact Ji _ (by rfl)
       ·exact Jz _ _ _ _ _ _ _ (by rfl) (by rfl) (Jc) (fun ρ w kn hs => Jg (kn _ _ (kc 4 102)))
       ·exact Jz _ _ _ _ _ _ _ (by rfl) (by rfl) (Jc) (fun ρ w kn hs => Jq (kn _ _ (kc 5 97)) rfl)
       ·exact Jz _ _ _ _ _ _ _ (by rfl) (by rfl) (Jc) (fun ρ w kn hs => Jq (kn _ _ (kc 5 97)) rfl)
      ·(repeat (refine all_cons ?_ ?_; rotate_left)); exact Je
       all_goals try exact sA
       ·exact fun _ => Jci _ _ _ _ _ _ (by rfl) (by rfl) (fun ρ w kn hb => Jn (kn _ _ (F.old (by rfl) rfl)) ((HM.on hb).get 3 rfl))
       ·exact fun _ => Jci _ _ _ _ _ _ (by rfl) (by rfl) (fun ρ w kn hb => Jn (kn _ _ (F.old (by rfl) rfl)) ((HM.on hb).get 2 rfl))
       ·exact fun _ => Jci _ _ _ _ _ _ (by rfl) (by rfl) (fun ρ w kn hb => Jn (kn _ _ (F.old (by rfl) rfl)) ((HM.on hb).get 4 rfl))
       ·exact fun _ => Jh _ 71 _ _ [.tmp 99, .tmp 100] _ _ _ _ _ _ _ (by rfl) Tryz.func71 (by kernel_rfl) (by rfl) (by rfl) (Jc) (.cons (kc 1 99) (.cons (kc 2 100) .nil)) (CP2)
       ·exact fun _ => Jh _ 64 _ _ [.tmp 98, .tmp 101] _ _ _ _ _ _ _ (by rfl) Tryz.func64 (by kernel_rfl) (by rfl) (by rfl) (Jc) (.cons (kc 0 98) (.cons (kc 3 101) .nil)) (CM)
      intro gs rs a w hgs hrs F HM
      obtain rfl := nl0 rs hrs
      clear hrs
      obtain rfl := nl0 gs hgs
      clear hgs
      refine Ul (i := 8) HM (by kernel_rfl) (by rfl) rfl rfl (k := 3) rfl (Ju (F.ev rfl) (F.ev rfl) (HM.get 3 rfl)) (M2 := [(gu, 24, ncs u), (gd, 24, ncs D), (gq, 24, ncs q), (gf, 24, ncs Lo), (gm, 24, ncs M), (go, 24, ncs 1), (gr, 29, rcs N Y (.slice pa l cap))]) rfl (fun _ _ => trivial) fun w HM => ?_
      refine Kn (by kernel_rfl) ?_ _
      repeat first|refine et1 ?_|refine eb1 ?_|refine ws1 ?_|refine wb1 ?_|refine wk1 ?_
      refine wp_region_lit ?_
      refine lxv (.int .i64 (i : Nat)) F (Jg (F.ev rfl)) fun a F => ?_
      refine lxv (.int .i64 ((i + 1 : Nat) : Int)) F (Kh (u := .int .i64 (i : Nat)) (v := .int .i64 1) (fun ρ hx hy => by simp only [execOp, hx, hy]; simp [go_sem, hiw]) (F.ev rfl) rfl) fun a F => ?_
      refine lxv (.int .i64 ((i + 1 : Nat) : Int)) F (Jk (F.ev rfl)) fun a F => ?_
      refine Jj ?_
      refine Kv ?_
      have hA : ∀ j, j < i + 1 → qs.getD j 0 ∣ M := fun j hj => by
       rcases Nat.lt_or_ge j i with h | h
       ·exact HD j h
       ·obtain rfl : j = i := by omega
        rw [HQQ]; exact hqd
      have hB : ∀ j (hj : j < ps.length), j < i + 1 → (ps[j]).ok = true := fun j hj hji => by
       rcases Nat.lt_or_ge j i with h | h
       ·exact HJ j hj h
       ·obtain rfl : j = i := by omega
        exact hok
      refine ⟨⟨i + 1, Lo, by omega, hfx, HUP, hA, hB, F.sub [7, 6, 4, 3, 1], HM.tail (A := [_, _, _])⟩, ?_⟩
      show l - (intOf (a.tmps.getD 7 undef)).toNat < l - (intOf (aS.tmps.getD 7 undef)).toNat
      rw [F.get 7 _ rfl, FS.get 7 _ rfl]
      show l - ((i + 1 : Nat) : Int).toNat < l - ((i : Nat) : Int).toNat
      omega
     ·have hzz : decide (u = 0) = false := decide_eq_false hz
      have hT : V = false := by rw [hV]; exact ok_no_reach HNG (by rw [← hNe, ← hps, ← hqs]; exact reach_nodiv HIQ HQQ (fun h => hz (by rw [hu, hM]; exact Nat.mod_eq_zero_of_dvd h)))
      repeat first|refine et1 ?_|refine eb1 ?_|refine ws1 ?_|refine wb1 ?_|refine wk1 ?_
      refine wp_region_lit ?_
      refine lxv (num u) F (Jn (F.ev rfl) (HM.get 0 rfl)) fun a F => ?_
      refine lxv (num 0) F (Kq) fun a F => ?_
      refine lxv (.bool true) F (Vl hub (show 0 < 2 ^ 256 by decide) hzz (F.ev rfl) (F.ev rfl)) fun a F => ?_
      refine Jj ?_
      repeat first|refine et1 ?_|refine eb1 ?_|refine ws1 ?_|refine wb1 ?_|refine wk1 ?_
      refine wp_cond_true (F.ev rfl) ?_
      repeat first|refine et1 ?_|refine eb1 ?_|refine ws1 ?_|refine wb1 ?_|refine wk1 ?_
      refine wp_region_lit ?_
      refine lxv (.bool false) F (Jk rfl) fun a F => ?_
      refine Jj ?_
      repeat first|refine et1 ?_|refine eb1 ?_|refine ws1 ?_|refine wb1 ?_|refine wk1 ?_
      refine wp_ret ?_
      repeat (first | refine Jt ?_ | refine Jp ?_)
      rw [hT]
      exact Ki F HM (Kf F rfl (s := 2) rfl)
    ·replace hT := hT rfl
     clear hF
     repeat first|refine et1 ?_|refine eb1 ?_|refine ws1 ?_|refine wb1 ?_|refine wk1 ?_
     refine wp_cond_true (F.ev rfl) ?_
     repeat first|refine et1 ?_|refine eb1 ?_|refine ws1 ?_|refine wb1 ?_|refine wk1 ?_
     refine wp_region_lit ?_
     refine lxv (.bool false) F (Jk rfl) fun a F => ?_
     refine Jj ?_
     repeat first|refine et1 ?_|refine eb1 ?_|refine ws1 ?_|refine wb1 ?_|refine wk1 ?_
     refine wp_ret ?_
     repeat (first | refine Jt ?_ | refine Jp ?_)
     rw [hT]
     exact Ki F HM (Kf F rfl (s := 2) rfl)
   ·rcases Nat.eq_zero_or_pos i with hi0 | hi0
    ·cases b
     ·repeat first|refine et1 ?_|refine eb1 ?_|refine ws1 ?_|refine wb1 ?_|refine wk1 ?_
      try simp only [List.append_eq, List.cons_append, List.nil_append]
      refine Kl [⟨0, 64, [], .val (.int .i64 (i : Nat)), true⟩,
   ⟨1, 65, [0], .val (.bool false), true⟩,
   ⟨2, 66, [1], .val (.bool false), true⟩,
   ⟨3, 67, [2], .val undef, true⟩,
   ⟨4, 68, [2, 3], .val undef, true⟩,
   ⟨5, 69, [2, 4], .val undef, true⟩,
   ⟨6, 70, [2, 5], .val undef, true⟩,
   ⟨7, 71, [2, 4, 6], .val undef, true⟩,
   ⟨8, 72, [2, 7], .val undef, true⟩,
   ⟨9, 73, [2, 8], .val undef, true⟩,
   ⟨10, 74, [2, 9], .val undef, true⟩,
   ⟨11, 75, [2, 9, 10], .val undef, true⟩,
   ⟨12, 76, [2, 11], .val undef, true⟩,
   ⟨13, 77, [2, 12], .val (.bool false), true⟩,
   ⟨14, 78, [13], .val (.bool false), true⟩,
   ⟨15, 79, [14], .val (.pointer (some ⟨gr, 8, none⟩)), true⟩,
   ⟨16, 80, [14, 15], .val (.slice pa l cap), true⟩,
   ⟨17, 81, [14, 16], .val (.int .i64 (i : Nat)), true⟩,
   ⟨18, 82, [14, 16, 17], .val (.pointer (some ⟨gs, os + i * 9, none⟩)), true⟩,
   ⟨19, 83, [14, 18], .val (rv q y2 (.slice a2 l2 cap2)), true⟩,
   ⟨20, 84, [14, 19], .val (.bool false), false⟩,
   ⟨21, 85, [14, 20], .val (.bool true), true⟩,
   ⟨22, 86, [14, 21], .val (.bool true), true⟩] 0 F HM (by kernel_rfl) (by rfl) (by rfl) ?_ ?_ ?_ ?_ ?_ ?_ ?_
      ·kernel_rfl
      ·exact of_decide_eq_true (by kernel_rfl)
      ·(repeat refine all_cons ⟨_, by rfl, by rfl⟩ ?_); exact Je
      ·kernel_rfl
      ·(repeat (refine all_cons ?_ ?_; rotate_left)); exact Je
       ·exact Jz _ _ _ _ _ _ _ (by rfl) (by rfl) (Jc) (fun ρ w kn hs => Jg (kn _ _ (F.old (by rfl) rfl)))
       ·exact Jz _ _ _ _ _ _ _ (by rfl) (by rfl) (Jc) (fun ρ w kn hs => Kh (u := .int .i64 (i : Nat)) (v := .int .i64 0) (fun ρ hx hy => by simp only [execOp, hx, hy]; simp [go_sem] <;> omega) (kn _ _ (kc 0 64)) (kn _ _ (Jd _)))
       ·exact Jz _ _ _ _ _ _ _ (by rfl) (by rfl) (Jc) (fun ρ w kn hs => Jg (kn _ _ (kc 1 65)))
       ·exact Jf _ _ _ _ _ _ (by rfl) (by rfl) (wc 2 66 2 (kc 2 66))
       ·exact Jf _ _ _ _ _ _ (by rfl) (by rfl) (wc 2 66 2 (kc 2 66))
       ·exact Jf _ _ _ _ _ _ (by rfl) (by rfl) (wc 2 66 2 (kc 2 66))
       ·exact Jf _ _ _ _ _ _ (by rfl) (by rfl) (wc 2 66 2 (kc 2 66))
       ·exact Jf _ _ _ _ _ _ (by rfl) (by rfl) (wc 2 66 2 (kc 2 66))
       ·exact Jf _ _ _ _ _ _ (by rfl) (by rfl) (wc 2 66 2 (kc 2 66))
       ·exact Jf _ _ _ _ _ _ (by rfl) (by rfl) (wc 2 66 2 (kc 2 66))
       ·exact Jf _ _ _ _ _ _ (by rfl) (by rfl) (wc 2 66 2 (kc 2 66))
       ·exact Jf _ _ _ _ _ _ (by rfl) (by rfl) (wc 2 66 2 (kc 2 66))
       ·exact Jf _ _ _ _ _ _ (by rfl) (by rfl) (wc 2 66 2 (kc 2 66))
       ·exact Jz _ _ _ _ _ _ _ (by rfl) (by rfl) (Jc) (fun ρ w kn hs => Js (b := false) (r := .bool false) (kn _ _ (kc 2 66)) (kn _ _ (kc 12 76)) (kn _ _ (Jd _)) rfl)
       ·exact Jz _ _ _ _ _ _ _ (by rfl) (by rfl) (Jc) (fun ρ w kn hs => Jg (kn _ _ (kc 13 77)))
       ·exact Jz _ _ _ _ _ _ _ (by rfl) (by rfl) (wc 14 78 14 (kc 14 78)) (fun ρ w kn hs => Vf _ _ _ _ _ _ _ _ gr (kn _ _ (F.old (by rfl) rfl)))
       ·exact Jz _ _ _ _ _ _ _ (by rfl) (by rfl) (wc 14 78 14 (kc 14 78)) (fun ρ w kn hs => We _ _ _ _ _ _ _ _ gr _ _ _ _ _ _ _ _ _ (kn _ _ (kc 15 79)) (hs.get 4 rfl))
       ·exact Jz _ _ _ _ _ _ _ (by rfl) (by rfl) (wc 14 78 14 (kc 14 78)) (fun ρ w kn hs => Jg (kn _ _ (F.old (by rfl) rfl)))
       ·exact Jz _ _ _ _ _ _ _ (by rfl) (by rfl) (wc 14 78 14 (kc 14 78)) (fun ρ w kn hs => Jes _ _ _ _ _ _ _ _ _ gs os i l cap hlt (by rw [← ha]; exact (kn _ _ (kc 16 80))) (kn _ _ (kc 17 81)))
       ·exact Jz _ _ _ _ _ _ _ (by rfl) (by rfl) (wc 14 78 14 (kc 14 78)) (fun ρ w kn hs => Jeq _ _ _ _ _ _ _ _ gs _ q y2 _ (kn _ _ (kc 18 82)) (hc9 _ hs.bel))
       ·exact Ji _ (by rfl)
       ·exact Jz _ _ _ _ _ _ _ (by rfl) (by rfl) (wc 14 78 14 (kc 14 78)) (fun ρ w kn hs => Vn (b := false) (r := true) (kn _ _ (kc 20 84)) rfl)
       ·exact Jz _ _ _ _ _ _ _ (by rfl) (by rfl) (Jc) (fun ρ w kn hs => Js (b := false) (r := .bool true) (kn _ _ (kc 14 78)) (kn _ _ (Jd _)) (kn _ _ (kc 21 85)) rfl)
      ·(repeat (refine all_cons ?_ ?_; rotate_left)); exact Je
       all_goals try exact sA
       ·exact fun _ => Us _ 54 _ _ [.tmp 83] _ _ _ _ _ _ _ (by rfl) Tryz.func54 (by kernel_rfl) (by rfl) (by rfl) (wc 14 78 14 (kc 14 78)) (.cons (kc 19 83) .nil) (fun u hb => CP u (bel_tr HM.bel hb))
      intro gs rs a w hgs hrs F HM
      obtain rfl := nl0 rs hrs
      clear hrs
      obtain rfl := nl0 gs hgs
      clear hgs
      refine Kn (by kernel_rfl) ?_ _
      exact ⟨rfl, true, F.sub [86, 8, 7, 6, 4, 3, 1], HM, fun _ => (show V = false by rw [hV]; exact Ck.ok_part (p := ps[i]) (by rw [← hps]; exact List.getElem_mem hil) hb.symm), (fun h => by cases h)⟩
     ·repeat first|refine et1 ?_|refine eb1 ?_|refine ws1 ?_|refine wb1 ?_|refine wk1 ?_
      try simp only [List.append_eq, List.cons_append, List.nil_append]
      refine Kl [⟨0, 64, [], .val (.int .i64 (i : Nat)), true⟩,
   ⟨1, 65, [0], .val (.bool false), true⟩,
   ⟨2, 66, [1], .val (.bool false), true⟩,
   ⟨3, 67, [2], .val undef, true⟩,
   ⟨4, 68, [2, 3], .val undef, true⟩,
   ⟨5, 69, [2, 4], .val undef, true⟩,
   ⟨6, 70, [2, 5], .val undef, true⟩,
   ⟨7, 71, [2, 4, 6], .val undef, true⟩,
   ⟨8, 72, [2, 7], .val undef, true⟩,
   ⟨9, 73, [2, 8], .val undef, true⟩,
   ⟨10, 74, [2, 9], .val undef, true⟩,
   ⟨11, 75, [2, 9, 10], .val undef, true⟩,
   ⟨12, 76, [2, 11], .val undef, true⟩,
   ⟨13, 77, [2, 12], .val (.bool false), true⟩,
   ⟨14, 78, [13], .val (.bool false), true⟩,
   ⟨15, 79, [14], .val (.pointer (some ⟨gr, 8, none⟩)), true⟩,
   ⟨16, 80, [14, 15], .val (.slice pa l cap), true⟩,
   ⟨17, 81, [14, 16], .val (.int .i64 (i : Nat)), true⟩,
   ⟨18, 82, [14, 16, 17], .val (.pointer (some ⟨gs, os + i * 9, none⟩)), true⟩,
   ⟨19, 83, [14, 18], .val (rv q y2 (.slice a2 l2 cap2)), true⟩,
   ⟨20, 84, [14, 19], .val (.bool true), false⟩,
   ⟨21, 85, [14, 20], .val (.bool false), true⟩,
   ⟨22, 86, [14, 21], .val (.bool false), true⟩] 0 F HM (by kernel_rfl) (by rfl) (by rfl) ?_ ?_ ?_ ?_ ?_ ?_ ?_
      ·kernel_rfl
      ·exact of_decide_eq_true (by kernel_rfl)
      ·(repeat refine all_cons ⟨_, by rfl, by rfl⟩ ?_); exact Je
      ·kernel_rfl
      ·(repeat (refine all_cons ?_ ?_; rotate_left)); exact Je
       ·exact Jz _ _ _ _ _ _ _ (by rfl) (by rfl) (Jc) (fun ρ w kn hs => Jg (kn _ _ (F.old (by rfl) rfl)))
       ·exact Jz _ _ _ _ _ _ _ (by rfl) (by rfl) (Jc) (fun ρ w kn hs => Kh (u := .int .i64 (i : Nat)) (v := .int .i64 0) (fun ρ hx hy => by simp only [execOp, hx, hy]; simp [go_sem] <;> omega) (kn _ _ (kc 0 64)) (kn _ _ (Jd _)))
       ·exact Jz _ _ _ _ _ _ _ (by rfl) (by rfl) (Jc) (fun ρ w kn hs => Jg (kn _ _ (kc 1 65)))
       ·exact Jf _ _ _ _ _ _ (by rfl) (by rfl) (wc 2 66 2 (kc 2 66))
       ·exact Jf _ _ _ _ _ _ (by rfl) (by rfl) (wc 2 66 2 (kc 2 66))
       ·exact Jf _ _ _ _ _ _ (by rfl) (by rfl) (wc 2 66 2 (kc 2 66))
       ·exact Jf _ _ _ _ _ _ (by rfl) (by rfl) (wc 2 66 2 (kc 2 66))
       ·exact Jf _ _ _ _ _ _ (by rfl) (by rfl) (wc 2 66 2 (kc 2 66))
       ·exact Jf _ _ _ _ _ _ (by rfl) (by rfl) (wc 2 66 2 (kc 2 66))
       ·exact Jf _ _ _ _ _ _ (by rfl) (by rfl) (wc 2 66 2 (kc 2 66))
       ·exact Jf _ _ _ _ _ _ (by rfl) (by rfl) (wc 2 66 2 (kc 2 66))
       ·exact Jf _ _ _ _ _ _ (by rfl) (by rfl) (wc 2 66 2 (kc 2 66))
       ·exact Jf _ _ _ _ _ _ (by rfl) (by rfl) (wc 2 66 2 (kc 2 66))
       ·exact Jz _ _ _ _ _ _ _ (by rfl) (by rfl) (Jc) (fun ρ w kn hs => Js (b := false) (r := .bool false) (kn _ _ (kc 2 66)) (kn _ _ (kc 12 76)) (kn _ _ (Jd _)) rfl)
       ·exact Jz _ _ _ _ _ _ _ (by rfl) (by rfl) (Jc) (fun ρ w kn hs => Jg (kn _ _ (kc 13 77)))
       ·exact Jz _ _ _ _ _ _ _ (by rfl) (by rfl) (wc 14 78 14 (kc 14 78)) (fun ρ w kn hs => Vf _ _ _ _ _ _ _ _ gr (kn _ _ (F.old (by rfl) rfl)))
       ·exact Jz _ _ _ _ _ _ _ (by rfl) (by rfl) (wc 14 78 14 (kc 14 78)) (fun ρ w kn hs => We _ _ _ _ _ _ _ _ gr _ _ _ _ _ _ _ _ _ (kn _ _ (kc 15 79)) (hs.get 4 rfl))
       ·exact Jz _ _ _ _ _ _ _ (by rfl) (by rfl) (wc 14 78 14 (kc 14 78)) (fun ρ w kn hs => Jg (kn _ _ (F.old (by rfl) rfl)))
       ·exact Jz _ _ _ _ _ _ _ (by rfl) (by rfl) (wc 14 78 14 (kc 14 78)) (fun ρ w kn hs => Jes _ _ _ _ _ _ _ _ _ gs os i l cap hlt (by rw [← ha]; exact (kn _ _ (kc 16 80))) (kn _ _ (kc 17 81)))
       ·exact Jz _ _ _ _ _ _ _ (by rfl) (by rfl) (wc 14 78 14 (kc 14 78)) (fun ρ w kn hs => Jeq _ _ _ _ _ _ _ _ gs _ q y2 _ (kn _ _ (kc 18 82)) (hc9 _ hs.bel))
       ·exact Ji _ (by rfl)
       ·exact Jz _ _ _ _ _ _ _ (by rfl) (by rfl) (wc 14 78 14 (kc 14 78)) (fun ρ w kn hs => Vn (b := true) (r := false) (kn _ _ (kc 20 84)) rfl)
       ·exact Jz _ _ _ _ _ _ _ (by rfl) (by rfl) (Jc) (fun ρ w kn hs => Js (b := false) (r := .bool false) (kn _ _ (kc 14 78)) (kn _ _ (Jd _)) (kn _ _ (kc 21 85)) rfl)
      ·(repeat (refine all_cons ?_ ?_; rotate_left)); exact Je
       all_goals try exact sA
       ·exact fun _ => Us _ 54 _ _ [.tmp 83] _ _ _ _ _ _ _ (by rfl) Tryz.func54 (by kernel_rfl) (by rfl) (by rfl) (wc 14 78 14 (kc 14 78)) (.cons (kc 19 83) .nil) (fun u hb => CP u (bel_tr HM.bel hb))
      intro gs rs a w hgs hrs F HM
      obtain rfl := nl0 rs hrs
      clear hrs
      obtain rfl := nl0 gs hgs
      clear hgs
      refine Kn (by kernel_rfl) ?_ _
      have hpq : Pr.Pri q := by have := Pr.ok_pri _ hb.symm; rw [hq1] at this; exact this
      exact ⟨rfl, false, F.sub [86, 8, 7, 6, 4, 3, 1], HM, (fun h => by cases h), fun _ => ⟨by unfold Jau; rw [if_pos hi0]; have h2 := hpq.1; omega, hb.symm⟩⟩
    ·obtain ⟨j, hj⟩ : ∃ j, i = j + 1 := ⟨i - 1, by omega⟩
     have hjl : j < ps.length := by rw [hl]; omega
     obtain ⟨gs3, os3, a3, cap3, q3, y3, l3, ha3, hq31, hq32, hq33, hqb3, hyb3, hs3, hc3⟩ := hs.c9 hjl
     have hlq : Jau qs i = q3 := by unfold Jau; rw [if_neg (by omega), hj, Nat.add_sub_cancel, hqg j hjl, hq31]
     have HK3 := fun w => Kz q3 q hqb3 hqb w
     have HJL : j < l := by omega
     have HIJ : (i : Int) - 1 = (j : Nat) := by omega
     have HJW : IntKind.wrap .i64 (j : Int) = (j : Int) := by rw [IntKind.wrap_i64]; omega
     by_cases hk : q3 < q
     ·have hkk := Jcy hk
      generalize Uu q3 q = k at *
      cases b
      ·repeat first|refine et1 ?_|refine eb1 ?_|refine ws1 ?_|refine wb1 ?_|refine wk1 ?_
       try simp only [List.append_eq, List.cons_append, List.nil_append]
       refine Kl [⟨0, 64, [], .val (.int .i64 (i : Nat)), true⟩,
   ⟨1, 65, [0], .val (.bool true), true⟩,
   ⟨2, 66, [1], .val (.bool true), true⟩,
   ⟨3, 67, [2], .val (.pointer (some ⟨gr, 8, none⟩)), true⟩,
   ⟨4, 68, [2, 3], .val (.slice pa l cap), true⟩,
   ⟨5, 69, [2, 4], .val (.int .i64 (i : Nat)), true⟩,
   ⟨6, 70, [2, 5], .val (.int .i64 (j : Nat)), true⟩,
   ⟨7, 71, [2, 4, 6], .val (.pointer (some ⟨gs3, os3 + j * 9, none⟩)), true⟩,
   ⟨8, 72, [2, 7], .val (.pointer (some ⟨gs3, os3 + j * 9, none⟩)), true⟩,
   ⟨9, 73, [2, 8], .val (num q3), true⟩,
   ⟨10, 74, [2, 9], .val (num q), true⟩,
   ⟨11, 75, [2, 9, 10], .val (.int .i64 k), false⟩,
   ⟨12, 76, [2, 11], .val (.bool false), true⟩,
   ⟨13, 77, [2, 12], .val (.bool false), true⟩,
   ⟨14, 78, [13], .val (.bool false), true⟩,
   ⟨15, 79, [14], .val (.pointer (some ⟨gr, 8, none⟩)), true⟩,
   ⟨16, 80, [14, 15], .val (.slice pa l cap), true⟩,
   ⟨17, 81, [14, 16], .val (.int .i64 (i : Nat)), true⟩,
   ⟨18, 82, [14, 16, 17], .val (.pointer (some ⟨gs, os + i * 9, none⟩)), true⟩,
   ⟨19, 83, [14, 18], .val (rv q y2 (.slice a2 l2 cap2)), true⟩,
   ⟨20, 84, [14, 19], .val (.bool false), false⟩,
   ⟨21, 85, [14, 20], .val (.bool true), true⟩,
   ⟨22, 86, [14, 21], .val (.bool true), true⟩] 0 F HM (by kernel_rfl) (by rfl) (by rfl) ?_ ?_ ?_ ?_ ?_ ?_ ?_
       ·kernel_rfl
       ·exact of_decide_eq_true (by kernel_rfl)
       ·(repeat refine all_cons ⟨_, by rfl, by rfl⟩ ?_); exact Je
       ·kernel_rfl
       ·(repeat (refine all_cons ?_ ?_; rotate_left)); exact Je
        ·exact Jz _ _ _ _ _ _ _ (by rfl) (by rfl) (Jc) (fun ρ w kn hs => Jg (kn _ _ (F.old (by rfl) rfl)))
        ·exact Jz _ _ _ _ _ _ _ (by rfl) (by rfl) (Jc) (fun ρ w kn hs => Kh (u := .int .i64 (i : Nat)) (v := .int .i64 0) (fun ρ hx hy => by simp only [execOp, hx, hy]; simp [go_sem] <;> omega) (kn _ _ (kc 0 64)) (kn _ _ (Jd _)))
        ·exact Jz _ _ _ _ _ _ _ (by rfl) (by rfl) (Jc) (fun ρ w kn hs => Jg (kn _ _ (kc 1 65)))
        ·exact Jz _ _ _ _ _ _ _ (by rfl) (by rfl) (wc 2 66 2 (kc 2 66)) (fun ρ w kn hs => Vf _ _ _ _ _ _ _ _ gr (kn _ _ (F.old (by rfl) rfl)))
        ·exact Jz _ _ _ _ _ _ _ (by rfl) (by rfl) (wc 2 66 2 (kc 2 66)) (fun ρ w kn hs => We _ _ _ _ _ _ _ _ gr _ _ _ _ _ _ _ _ _ (kn _ _ (kc 3 67)) (hs.get 4 rfl))
        ·exact Jz _ _ _ _ _ _ _ (by rfl) (by rfl) (wc 2 66 2 (kc 2 66)) (fun ρ w kn hs => Jg (kn _ _ (F.old (by rfl) rfl)))
        ·exact Jz _ _ _ _ _ _ _ (by rfl) (by rfl) (wc 2 66 2 (kc 2 66)) (fun ρ w kn hs => Kh (u := .int .i64 (i : Nat)) (v := .int .i64 1) (fun ρ hx hy => by simp only [execOp, hx, hy]; simp [go_sem, HIJ, HJW]) (kn _ _ (kc 5 69)) (kn _ _ (Jd _)))
        ·exact Jz _ _ _ _ _ _ _ (by rfl) (by rfl) (wc 2 66 2 (kc 2 66)) (fun ρ w kn hs => Jes _ _ _ _ _ _ _ _ _ gs3 os3 j l cap HJL (by rw [← ha3]; exact (kn _ _ (kc 4 68))) (kn _ _ (kc 6 70)))
        ·exact Jz _ _ _ _ _ _ _ (by rfl) (by rfl) (wc 2 66 2 (kc 2 66)) (fun ρ w kn hs => Jce _ _ _ _ _ _ _ _ gs3 _ (kn _ _ (kc 7 71)))
        ·exact Jz _ _ _ _ _ _ _ (by rfl) (by rfl) (wc 2 66 2 (kc 2 66)) (fun ρ w kn hs => Jdh _ _ _ _ _ _ _ _ gs3 _ q3 y3 _ (kn _ _ (kc 8 72)) (hc3 _ hs.bel))
        ·exact Jz _ _ _ _ _ _ _ (by rfl) (by rfl) (wc 2 66 2 (kc 2 66)) (fun ρ w kn hs => Jn (kn _ _ (F.old (by rfl) rfl)) (hs.get 0 rfl))
        ·exact Ji _ (by rfl)
        ·exact Jz _ _ _ _ _ _ _ (by rfl) (by rfl) (wc 2 66 2 (kc 2 66)) (fun ρ w kn hs => Kh (u := .int .i64 k) (v := .int .i64 0) (fun ρ hx hy => by simp only [execOp, hx, hy]; simp [go_sem] <;> omega) (kn _ _ (kc 11 75)) (kn _ _ (Jd _)))
        ·exact Jz _ _ _ _ _ _ _ (by rfl) (by rfl) (Jc) (fun ρ w kn hs => Js (b := true) (r := .bool false) (kn _ _ (kc 2 66)) (kn _ _ (kc 12 76)) (kn _ _ (Jd _)) rfl)
        ·exact Jz _ _ _ _ _ _ _ (by rfl) (by rfl) (Jc) (fun ρ w kn hs => Jg (kn _ _ (kc 13 77)))
        ·exact Jz _ _ _ _ _ _ _ (by rfl) (by rfl) (wc 14 78 14 (kc 14 78)) (fun ρ w kn hs => Vf _ _ _ _ _ _ _ _ gr (kn _ _ (F.old (by rfl) rfl)))
        ·exact Jz _ _ _ _ _ _ _ (by rfl) (by rfl) (wc 14 78 14 (kc 14 78)) (fun ρ w kn hs => We _ _ _ _ _ _ _ _ gr _ _ _ _ _ _ _ _ _ (kn _ _ (kc 15 79)) (hs.get 4 rfl))
        ·exact Jz _ _ _ _ _ _ _ (by rfl) (by rfl) (wc 14 78 14 (kc 14 78)) (fun ρ w kn hs => Jg (kn _ _ (F.old (by rfl) rfl)))
        ·exact Jz _ _ _ _ _ _ _ (by rfl) (by rfl) (wc 14 78 14 (kc 14 78)) (fun ρ w kn hs => Jes _ _ _ _ _ _ _ _ _ gs os i l cap hlt (by rw [← ha]; exact (kn _ _ (kc 16 80))) (kn _ _ (kc 17 81)))
        ·exact Jz _ _ _ _ _ _ _ (by rfl) (by rfl) (wc 14 78 14 (kc 14 78)) (fun ρ w kn hs => Jeq _ _ _ _ _ _ _ _ gs _ q y2 _ (kn _ _ (kc 18 82)) (hc9 _ hs.bel))
        ·exact Ji _ (by rfl)
        ·exact Jz _ _ _ _ _ _ _ (by rfl) (by rfl) (wc 14 78 14 (kc 14 78)) (fun ρ w kn hs => Vn (b := false) (r := true) (kn _ _ (kc 20 84)) rfl)
        ·exact Jz _ _ _ _ _ _ _ (by rfl) (by rfl) (Jc) (fun ρ w kn hs => Js (b := false) (r := .bool true) (kn _ _ (kc 14 78)) (kn _ _ (Jd _)) (kn _ _ (kc 21 85)) rfl)
       ·(repeat (refine all_cons ?_ ?_; rotate_left)); exact Je
        all_goals try exact sA
        ·exact fun _ => Jh _ 17 _ _ [.tmp 73, .tmp 74] _ _ _ _ _ _ _ (by rfl) Tryz.func17 (by kernel_rfl) (by rfl) (by rfl) (wc 2 66 2 (kc 2 66)) (.cons (kc 9 73) (.cons (kc 10 74) .nil)) (HK3)
        ·exact fun _ => Us _ 54 _ _ [.tmp 83] _ _ _ _ _ _ _ (by rfl) Tryz.func54 (by kernel_rfl) (by rfl) (by rfl) (wc 14 78 14 (kc 14 78)) (.cons (kc 19 83) .nil) (fun u hb => CP u (bel_tr HM.bel hb))
       intro gs rs a w hgs hrs F HM
       obtain rfl := nl0 rs hrs
       clear hrs
       obtain rfl := nl0 gs hgs
       clear hgs
       refine Kn (by kernel_rfl) ?_ _
       exact ⟨rfl, true, F.sub [86, 8, 7, 6, 4, 3, 1], HM, fun _ => (show V = false by rw [hV]; exact Ck.ok_part (p := ps[i]) (by rw [← hps]; exact List.getElem_mem hil) hb.symm), (fun h => by cases h)⟩
      ·repeat first|refine et1 ?_|refine eb1 ?_|refine ws1 ?_|refine wb1 ?_|refine wk1 ?_
       try simp only [List.append_eq, List.cons_append, List.nil_append]
       refine Kl [⟨0, 64, [], .val (.int .i64 (i : Nat)), true⟩,
   ⟨1, 65, [0], .val (.bool true), true⟩,
   ⟨2, 66, [1], .val (.bool true), true⟩,
   ⟨3, 67, [2], .val (.pointer (some ⟨gr, 8, none⟩)), true⟩,
   ⟨4, 68, [2, 3], .val (.slice pa l cap), true⟩,
   ⟨5, 69, [2, 4], .val (.int .i64 (i : Nat)), true⟩,
   ⟨6, 70, [2, 5], .val (.int .i64 (j : Nat)), true⟩,
   ⟨7, 71, [2, 4, 6], .val (.pointer (some ⟨gs3, os3 + j * 9, none⟩)), true⟩,
   ⟨8, 72, [2, 7], .val (.pointer (some ⟨gs3, os3 + j * 9, none⟩)), true⟩,
   ⟨9, 73, [2, 8], .val (num q3), true⟩,
   ⟨10, 74, [2, 9], .val (num q), true⟩,
   ⟨11, 75, [2, 9, 10], .val (.int .i64 k), false⟩,
   ⟨12, 76, [2, 11], .val (.bool false), true⟩,
   ⟨13, 77, [2, 12], .val (.bool false), true⟩,
   ⟨14, 78, [13], .val (.bool false), true⟩,
   ⟨15, 79, [14], .val (.pointer (some ⟨gr, 8, none⟩)), true⟩,
   ⟨16, 80, [14, 15], .val (.slice pa l cap), true⟩,
   ⟨17, 81, [14, 16], .val (.int .i64 (i : Nat)), true⟩,
   ⟨18, 82, [14, 16, 17], .val (.pointer (some ⟨gs, os + i * 9, none⟩)), true⟩,
   ⟨19, 83, [14, 18], .val (rv q y2 (.slice a2 l2 cap2)), true⟩,
   ⟨20, 84, [14, 19], .val (.bool true), false⟩,
   ⟨21, 85, [14, 20], .val (.bool false), true⟩,
   ⟨22, 86, [14, 21], .val (.bool false), true⟩] 0 F HM (by kernel_rfl) (by rfl) (by rfl) ?_ ?_ ?_ ?_ ?_ ?_ ?_
       ·kernel_rfl
       ·exact of_decide_eq_true (by kernel_rfl)
       ·(repeat refine all_cons ⟨_, by rfl, by rfl⟩ ?_); exact Je
       ·kernel_rfl
       ·(repeat (refine all_cons ?_ ?_; rotate_left)); exact Je
        ·exact Jz _ _ _ _ _ _ _ (by rfl) (by rfl) (Jc) (fun ρ w kn hs => Jg (kn _ _ (F.old (by rfl) rfl)))
        ·exact Jz _ _ _ _ _ _ _ (by rfl) (by rfl) (Jc) (fun ρ w kn hs => Kh (u := .int .i64 (i : Nat)) (v := .int .i64 0) (fun ρ hx hy => by simp only [execOp, hx, hy]; simp [go_sem] <;> omega) (kn _ _ (kc 0 64)) (kn _ _ (Jd _)))
        ·exact Jz _ _ _ _ _ _ _ (by rfl) (by rfl) (Jc) (fun ρ w kn hs => Jg (kn _ _ (kc 1 65)))
        ·exact Jz _ _ _ _ _ _ _ (by rfl) (by rfl) (wc 2 66 2 (kc 2 66)) (fun ρ w kn hs => Vf _ _ _ _ _ _ _ _ gr (kn _ _ (F.old (by rfl) rfl)))
        ·exact Jz _ _ _ _ _ _ _ (by rfl) (by rfl) (wc 2 66 2 (kc 2 66)) (fun ρ w kn hs => We _ _ _ _ _ _ _ _ gr _ _ _ _ _ _ _ _ _ (kn _ _ (kc 3 67)) (hs.get 4 rfl))
        ·exact Jz _ _ _ _ _ _ _ (by rfl) (by rfl) (wc 2 66 2 (kc 2 66)) (fun ρ w kn hs => Jg (kn _ _ (F.old (by rfl) rfl)))
        ·exact Jz _ _ _ _ _ _ _ (by rfl) (by rfl) (wc 2 66 2 (kc 2 66)) (fun ρ w kn hs => Kh (u := .int .i64 (i : Nat)) (v := .int .i64 1) (fun ρ hx hy => by simp only [execOp, hx, hy]; simp [go_sem, HIJ, HJW]) (kn _ _ (kc 5 69)) (kn _ _ (Jd _)))
        ·exact Jz _ _ _ _ _ _ _ (by rfl) (by rfl) (wc 2 66 2 (kc 2 66)) (fun ρ w kn hs => Jes _ _ _ _ _ _ _ _ _ gs3 os3 j l cap HJL (by rw [← ha3]; exact (kn _ _ (kc 4 68))) (kn _ _ (kc 6 70)))
        ·exact Jz _ _ _ _ _ _ _ (by rfl) (by rfl) (wc 2 66 2 (kc 2 66)) (fun ρ w kn hs => Jce _ _ _ _ _ _ _ _ gs3 _ (kn _ _ (kc 7 71)))
        ·exact Jz _ _ _ _ _ _ _ (by rfl) (by rfl) (wc 2 66 2 (kc 2 66)) (fun ρ w kn hs => Jdh _ _ _ _ _ _ _ _ gs3 _ q3 y3 _ (kn _ _ (kc 8 72)) (hc3 _ hs.bel))
        ·exact Jz _ _ _ _ _ _ _ (by rfl) (by rfl) (wc 2 66 2 (kc 2 66)) (fun ρ w kn hs => Jn (kn _ _ (F.old (by rfl) rfl)) (hs.get 0 rfl))
        ·exact Ji _ (by rfl)
        ·exact Jz _ _ _ _ _ _ _ (by rfl) (by rfl) (wc 2 66 2 (kc 2 66)) (fun ρ w kn hs => Kh (u := .int .i64 k) (v := .int .i64 0) (fun ρ hx hy => by simp only [execOp, hx, hy]; simp [go_sem] <;> omega) (kn _ _ (kc 11 75)) (kn _ _ (Jd _)))
        ·exact Jz _ _ _ _ _ _ _ (by rfl) (by rfl) (Jc) (fun ρ w kn hs => Js (b := true) (r := .bool false) (kn _ _ (kc 2 66)) (kn _ _ (kc 12 76)) (kn _ _ (Jd _)) rfl)
        ·exact Jz _ _ _ _ _ _ _ (by rfl) (by rfl) (Jc) (fun ρ w kn hs => Jg (kn _ _ (kc 13 77)))
        ·exact Jz _ _ _ _ _ _ _ (by rfl) (by rfl) (wc 14 78 14 (kc 14 78)) (fun ρ w kn hs => Vf _ _ _ _ _ _ _ _ gr (kn _ _ (F.old (by rfl) rfl)))
        ·exact Jz _ _ _ _ _ _ _ (by rfl) (by rfl) (wc 14 78 14 (kc 14 78)) (fun ρ w kn hs => We _ _ _ _ _ _ _ _ gr _ _ _ _ _ _ _ _ _ (kn _ _ (kc 15 79)) (hs.get 4 rfl))
        ·exact Jz _ _ _ _ _ _ _ (by rfl) (by rfl) (wc 14 78 14 (kc 14 78)) (fun ρ w kn hs => Jg (kn _ _ (F.old (by rfl) rfl)))
        ·exact Jz _ _ _ _ _ _ _ (by rfl) (by rfl) (wc 14 78 14 (kc 14 78)) (fun ρ w kn hs => Jes _ _ _ _ _ _ _ _ _ gs os i l cap hlt (by rw [← ha]; exact (kn _ _ (kc 16 80))) (kn _ _ (kc 17 81)))
        ·exact Jz _ _ _ _ _ _ _ (by rfl) (by rfl) (wc 14 78 14 (kc 14 78)) (fun ρ w kn hs => Jeq _ _ _ _ _ _ _ _ gs _ q y2 _ (kn _ _ (kc 18 82)) (hc9 _ hs.bel))
        ·exact Ji _ (by rfl)
        ·exact Jz _ _ _ _ _ _ _ (by rfl) (by rfl) (wc 14 78 14 (kc 14 78)) (fun ρ w kn hs => Vn (b := true) (r := false) (kn _ _ (kc 20 84)) rfl)
        ·exact Jz _ _ _ _ _ _ _ (by rfl) (by rfl) (Jc) (fun ρ w kn hs => Js (b := false) (r := .bool false) (kn _ _ (kc 14 78)) (kn _ _ (Jd _)) (kn _ _ (kc 21 85)) rfl)
       ·(repeat (refine all_cons ?_ ?_; rotate_left)); exact Je
        all_goals try exact sA
        ·exact fun _ => Jh _ 17 _ _ [.tmp 73, .tmp 74] _ _ _ _ _ _ _ (by rfl) Tryz.func17 (by kernel_rfl) (by rfl) (by rfl) (wc 2 66 2 (kc 2 66)) (.cons (kc 9 73) (.cons (kc 10 74) .nil)) (HK3)
        ·exact fun _ => Us _ 54 _ _ [.tmp 83] _ _ _ _ _ _ _ (by rfl) Tryz.func54 (by kernel_rfl) (by rfl) (by rfl) (wc 14 78 14 (kc 14 78)) (.cons (kc 19 83) .nil) (fun u hb => CP u (bel_tr HM.bel hb))
       intro gs rs a w hgs hrs F HM
       obtain rfl := nl0 rs hrs
       clear hrs
       obtain rfl := nl0 gs hgs
       clear hgs
       refine Kn (by kernel_rfl) ?_ _
       exact ⟨rfl, false, F.sub [86, 8, 7, 6, 4, 3, 1], HM, (fun h => by cases h), fun _ => ⟨by rw [hlq]; exact hk, hb.symm⟩⟩
     ·have hkk := Jbu (Nat.le_of_not_lt hk)
      generalize Uu q3 q = k at *
      repeat first|refine et1 ?_|refine eb1 ?_|refine ws1 ?_|refine wb1 ?_|refine wk1 ?_
      try simp only [List.append_eq, List.cons_append, List.nil_append]
      refine Kl [⟨0, 64, [], .val (.int .i64 (i : Nat)), true⟩,
   ⟨1, 65, [0], .val (.bool true), true⟩,
   ⟨2, 66, [1], .val (.bool true), true⟩,
   ⟨3, 67, [2], .val (.pointer (some ⟨gr, 8, none⟩)), true⟩,
   ⟨4, 68, [2, 3], .val (.slice pa l cap), true⟩,
   ⟨5, 69, [2, 4], .val (.int .i64 (i : Nat)), true⟩,
   ⟨6, 70, [2, 5], .val (.int .i64 (j : Nat)), true⟩,
   ⟨7, 71, [2, 4, 6], .val (.pointer (some ⟨gs3, os3 + j * 9, none⟩)), true⟩,
   ⟨8, 72, [2, 7], .val (.pointer (some ⟨gs3, os3 + j * 9, none⟩)), true⟩,
   ⟨9, 73, [2, 8], .val (num q3), true⟩,
   ⟨10, 74, [2, 9], .val (num q), true⟩,
   ⟨11, 75, [2, 9, 10], .val (.int .i64 k), false⟩,
   ⟨12, 76, [2, 11], .val (.bool true), true⟩,
   ⟨13, 77, [2, 12], .val (.bool true), true⟩,
   ⟨14, 78, [13], .val (.bool true), true⟩,
   ⟨15, 79, [14], .val undef, true⟩,
   ⟨16, 80, [14, 15], .val undef, true⟩,
   ⟨17, 81, [14, 16], .val undef, true⟩,
   ⟨18, 82, [14, 16, 17], .val undef, true⟩,
   ⟨19, 83, [14, 18], .val undef, true⟩,
   ⟨20, 84, [14, 19], .val undef, true⟩,
   ⟨21, 85, [14, 20], .val undef, true⟩,
   ⟨22, 86, [14, 21], .val (.bool true), true⟩] 0 F HM (by kernel_rfl) (by rfl) (by rfl) ?_ ?_ ?_ ?_ ?_ ?_ ?_
      ·kernel_rfl
      ·exact of_decide_eq_true (by kernel_rfl)
      ·(repeat refine all_cons ⟨_, by rfl, by rfl⟩ ?_); exact Je
      ·kernel_rfl
      ·(repeat (refine all_cons ?_ ?_; rotate_left)); exact Je
       ·exact Jz _ _ _ _ _ _ _ (by rfl) (by rfl) (Jc) (fun ρ w kn hs => Jg (kn _ _ (F.old (by rfl) rfl)))
       ·exact Jz _ _ _ _ _ _ _ (by rfl) (by rfl) (Jc) (fun ρ w kn hs => Kh (u := .int .i64 (i : Nat)) (v := .int .i64 0) (fun ρ hx hy => by simp only [execOp, hx, hy]; simp [go_sem] <;> omega) (kn _ _ (kc 0 64)) (kn _ _ (Jd _)))
       ·exact Jz _ _ _ _ _ _ _ (by rfl) (by rfl) (Jc) (fun ρ w kn hs => Jg (kn _ _ (kc 1 65)))
       ·exact Jz _ _ _ _ _ _ _ (by rfl) (by rfl) (wc 2 66 2 (kc 2 66)) (fun ρ w kn hs => Vf _ _ _ _ _ _ _ _ gr (kn _ _ (F.old (by rfl) rfl)))
       ·exact Jz _ _ _ _ _ _ _ (by rfl) (by rfl) (wc 2 66 2 (kc 2 66)) (fun ρ w kn hs => We _ _ _ _ _ _ _ _ gr _ _ _ _ _ _ _ _ _ (kn _ _ (kc 3 67)) (hs.get 4 rfl))
       ·exact Jz _ _ _ _ _ _ _ (by rfl) (by rfl) (wc 2 66 2 (kc 2 66)) (fun ρ w kn hs => Jg (kn _ _ (F.old (by rfl) rfl)))
       ·exact Jz _ _ _ _ _ _ _ (by rfl) (by rfl) (wc 2 66 2 (kc 2 66)) (fun ρ w kn hs => Kh (u := .int .i64 (i : Nat)) (v := .int .i64 1) (fun ρ hx hy => by simp only [execOp, hx, hy]; simp [go_sem, HIJ, HJW]) (kn _ _ (kc 5 69)) (kn _ _ (Jd _)))
       ·exact Jz _ _ _ _ _ _ _ (by rfl) (by rfl) (wc 2 66 2 (kc 2 66)) (fun ρ w kn hs => Jes _ _ _ _ _ _ _ _ _ gs3 os3 j l cap HJL (by rw [← ha3]; exact (kn _ _ (kc 4 68))) (kn _ _ (kc 6 70)))
       ·exact Jz _ _ _ _ _ _ _ (by rfl) (by rfl) (wc 2 66 2 (kc 2 66)) (fun ρ w kn hs => Jce _ _ _ _ _ _ _ _ gs3 _ (kn _ _ (kc 7 71)))
       ·exact Jz _ _ _ _ _ _ _ (by rfl) (by rfl) (wc 2 66 2 (kc 2 66)) (fun ρ w kn hs => Jdh _ _ _ _ _ _ _ _ gs3 _ q3 y3 _ (kn _ _ (kc 8 72)) (hc3 _ hs.bel))
       ·exact Jz _ _ _ _ _ _ _ (by rfl) (by rfl) (wc 2 66 2 (kc 2 66)) (fun ρ w kn hs => Jn (kn _ _ (F.old (by rfl) rfl)) (hs.get 0 rfl))
       ·exact Ji _ (by rfl)
       ·exact Jz _ _ _ _ _ _ _ (by rfl) (by rfl) (wc 2 66 2 (kc 2 66)) (fun ρ w kn hs => Kh (u := .int .i64 k) (v := .int .i64 0) (fun ρ hx hy => by simp only [execOp, hx, hy]; simp [go_sem] <;> omega) (kn _ _ (kc 11 75)) (kn _ _ (Jd _)))
       ·exact Jz _ _ _ _ _ _ _ (by rfl) (by rfl) (Jc) (fun ρ w kn hs => Js (b := true) (r := .bool true) (kn _ _ (kc 2 66)) (kn _ _ (kc 12 76)) (kn _ _ (Jd _)) rfl)
       ·exact Jz _ _ _ _ _ _ _ (by rfl) (by rfl) (Jc) (fun ρ w kn hs => Jg (kn _ _ (kc 13 77)))
       ·exact Jf _ _ _ _ _ _ (by rfl) (by rfl) (wc 14 78 14 (kc 14 78))
       ·exact Jf _ _ _ _ _ _ (by rfl) (by rfl) (wc 14 78 14 (kc 14 78))
       ·exact Jf _ _ _ _ _ _ (by rfl) (by rfl) (wc 14 78 14 (kc 14 78))
       ·exact Jf _ _ _ _ _ _ (by rfl) (by rfl) (wc 14 78 14 (kc 14 78))
       ·exact Jf _ _ _ _ _ _ (by rfl) (by rfl) (wc 14 78 14 (kc 14 78))
       ·exact Jf _ _ _ _ _ _ (by rfl) (by rfl) (wc 14 78 14 (kc 14 78))
       ·exact Jf _ _ _ _ _ _ (by rfl) (by rfl) (wc 14 78 14 (kc 14 78))
       ·exact Jz _ _ _ _ _ _ _ (by rfl) (by rfl) (Jc) (fun ρ w kn hs => Js (b := true) (r := .bool true) (kn _ _ (kc 14 78)) (kn _ _ (Jd _)) (kn _ _ (kc 21 85)) rfl)
      ·(repeat (refine all_cons ?_ ?_; rotate_left)); exact Je
       all_goals try exact sA
       ·exact fun _ => Jh _ 17 _ _ [.tmp 73, .tmp 74] _ _ _ _ _ _ _ (by rfl) Tryz.func17 (by kernel_rfl) (by rfl) (by rfl) (wc 2 66 2 (kc 2 66)) (.cons (kc 9 73) (.cons (kc 10 74) .nil)) (HK3)
      intro gs rs a w hgs hrs F HM
      obtain rfl := nl0 rs hrs
      clear hrs
      obtain rfl := nl0 gs hgs
      clear hgs
      refine Kn (by kernel_rfl) ?_ _
      exact ⟨rfl, true, F.sub [86, 8, 7, 6, 4, 3, 1], HM, fun _ => (show V = false by rw [hV]; exact ok_no_reach HNG (by rw [← hNe, ← hps, ← hqs]; exact reach_norise2 HIQ HQQ hi0 (by rw [hlq]; omega))), (fun h => by cases h)⟩
  ·repeat first|refine et1 ?_|refine eb1 ?_|refine ws1 ?_|refine wb1 ?_|refine wk1 ?_
   refine wp_region_lit ?_
   refine lxv (.int .i64 (i : Nat)) F (Jg (F.ev rfl)) fun a F => ?_
   refine lxv (.pointer (some ⟨gr, 8, none⟩)) F (Vf _ _ _ _ _ _ _ _ gr (F.ev rfl)) fun a F => ?_
   refine lxv (.slice pa l cap) F (We _ _ _ _ _ _ _ _ gr _ _ _ _ _ _ _ _ _ (F.ev rfl) (HM.get 3 rfl)) fun a F => ?_
   refine lxv (.int .i64 (l : Nat)) F (Jez _ _ _ _ _ _ _ _ _ _ _ (F.ev rfl)) fun a F => ?_
   refine lxv (.bool false) F (Kh (u := .int .i64 (i : Nat)) (v := .int .i64 (l : Nat)) (fun ρ hx hy => by simp only [execOp, hx, hy]; simp [go_sem] <;> omega) (F.ev rfl) (F.ev rfl)) fun a F => ?_
   refine Jj ?_
   repeat first|refine et1 ?_|refine eb1 ?_|refine ws1 ?_|refine wb1 ?_|refine wk1 ?_
   refine wp_cond_false (F.ev rfl) ?_
   repeat first|refine et1 ?_|refine eb1 ?_|refine ws1 ?_|refine wb1 ?_|refine wk1 ?_
   refine wp_exit ?_
   repeat (first | refine Wz ?_ | refine Wf ?_)
   have hli : l = i := by omega
   rw [← hli] at HX HU HD HJ
   have hoks : Pr.oks ps = true := Pr.oks_iff.mpr fun q hq => by
    obtain ⟨j, hj, rfl⟩ := List.getElem_of_mem hq
    exact HJ j hj (by rw [← hl]; exact hj)
   have hfx : X = Pr.fprod (N - 1) qs := by rw [HX, ← hql, List.take_length, hM]
   have hre : Vh N qs = decide (N < X * X) := by rw [reach_yes (by rw [hql]; exact HU) (by rw [hql, ← hM]; exact HD), ← hfx]
   have hvv : V = (decide (N < X * X) && Jcl N Y qs) := by rw [hV, ok_great_eq HNG, ← hps, hoks, Bool.true_and, ← hNe, ← hYe, ← hqs, hre]
   have hq0 : ∀ p ∈ ps, p.n ≠ 0 := fun p hp => by have := (Pr.oks_pri ps hoks p hp).1; omega
   have hX : X < 2 ^ 256 := Nat.lt_of_le_of_lt HXM HMB
   obtain ⟨Lo, Hi, hLo, hHi, hmm, _⟩ := Xc X X hX hX
   have CM := Jbl X X Lo Hi hX hX hLo hHi hmm
   clear HX HU HD HJ HPF HXM hfx hre hoks FS hlt hi hxd
   repeat first|refine et1 ?_|refine eb1 ?_|refine ws1 ?_|refine wb1 ?_|refine wk1 ?_
   refine wp_region_lit ?_
   refine lxv (num X) F (Jn (F.ev rfl) (HM.get 0 rfl)) fun a F => ?_
   refine lxv (num X) F (Jn (F.ev rfl) (HM.get 0 rfl)) fun a F => ?_
   refine Jr F (Ja rfl _) rfl (by rfl) (Jl Tryz.func64 (by kernel_rfl) (by rfl) (.cons (F.ev rfl) (.cons (F.ev rfl) .nil)) _) (CM _) fun a w z F => ?_
   replace HM := HM.on z
   clear z
   refine lxv (.tuple #[num Lo, num Hi]) F (Jg (F.ev rfl)) fun a F => ?_
   refine lxv (num Lo) F (Jq (F.ev rfl) rfl) fun a F => ?_
   refine lxv (num Hi) F (Jq (F.ev rfl) rfl) fun a F => ?_
   refine Jw F HM (Ja rfl _) rfl (by rfl) (Jy) fun a w ga F HM => ?_
   refine Jw F HM (Ja rfl _) rfl (by rfl) (Jy) fun a w gb F HM => ?_
   refine Kd F HM (Ja rfl _) rfl (k := 1) rfl (Ju (F.ev rfl) (F.ev rfl) (HM.get 1 rfl)) (M2 := [(gb, 24, ncs 0), (ga, 24, ncs Lo), (gf, 24, ncs X), (gm, 24, ncs M), (go, 24, ncs 1), (gr, 29, rcs N Y (.slice pa l cap))]) rfl fun w HM => ?_
   refine Kd F HM (Ja rfl _) rfl (k := 0) rfl (Ju (F.ev rfl) (F.ev rfl) (HM.get 0 rfl)) (M2 := [(gb, 24, ncs Hi), (ga, 24, ncs Lo), (gf, 24, ncs X), (gm, 24, ncs M), (go, 24, ncs 1), (gr, 29, rcs N Y (.slice pa l cap))]) rfl fun w HM => ?_
   refine Jj ?_
   repeat first|refine et1 ?_|refine eb1 ?_|refine ws1 ?_|refine wb1 ?_|refine wk1 ?_
   refine Code.wp_mono (Q := fun e a w1 => e = .normal ∧ ∃ v : Bool, Fr a 188 [(120, .bool v), (4, .pointer (some ⟨gm, 0, none⟩)), (3, .pointer (some ⟨go, 0, none⟩)), (1, .pointer (some ⟨gr, 0, none⟩))] [] ∧ Mem w0.heap.size w0 w1 [(gb, 24, ncs Hi), (ga, 24, ncs Lo), (gf, 24, ncs X), (gm, 24, ncs M), (go, 24, ncs 1), (gr, 29, rcs N Y (.slice pa l cap))] ∧ (v = true → V = false) ∧ (v = false → V = Jcl N Y qs)) ?_ ?_
   ·rintro e a w ⟨rfl, v, F, HM, hT, hF⟩
    rcases v with _ | _
    ·replace hF := hF rfl
     clear hT
     clear hvv hmm CM
     have HW := hF
     clear hF
     repeat first|refine et1 ?_|refine eb1 ?_|refine ws1 ?_|refine wb1 ?_|refine wk1 ?_
     refine wp_cond_false (F.ev rfl) ?_
     repeat first|refine et1 ?_|refine eb1 ?_|refine ws1 ?_|refine wb1 ?_|refine wk1 ?_
     refine Code.wp_mono (Q := fun e a w1 => e = .normal ∧ ∃ v : Bool, Fr a 188 [(133, .bool v), (4, .pointer (some ⟨gm, 0, none⟩)), (3, .pointer (some ⟨go, 0, none⟩)), (1, .pointer (some ⟨gr, 0, none⟩))] [] ∧ Mem w0.heap.size w0 w1 [(gb, 24, ncs Hi), (ga, 24, ncs Lo), (gf, 24, ncs X), (gm, 24, ncs M), (go, 24, ncs 1), (gr, 29, rcs N Y (.slice pa l cap))] ∧ (v = true → V = false) ∧ (v = false → 1 < Y ∧ Y < N)) ?_ ?_
     ·rintro e a w ⟨rfl, v, F, HM, hT, hF⟩
      rcases v with _ | _
      ·replace hF := hF rfl
       clear hT
       obtain ⟨h1, h2⟩ := hF
       repeat first|refine et1 ?_|refine eb1 ?_|refine ws1 ?_|refine wb1 ?_|refine wk1 ?_
       refine wp_cond_false (F.ev rfl) ?_
       have HEX := fun e (he : e < 2 ^ 256) => Jeg Y e N hN he hN1 h2
       obtain ⟨E, hE⟩ : ∃ E, E = Y ^ M % N := ⟨_, rfl⟩
       have CE := HEX M HMB
       rw [← hE] at CE
       have hEb : E < 2 ^ 256 := by rw [hE]; exact Nat.lt_trans (Nat.mod_lt _ (by omega)) hN
       repeat first|refine et1 ?_|refine eb1 ?_|refine ws1 ?_|refine wb1 ?_|refine wk1 ?_
       refine wp_region_lit ?_
       refine lxv (.pointer (some ⟨gr, 4, none⟩)) F (Wn _ _ _ _ _ _ _ _ gr (F.ev rfl)) fun a F => ?_
       refine lxv (num Y) F (Jac _ _ _ _ _ _ _ _ gr _ _ _ _ _ _ _ _ _ (F.ev rfl) (HM.get 5 rfl)) fun a F => ?_
       refine lxv (num M) F (Jn (F.ev rfl) (HM.get 3 rfl)) fun a F => ?_
       refine lxv (.pointer (some ⟨gr, 0, none⟩)) F (Kj (F.ev rfl)) fun a F => ?_
       refine lxv (num N) F (Ks (F.ev rfl) (HM.get 5 rfl)) fun a F => ?_
       refine Jr F (Ja rfl _) rfl (by rfl) (Jl Tryz.func20 (by kernel_rfl) (by rfl) (.cons (F.ev rfl) (.cons (F.ev rfl) (.cons (F.ev rfl) .nil))) _) (CE _) fun a w z F => ?_
       replace HM := HM.on z
       clear z
       refine lxv (.tuple #[num E, .int .i64 0]) F (Jg (F.ev rfl)) fun a F => ?_
       refine lxv (num E) F (Jq (F.ev rfl) rfl) fun a F => ?_
       refine lxv (.int .i64 0) F (Jq (F.ev rfl) rfl) fun a F => ?_
       refine Jw F HM (Ja rfl _) rfl (by rfl) (Jy) fun a w gx F HM => ?_
       refine Kd F HM (Ja rfl _) rfl (k := 0) rfl (Ju (F.ev rfl) (F.ev rfl) (HM.get 0 rfl)) (M2 := [(gx, 24, ncs E), (gb, 24, ncs Hi), (ga, 24, ncs Lo), (gf, 24, ncs X), (gm, 24, ncs M), (go, 24, ncs 1), (gr, 29, rcs N Y (.slice pa l cap))]) rfl fun w HM => ?_
       refine lxv (.int .i64 0) F (Jk (F.ev rfl)) fun a F => ?_
       refine Jj ?_
       by_cases h3 : E = 1
       ·have h3d : decide (E = 1) = true := decide_eq_true h3
        repeat first|refine et1 ?_|refine eb1 ?_|refine ws1 ?_|refine wb1 ?_|refine wk1 ?_
        refine wp_region_lit ?_
        refine lxv (num E) F (Jn (F.ev rfl) (HM.get 0 rfl)) fun a F => ?_
        refine lxv (num 1) F (Jn (F.ev rfl) (HM.get 5 rfl)) fun a F => ?_
        refine lxv (.bool false) F (Vl hEb (show 1 < 2 ^ 256 by decide) h3d (F.ev rfl) (F.ev rfl)) fun a F => ?_
        refine Jj ?_
        repeat first|refine et1 ?_|refine eb1 ?_|refine ws1 ?_|refine wb1 ?_|refine wk1 ?_
        refine wp_cond_false (F.ev rfl) ?_
        repeat first|refine et1 ?_|refine eb1 ?_|refine ws1 ?_|refine wb1 ?_|refine wk1 ?_
        refine wp_region_lit ?_
        refine lxv (.int .i64 0) F (Jk rfl) fun a F => ?_
        refine Jj ?_
        repeat first|refine et1 ?_|refine eb1 ?_|refine ws1 ?_|refine wb1 ?_|refine wk1 ?_
        replace HM := HM.tail (A := [_, _, _, _])
        refine wp_loop (fun a w1 => ∃ i : Nat, i ≤ l ∧ (∀ j (hj : j < ps.length), j < i → Jev N Y (ps[j]).n = true) ∧ Fr a 188 [(16, .int .i64 (i : Nat)), (4, .pointer (some ⟨gm, 0, none⟩)), (3, .pointer (some ⟨go, 0, none⟩)), (1, .pointer (some ⟨gr, 0, none⟩))] [] ∧ Mem w0.heap.size w0 w1 [(gm, 24, ncs M), (go, 24, ncs 1), (gr, 29, rcs N Y (.slice pa l cap))]) (fun a _ => l - (intOf (a.tmps.getD 16 undef)).toNat) ⟨0, Nat.zero_le _, (fun j _ h => absurd h (Nat.not_lt_zero _)), F.sub [16, 4, 3, 1], HM⟩ ?_
        clear F HM CE
        rintro aS wS ⟨i, hi, HJ, FS, HM⟩
        have F := FS
        by_cases hlt : i < l
        ·have hil : i < ps.length := by rw [hl]; exact hlt
         obtain ⟨gs, os, a2, cap2, q, y2, l2, ha, hq1, hq2, hq3, hqb, hyb, hs2, hc9⟩ := hs.c9 hil
         have hqn : q ≠ 0 := by rw [← hq1]; exact hq0 _ (List.getElem_mem hil)
         have CD := fun w => Jal M q HMB hqb hqn w
         obtain ⟨D, hD⟩ : ∃ D, D = M / q := ⟨_, rfl⟩
         obtain ⟨u, hu⟩ : ∃ u, u = M % q := ⟨_, rfl⟩
         rw [← hD, ← hu] at CD
         have CE2 := HEX D (by rw [hD]; exact Nat.lt_of_le_of_lt (Nat.div_le_self _ _) HMB)
         obtain ⟨X2, hX2⟩ : ∃ X2, X2 = Y ^ D % N := ⟨_, rfl⟩
         have hX2N : X2 < N := by rw [hX2]; exact Nat.mod_lt _ (by omega)
         have CS2 := rs_yes X2 1 N hN hN1 hX2N hN1
         obtain ⟨Z, hZ⟩ : ∃ Z, Z = (X2 + N - 1) % N := ⟨_, rfl⟩
         rw [← hX2] at CE2
         rw [← hZ] at CS2
         have hZN : Z < N := by rw [hZ]; exact Nat.mod_lt _ (by omega)
         have CC := fun w => rcommon_any (fun X Y hX hY h0 => ⟨X / Y, X % Y, Nat.mod_lt _ (by omega), by rw [Nat.mul_comm]; exact (Nat.div_add_mod X Y).symm, fun w => Jal X Y hX hY h0 w⟩) Z N (Nat.lt_trans hZN hN) hN w
         obtain ⟨G, hG⟩ : ∃ G, G = Nat.gcd Z N := ⟨_, rfl⟩
         rw [← hG] at CC
         have hGN : G < 2 ^ 256 := Nat.lt_of_le_of_lt (by rw [hG]; exact Nat.gcd_le_right _ (by omega)) hN
         have hWQ : Jev N Y q = decide (G = 1) := by rw [hG, hZ, hX2, hD, hM]; rfl
         have hiw : IntKind.i64.wrap ((i : Int) + 1) = (i : Int) + 1 := by rw [IntKind.wrap_i64]; omega
         repeat first|refine et1 ?_|refine eb1 ?_|refine ws1 ?_|refine wb1 ?_|refine wk1 ?_
         refine wp_region_lit ?_
         refine lxv (.int .i64 (i : Nat)) F (Jg (F.ev rfl)) fun a F => ?_
         refine lxv (.pointer (some ⟨gr, 8, none⟩)) F (Vf _ _ _ _ _ _ _ _ gr (F.ev rfl)) fun a F => ?_
         refine lxv (.slice pa l cap) F (We _ _ _ _ _ _ _ _ gr _ _ _ _ _ _ _ _ _ (F.ev rfl) (HM.get 2 rfl)) fun a F => ?_
         refine lxv (.int .i64 (l : Nat)) F (Jez _ _ _ _ _ _ _ _ _ _ _ (F.ev rfl)) fun a F => ?_
         refine lxv (.bool true) F (Kh (u := .int .i64 (i : Nat)) (v := .int .i64 (l : Nat)) (fun ρ hx hy => by simp only [execOp, hx, hy]; simp [go_sem] <;> omega) (F.ev rfl) (F.ev rfl)) fun a F => ?_
         refine Jj ?_
         repeat first|refine et1 ?_|refine eb1 ?_|refine ws1 ?_|refine wb1 ?_|refine wk1 ?_
         refine wp_cond_true (F.ev rfl) ?_
         repeat first|refine et1 ?_|refine eb1 ?_|refine ws1 ?_|refine wb1 ?_|refine wk1 ?_
         try simp only [List.append_eq, List.cons_append, List.nil_append]
         refine Kl [⟨0, 154, [], .val (num M), true⟩,
   ⟨1, 155, [0], .val (.pointer (some ⟨gr, 8, none⟩)), true⟩,
   ⟨2, 156, [1], .val (.slice pa l cap), true⟩,
   ⟨3, 157, [2], .val (.int .i64 (i : Nat)), true⟩,
   ⟨4, 158, [2, 3], .val (.pointer (some ⟨gs, os + i * 9, none⟩)), true⟩,
   ⟨5, 159, [4], .val (.pointer (some ⟨gs, os + i * 9, none⟩)), true⟩,
   ⟨6, 160, [5], .val (num q), true⟩,
   ⟨12, 17, [], .cell 24 (ncs 0), false⟩,
   ⟨13, 18, [], .cell 24 (ncs 0), false⟩,
   ⟨7, 161, [0, 6], .val (.tuple #[num D, num u, .int .i64 0]), false⟩,
   ⟨8, 153, [9], .val (.tuple #[num D, num u, .int .i64 0]), true⟩,
   ⟨9, 162, [10], .val (num D), true⟩,
   ⟨10, 163, [10, 11], .val (num u), true⟩,
   ⟨11, 164, [10, 12], .val (.int .i64 0), true⟩] 3 F HM (by kernel_rfl) (by rfl) (by rfl) ?_ ?_ ?_ ?_ ?_ ?_ ?_
         ·kernel_rfl
         ·exact of_decide_eq_true (by kernel_rfl)
         ·(repeat refine all_cons ⟨_, by rfl, by rfl⟩ ?_); exact Je
         ·kernel_rfl
         ·(repeat (refine all_cons ?_ ?_; rotate_left)); exact Je
          all_goals try exact Ji _ (by rfl)
          ·exact Jz _ _ _ _ _ _ _ (by rfl) (by rfl) (Jc) (fun ρ w kn hs => Jn (kn _ _ (F.old (by rfl) rfl)) (hs.get 0 rfl))
          ·exact Jz _ _ _ _ _ _ _ (by rfl) (by rfl) (Jc) (fun ρ w kn hs => Vf _ _ _ _ _ _ _ _ gr (kn _ _ (F.old (by rfl) rfl)))
          ·exact Jz _ _ _ _ _ _ _ (by rfl) (by rfl) (Jc) (fun ρ w kn hs => We _ _ _ _ _ _ _ _ gr _ _ _ _ _ _ _ _ _ (kn _ _ (kc 1 155)) (hs.get 2 rfl))
          ·exact Jz _ _ _ _ _ _ _ (by rfl) (by rfl) (Jc) (fun ρ w kn hs => Jg (kn _ _ (F.old (by rfl) rfl)))
          ·exact Jz _ _ _ _ _ _ _ (by rfl) (by rfl) (Jc) (fun ρ w kn hs => Jes _ _ _ _ _ _ _ _ _ gs os i l cap hlt (by rw [← ha]; exact (kn _ _ (kc 2 156))) (kn _ _ (kc 3 157)))
          ·exact Jz _ _ _ _ _ _ _ (by rfl) (by rfl) (Jc) (fun ρ w kn hs => Jce _ _ _ _ _ _ _ _ gs _ (kn _ _ (kc 4 158)))
          ·exact Jz _ _ _ _ _ _ _ (by rfl) (by rfl) (Jc) (fun ρ w kn hs => Jdh _ _ _ _ _ _ _ _ gs _ q y2 _ (kn _ _ (kc 5 159)) (hc9 _ hs.bel))
          ·exact Jz _ _ _ _ _ _ _ (by rfl) (by rfl) (Jc) (fun ρ w kn hs => Jg (kn _ _ (kc 9 161)))
          ·exact Jz _ _ _ _ _ _ _ (by rfl) (by rfl) (Jc) (fun ρ w kn hs => Jq (kn _ _ (kc 10 153)) rfl)
          ·exact Jz _ _ _ _ _ _ _ (by rfl) (by rfl) (Jc) (fun ρ w kn hs => Jq (kn _ _ (kc 10 153)) rfl)
          ·exact Jz _ _ _ _ _ _ _ (by rfl) (by rfl) (Jc) (fun ρ w kn hs => Jq (kn _ _ (kc 10 153)) rfl)
         ·(repeat (refine all_cons ?_ ?_; rotate_left)); exact Je
          all_goals try exact sA
          ·exact fun _ => Xb _ _ _ _ _ _ _ _ (by rfl) (by rfl) (Nat.le_refl _) (fun ρ w => Jy)
          ·exact fun _ => Xb _ _ _ _ _ _ _ _ (by rfl) (by rfl) (Nat.le_refl _) (fun ρ w => Jy)
          ·exact fun _ => Jh _ 33 _ _ [.tmp 154, .tmp 160] _ _ _ _ _ _ _ (by rfl) Tryz.func33 (by kernel_rfl) (by rfl) (by rfl) (Jc) (.cons (kc 0 154) (.cons (kc 6 160) .nil)) (CD)
         intro gs rs a w hgs hrs F HM
         obtain rfl := nl0 rs hrs
         clear hrs
         obtain ⟨gd, gu, rfl⟩ := nl2 gs hgs
         clear hgs
         refine Ul (i := 14) HM (by kernel_rfl) (by rfl) rfl rfl (k := 0) rfl (Ju (F.ev rfl) (F.ev rfl) (HM.get 0 rfl)) (M2 := [(gd, 24, ncs D), (gu, 24, ncs 0), (gm, 24, ncs M), (go, 24, ncs 1), (gr, 29, rcs N Y (.slice pa l cap))]) rfl (fun _ h => h.tail (A := [(gd, 24, ncs D), (gu, 24, ncs 0)])) fun w HM => ?_
         refine Ul (i := 15) HM (by kernel_rfl) (by rfl) rfl rfl (k := 1) rfl (Ju (F.ev rfl) (F.ev rfl) (HM.get 1 rfl)) (M2 := [(gd, 24, ncs D), (gu, 24, ncs u), (gm, 24, ncs M), (go, 24, ncs 1), (gr, 29, rcs N Y (.slice pa l cap))]) rfl (fun _ h => h.tail (A := [(gd, 24, ncs D), (gu, 24, ncs u)])) fun w HM => ?_
         refine Kx (i := 16) (d := 19) (x := .tmp 164) (v := .int .i64 0) F (HM.tail (A := [(gd, 24, ncs D), (gu, 24, ncs u)])) (by kernel_rfl) (by rfl) (by rfl) (F.ev rfl) fun a F => ?_
         refine Kn (by kernel_rfl) ?_ _
         repeat first|refine et1 ?_|refine eb1 ?_|refine ws1 ?_|refine wb1 ?_|refine wk1 ?_
         refine wp_region_lit ?_
         refine lxv (.pointer (some ⟨gr, 4, none⟩)) F (Wn _ _ _ _ _ _ _ _ gr (F.ev rfl)) fun a F => ?_
         refine lxv (num Y) F (Jac _ _ _ _ _ _ _ _ gr _ _ _ _ _ _ _ _ _ (F.ev rfl) (HM.get 4 rfl)) fun a F => ?_
         refine lxv (num D) F (Jn (F.ev rfl) (HM.get 0 rfl)) fun a F => ?_
         refine lxv (.pointer (some ⟨gr, 0, none⟩)) F (Kj (F.ev rfl)) fun a F => ?_
         refine lxv (num N) F (Ks (F.ev rfl) (HM.get 4 rfl)) fun a F => ?_
         refine Jr F (Ja rfl _) rfl (by rfl) (Jl Tryz.func20 (by kernel_rfl) (by rfl) (.cons (F.ev rfl) (.cons (F.ev rfl) (.cons (F.ev rfl) .nil))) _) (CE2 _) fun a w z F => ?_
         replace HM := HM.on z
         clear z
         refine lxv (.tuple #[num X2, .int .i64 0]) F (Jg (F.ev rfl)) fun a F => ?_
         refine lxv (num X2) F (Jq (F.ev rfl) rfl) fun a F => ?_
         refine lxv (.int .i64 0) F (Jq (F.ev rfl) rfl) fun a F => ?_
         refine Jw F HM (Ja rfl _) rfl (by rfl) (Jy) fun a w gy F HM => ?_
         refine Kd F HM (Ja rfl _) rfl (k := 0) rfl (Ju (F.ev rfl) (F.ev rfl) (HM.get 0 rfl)) (M2 := [(gy, 24, ncs X2), (gd, 24, ncs D), (gu, 24, ncs u), (gm, 24, ncs M), (go, 24, ncs 1), (gr, 29, rcs N Y (.slice pa l cap))]) rfl fun w HM => ?_
         refine lxv (.int .i64 0) F (Jk (F.ev rfl)) fun a F => ?_
         refine Jj ?_
         repeat first|refine et1 ?_|refine eb1 ?_|refine ws1 ?_|refine wb1 ?_|refine wk1 ?_
         refine wp_region_lit ?_
         refine lxv (num X2) F (Jn (F.ev rfl) (HM.get 0 rfl)) fun a F => ?_
         refine lxv (num 1) F (Jn (F.ev rfl) (HM.get 4 rfl)) fun a F => ?_
         refine lxv (.pointer (some ⟨gr, 0, none⟩)) F (Kj (F.ev rfl)) fun a F => ?_
         refine lxv (num N) F (Ks (F.ev rfl) (HM.get 5 rfl)) fun a F => ?_
         refine Jr F (Ja rfl _) rfl (by rfl) (Jl Tryz.func72 (by kernel_rfl) (by rfl) (.cons (F.ev rfl) (.cons (F.ev rfl) (.cons (F.ev rfl) .nil))) _) (CS2 _) fun a w z F => ?_
         replace HM := HM.on z
         clear z
         refine lxv (.tuple #[num Z, .int .i64 0]) F (Jg (F.ev rfl)) fun a F => ?_
         refine lxv (num Z) F (Jq (F.ev rfl) rfl) fun a F => ?_
         refine lxv (.int .i64 0) F (Jq (F.ev rfl) rfl) fun a F => ?_
         refine Kd F HM (Ja rfl _) rfl (k := 0) rfl (Ju (F.ev rfl) (F.ev rfl) (HM.get 0 rfl)) (M2 := [(gy, 24, ncs Z), (gd, 24, ncs D), (gu, 24, ncs u), (gm, 24, ncs M), (go, 24, ncs 1), (gr, 29, rcs N Y (.slice pa l cap))]) rfl fun w HM => ?_
         refine Jj ?_
         by_cases hg : G = 1
         ·have hgd : decide (G = 1) = true := decide_eq_true hg
          repeat first|refine et1 ?_|refine eb1 ?_|refine ws1 ?_|refine wb1 ?_|refine wk1 ?_
          try simp only [List.append_eq, List.cons_append, List.nil_append]
          refine Kl [⟨0, 182, [], .val (num Z), true⟩,
   ⟨1, 183, [0], .val (.pointer (some ⟨gr, 0, none⟩)), true⟩,
   ⟨2, 184, [1], .val (num N), true⟩,
   ⟨4, 186, [2], .val (num 1), true⟩,
   ⟨3, 185, [0, 2, 3], .val (num G), false⟩,
   ⟨5, 187, [3, 4], .val (.bool false), true⟩] 0 F HM (by kernel_rfl) (by rfl) (by rfl) ?_ ?_ ?_ ?_ ?_ ?_ ?_
          ·kernel_rfl
          ·exact of_decide_eq_true (by kernel_rfl)
          ·(repeat refine all_cons ⟨_, by rfl, by rfl⟩ ?_); exact Je
          ·kernel_rfl
          ·(repeat (refine all_cons ?_ ?_; rotate_left)); exact Je
           ·exact Jz _ _ _ _ _ _ _ (by rfl) (by rfl) (Jc) (fun ρ w kn hs => Jn (kn _ _ (F.old (by rfl) rfl)) (hs.get 0 rfl))
           ·exact Jz _ _ _ _ _ _ _ (by rfl) (by rfl) (Jc) (fun ρ w kn hs => Kj (kn _ _ (F.old (by rfl) rfl)))
           ·exact Jz _ _ _ _ _ _ _ (by rfl) (by rfl) (Jc) (fun ρ w kn hs => Ks (kn _ _ (kc 1 183)) (hs.get 5 rfl))
           ·exact Jz _ _ _ _ _ _ _ (by rfl) (by rfl) (Jc) (fun ρ w kn hs => Jn (kn _ _ (F.old (by rfl) rfl)) (hs.get 4 rfl))
           ·exact Ji _ (by rfl)
           ·exact Jz _ _ _ _ _ _ _ (by rfl) (by rfl) (Jc) (fun ρ w kn hs => Vl hGN (show 1 < 2 ^ 256 by decide) hgd (kn _ _ (kc 4 185)) (kn _ _ (kc 3 186)))
          ·(repeat (refine all_cons ?_ ?_; rotate_left)); exact Je
           all_goals try exact sA
           ·exact fun _ => Jh _ 73 _ _ [.tmp 182, .tmp 184] _ _ _ _ _ _ _ (by rfl) Tryz.func73 (by kernel_rfl) (by rfl) (by rfl) (Jc) (.cons (kc 0 182) (.cons (kc 2 184) .nil)) (CC)
          intro gs rs a w hgs hrs F HM
          obtain rfl := nl0 rs hrs
          clear hrs
          obtain rfl := nl0 gs hgs
          clear hgs
          refine Kn (by kernel_rfl) ?_ _
          repeat first|refine et1 ?_|refine eb1 ?_|refine ws1 ?_|refine wb1 ?_|refine wk1 ?_
          refine wp_cond_false (F.ev rfl) ?_
          repeat first|refine et1 ?_|refine eb1 ?_|refine ws1 ?_|refine wb1 ?_|refine wk1 ?_
          refine wp_region_lit ?_
          refine lxv (.int .i64 (i : Nat)) F (Jg (F.ev rfl)) fun a F => ?_
          refine lxv (.int .i64 ((i + 1 : Nat) : Int)) F (Kh (u := .int .i64 (i : Nat)) (v := .int .i64 1) (fun ρ hx hy => by simp only [execOp, hx, hy]; simp [go_sem, hiw]) (F.ev rfl) rfl) fun a F => ?_
          refine lxv (.int .i64 ((i + 1 : Nat) : Int)) F (Jk (F.ev rfl)) fun a F => ?_
          refine Jj ?_
          refine Kv ?_
          have hA : ∀ j (hj : j < ps.length), j < i + 1 → Jev N Y (ps[j]).n = true := fun j hj hji => by
           rcases Nat.lt_or_ge j i with h | h
           ·exact HJ j hj h
           ·obtain rfl : j = i := by omega
            rw [hq1, hWQ]; exact hgd
          refine ⟨⟨i + 1, by omega, hA, F.sub [16, 4, 3, 1], HM.tail (A := [_, _, _])⟩, ?_⟩
          show l - (intOf (a.tmps.getD 16 undef)).toNat < l - (intOf (aS.tmps.getD 16 undef)).toNat
          rw [F.get 16 _ rfl, FS.get 16 _ rfl]
          show l - ((i + 1 : Nat) : Int).toNat < l - ((i : Nat) : Int).toNat
          omega
         ·have hgd : decide (G = 1) = false := decide_eq_false hg
          repeat first|refine et1 ?_|refine eb1 ?_|refine ws1 ?_|refine wb1 ?_|refine wk1 ?_
          try simp only [List.append_eq, List.cons_append, List.nil_append]
          refine Kl [⟨0, 182, [], .val (num Z), true⟩,
   ⟨1, 183, [0], .val (.pointer (some ⟨gr, 0, none⟩)), true⟩,
   ⟨2, 184, [1], .val (num N), true⟩,
   ⟨4, 186, [2], .val (num 1), true⟩,
   ⟨3, 185, [0, 2, 3], .val (num G), false⟩,
   ⟨5, 187, [3, 4], .val (.bool true), true⟩] 0 F HM (by kernel_rfl) (by rfl) (by rfl) ?_ ?_ ?_ ?_ ?_ ?_ ?_
          ·kernel_rfl
          ·exact of_decide_eq_true (by kernel_rfl)
          ·(repeat refine all_cons ⟨_, by rfl, by rfl⟩ ?_); exact Je
          ·kernel_rfl
          ·(repeat (refine all_cons ?_ ?_; rotate_left)); exact Je
           ·exact Jz _ _ _ _ _ _ _ (by rfl) (by rfl) (Jc) (fun ρ w kn hs => Jn (kn _ _ (F.old (by rfl) rfl)) (hs.get 0 rfl))
           ·exact Jz _ _ _ _ _ _ _ (by rfl) (by rfl) (Jc) (fun ρ w kn hs => Kj (kn _ _ (F.old (by rfl) rfl)))
           ·exact Jz _ _ _ _ _ _ _ (by rfl) (by rfl) (Jc) (fun ρ w kn hs => Ks (kn _ _ (kc 1 183)) (hs.get 5 rfl))
           ·exact Jz _ _ _ _ _ _ _ (by rfl) (by rfl) (Jc) (fun ρ w kn hs => Jn (kn _ _ (F.old (by rfl) rfl)) (hs.get 4 rfl))
           ·exact Ji _ (by rfl)
           ·exact Jz _ _ _ _ _ _ _ (by rfl) (by rfl) (Jc) (fun ρ w kn hs => Vl hGN (show 1 < 2 ^ 256 by decide) hgd (kn _ _ (kc 4 185)) (kn _ _ (kc 3 186)))
          ·(repeat (refine all_cons ?_ ?_; rotate_left)); exact Je
           all_goals try exact sA
           ·exact fun _ => Jh _ 73 _ _ [.tmp 182, .tmp 184] _ _ _ _ _ _ _ (by rfl) Tryz.func73 (by kernel_rfl) (by rfl) (by rfl) (Jc) (.cons (kc 0 182) (.cons (kc 2 184) .nil)) (CC)
          intro gs rs a w hgs hrs F HM
          obtain rfl := nl0 rs hrs
          clear hrs
          obtain rfl := nl0 gs hgs
          clear hgs
          refine Kn (by kernel_rfl) ?_ _
          repeat first|refine et1 ?_|refine eb1 ?_|refine ws1 ?_|refine wb1 ?_|refine wk1 ?_
          refine wp_cond_true (F.ev rfl) ?_
          repeat first|refine et1 ?_|refine eb1 ?_|refine ws1 ?_|refine wb1 ?_|refine wk1 ?_
          refine wp_region_lit ?_
          refine lxv (.bool false) F (Jk rfl) fun a F => ?_
          refine Jj ?_
          have hT : V = false := by rw [HW, hqs]; exact witB_no ⟨hil, hq1⟩ (by rw [hWQ]; exact hgd)
          repeat first|refine et1 ?_|refine eb1 ?_|refine ws1 ?_|refine wb1 ?_|refine wk1 ?_
          refine wp_ret ?_
          repeat (first | refine Jt ?_ | refine Jp ?_)
          rw [hT]
          exact Ki F HM (Kf F rfl (s := 2) rfl)
        ·repeat first|refine et1 ?_|refine eb1 ?_|refine ws1 ?_|refine wb1 ?_|refine wk1 ?_
         refine wp_region_lit ?_
         refine lxv (.int .i64 (i : Nat)) F (Jg (F.ev rfl)) fun a F => ?_
         refine lxv (.pointer (some ⟨gr, 8, none⟩)) F (Vf _ _ _ _ _ _ _ _ gr (F.ev rfl)) fun a F => ?_
         refine lxv (.slice pa l cap) F (We _ _ _ _ _ _ _ _ gr _ _ _ _ _ _ _ _ _ (F.ev rfl) (HM.get 2 rfl)) fun a F => ?_
         refine lxv (.int .i64 (l : Nat)) F (Jez _ _ _ _ _ _ _ _ _ _ _ (F.ev rfl)) fun a F => ?_
         refine lxv (.bool false) F (Kh (u := .int .i64 (i : Nat)) (v := .int .i64 (l : Nat)) (fun ρ hx hy => by simp only [execOp, hx, hy]; simp [go_sem] <;> omega) (F.ev rfl) (F.ev rfl)) fun a F => ?_
         refine Jj ?_
         repeat first|refine et1 ?_|refine eb1 ?_|refine ws1 ?_|refine wb1 ?_|refine wk1 ?_
         refine wp_cond_false (F.ev rfl) ?_
         repeat first|refine et1 ?_|refine eb1 ?_|refine ws1 ?_|refine wb1 ?_|refine wk1 ?_
         refine wp_exit ?_
         repeat (first | refine Wz ?_ | refine Wf ?_)
         repeat first|refine et1 ?_|refine eb1 ?_|refine ws1 ?_|refine wb1 ?_|refine wk1 ?_
         refine wp_region_lit ?_
         refine lxv (.bool true) F (Jk rfl) fun a F => ?_
         refine Jj ?_
         have hT : V = true := by rw [HW, hqs]; exact witB_all h1 h2 (by rw [← hM, ← hE]; exact h3) (fun j hj => HJ j hj (by omega))
         repeat first|refine et1 ?_|refine eb1 ?_|refine ws1 ?_|refine wb1 ?_|refine wk1 ?_
         refine wp_ret ?_
         repeat (first | refine Jt ?_ | refine Jp ?_)
         rw [hT]
         exact Ki F HM (Kf F rfl (s := 2) rfl)
       ·have h3d : decide (E = 1) = false := decide_eq_false h3
        have hT : V = false := by rw [HW]; rw [hE, hM] at h3; simp [Jcl, h3]
        repeat first|refine et1 ?_|refine eb1 ?_|refine ws1 ?_|refine wb1 ?_|refine wk1 ?_
        refine wp_region_lit ?_
        refine lxv (num E) F (Jn (F.ev rfl) (HM.get 0 rfl)) fun a F => ?_
        refine lxv (num 1) F (Jn (F.ev rfl) (HM.get 5 rfl)) fun a F => ?_
        refine lxv (.bool true) F (Vl hEb (show 1 < 2 ^ 256 by decide) h3d (F.ev rfl) (F.ev rfl)) fun a F => ?_
        refine Jj ?_
        repeat first|refine et1 ?_|refine eb1 ?_|refine ws1 ?_|refine wb1 ?_|refine wk1 ?_
        refine wp_cond_true (F.ev rfl) ?_
        repeat first|refine et1 ?_|refine eb1 ?_|refine ws1 ?_|refine wb1 ?_|refine wk1 ?_
        refine wp_region_lit ?_
        refine lxv (.bool false) F (Jk rfl) fun a F => ?_
        refine Jj ?_
        repeat first|refine et1 ?_|refine eb1 ?_|refine ws1 ?_|refine wb1 ?_|refine wk1 ?_
        refine wp_ret ?_
        repeat (first | refine Jt ?_ | refine Jp ?_)
        rw [hT]
        exact Ki F HM (Kf F rfl (s := 2) rfl)
      ·replace hT := hT rfl
       clear hF
       repeat first|refine et1 ?_|refine eb1 ?_|refine ws1 ?_|refine wb1 ?_|refine wk1 ?_
       refine wp_cond_true (F.ev rfl) ?_
       repeat first|refine et1 ?_|refine eb1 ?_|refine ws1 ?_|refine wb1 ?_|refine wk1 ?_
       refine wp_region_lit ?_
       refine lxv (.bool false) F (Jk rfl) fun a F => ?_
       refine Jj ?_
       repeat first|refine et1 ?_|refine eb1 ?_|refine ws1 ?_|refine wb1 ?_|refine wk1 ?_
       refine wp_ret ?_
       repeat (first | refine Jt ?_ | refine Jp ?_)
       rw [hT]
       exact Ki F HM (Kf F rfl (s := 2) rfl)
     ·have HK1 := fun w => Kz Y 1 hY (by decide) w
      have HK2 := fun w => Kz Y N hY hN w
      by_cases h1 : 1 < Y
      ·have hkk := Xn h1
       generalize Uu Y 1 = k at *
       by_cases h2 : Y < N
       ·have hk2 := Jcy h2
        generalize Uu Y N = k2 at *
        repeat first|refine et1 ?_|refine eb1 ?_|refine ws1 ?_|refine wb1 ?_|refine wk1 ?_
        refine wp_region_lit ?_
        refine lxv (.pointer (some ⟨gr, 4, none⟩)) F (Wn _ _ _ _ _ _ _ _ gr (F.ev rfl)) fun a F => ?_
        refine lxv (num Y) F (Jac _ _ _ _ _ _ _ _ gr _ _ _ _ _ _ _ _ _ (F.ev rfl) (HM.get 5 rfl)) fun a F => ?_
        refine lxv (num 1) F (Jn (F.ev rfl) (HM.get 4 rfl)) fun a F => ?_
        refine Jr F (Ja rfl _) rfl (by rfl) (Jl Tryz.func17 (by kernel_rfl) (by rfl) (.cons (F.ev rfl) (.cons (F.ev rfl) .nil)) _) (HK1 _) fun a w z F => ?_
        replace HM := HM.on z
        clear z
        refine lxv (.bool false) F (Kh (u := .int .i64 k) (v := .int .i64 0) (fun ρ hx hy => by simp only [execOp, hx, hy]; simp [go_sem] <;> omega) (F.ev rfl) rfl) fun a F => ?_
        refine lxv (.bool false) F (Jg (F.ev rfl)) fun a F => ?_
        refine lxw 126 false (.pointer (some ⟨gr, 4, none⟩)) F (Wn _ _ _ _ _ _ _ _ gr (F.ev rfl)) fun a F => ?_
        refine lxw 126 false (num Y) F (Jac _ _ _ _ _ _ _ _ gr _ _ _ _ _ _ _ _ _ (F.ev rfl) (HM.get 5 rfl)) fun a F => ?_
        refine lxw 126 false (.pointer (some ⟨gr, 0, none⟩)) F (Kj (F.ev rfl)) fun a F => ?_
        refine lxw 126 false (num N) F (Ks (F.ev rfl) (HM.get 5 rfl)) fun a F => ?_
        refine Jr F (F.want (t := 126) (c := false) rfl rfl rfl (by rfl) rfl) rfl (by rfl) (Jl Tryz.func17 (by kernel_rfl) (by rfl) (.cons (F.ev rfl) (.cons (F.ev rfl) .nil)) _) (HK2 _) fun a w z F => ?_
        replace HM := HM.on z
        clear z
        refine lxw 126 false (.bool false) F (Kh (u := .int .i64 k2) (v := .int .i64 0) (fun ρ hx hy => by simp only [execOp, hx, hy]; simp [go_sem] <;> omega) (F.ev rfl) rfl) fun a F => ?_
        refine lxv (.bool false) F (Js (b := false) (r := .bool false) (F.ev rfl) rfl (F.ev rfl) rfl) fun a F => ?_
        refine Jj ?_
        exact ⟨rfl, false, F.sub [133, 4, 3, 1], HM, (fun h => by cases h), fun _ => ⟨h1, h2⟩⟩
       ·have hk2 := Jbu (Nat.le_of_not_lt h2)
        generalize Uu Y N = k2 at *
        repeat first|refine et1 ?_|refine eb1 ?_|refine ws1 ?_|refine wb1 ?_|refine wk1 ?_
        refine wp_region_lit ?_
        refine lxv (.pointer (some ⟨gr, 4, none⟩)) F (Wn _ _ _ _ _ _ _ _ gr (F.ev rfl)) fun a F => ?_
        refine lxv (num Y) F (Jac _ _ _ _ _ _ _ _ gr _ _ _ _ _ _ _ _ _ (F.ev rfl) (HM.get 5 rfl)) fun a F => ?_
        refine lxv (num 1) F (Jn (F.ev rfl) (HM.get 4 rfl)) fun a F => ?_
        refine Jr F (Ja rfl _) rfl (by rfl) (Jl Tryz.func17 (by kernel_rfl) (by rfl) (.cons (F.ev rfl) (.cons (F.ev rfl) .nil)) _) (HK1 _) fun a w z F => ?_
        replace HM := HM.on z
        clear z
        refine lxv (.bool false) F (Kh (u := .int .i64 k) (v := .int .i64 0) (fun ρ hx hy => by simp only [execOp, hx, hy]; simp [go_sem] <;> omega) (F.ev rfl) rfl) fun a F => ?_
        refine lxv (.bool false) F (Jg (F.ev rfl)) fun a F => ?_
        refine lxw 126 false (.pointer (some ⟨gr, 4, none⟩)) F (Wn _ _ _ _ _ _ _ _ gr (F.ev rfl)) fun a F => ?_
        refine lxw 126 false (num Y) F (Jac _ _ _ _ _ _ _ _ gr _ _ _ _ _ _ _ _ _ (F.ev rfl) (HM.get 5 rfl)) fun a F => ?_
        refine lxw 126 false (.pointer (some ⟨gr, 0, none⟩)) F (Kj (F.ev rfl)) fun a F => ?_
        refine lxw 126 false (num N) F (Ks (F.ev rfl) (HM.get 5 rfl)) fun a F => ?_
        refine Jr F (F.want (t := 126) (c := false) rfl rfl rfl (by rfl) rfl) rfl (by rfl) (Jl Tryz.func17 (by kernel_rfl) (by rfl) (.cons (F.ev rfl) (.cons (F.ev rfl) .nil)) _) (HK2 _) fun a w z F => ?_
        replace HM := HM.on z
        clear z
        refine lxw 126 false (.bool true) F (Kh (u := .int .i64 k2) (v := .int .i64 0) (fun ρ hx hy => by simp only [execOp, hx, hy]; simp [go_sem] <;> omega) (F.ev rfl) rfl) fun a F => ?_
        refine lxv (.bool true) F (Js (b := false) (r := .bool true) (F.ev rfl) rfl (F.ev rfl) rfl) fun a F => ?_
        refine Jj ?_
        exact ⟨rfl, true, F.sub [133, 4, 3, 1], HM, fun _ => (show V = false by rw [HW]; simp [Jcl, h2]), (fun h => by cases h)⟩
      ·have hkk := Xw (Nat.le_of_not_lt h1)
       generalize Uu Y 1 = k at *
       repeat first|refine et1 ?_|refine eb1 ?_|refine ws1 ?_|refine wb1 ?_|refine wk1 ?_
       refine wp_region_lit ?_
       refine lxv (.pointer (some ⟨gr, 4, none⟩)) F (Wn _ _ _ _ _ _ _ _ gr (F.ev rfl)) fun a F => ?_
       refine lxv (num Y) F (Jac _ _ _ _ _ _ _ _ gr _ _ _ _ _ _ _ _ _ (F.ev rfl) (HM.get 5 rfl)) fun a F => ?_
       refine lxv (num 1) F (Jn (F.ev rfl) (HM.get 4 rfl)) fun a F => ?_
       refine Jr F (Ja rfl _) rfl (by rfl) (Jl Tryz.func17 (by kernel_rfl) (by rfl) (.cons (F.ev rfl) (.cons (F.ev rfl) .nil)) _) (HK1 _) fun a w z F => ?_
       replace HM := HM.on z
       clear z
       refine lxv (.bool true) F (Kh (u := .int .i64 k) (v := .int .i64 0) (fun ρ hx hy => by simp only [execOp, hx, hy]; simp [go_sem] <;> omega) (F.ev rfl) rfl) fun a F => ?_
       refine lxv (.bool true) F (Jg (F.ev rfl)) fun a F => ?_
       refine lxp 126 true F fun a F => ?_
       refine lxp 126 true F fun a F => ?_
       refine lxp 126 true F fun a F => ?_
       refine lxp 126 true F fun a F => ?_
       refine lxp 126 true F fun a F => ?_
       refine lxp 126 true F fun a F => ?_
       refine lxv (.bool true) F (Js (b := true) (r := .bool true) (F.ev rfl) rfl (F.ev rfl) rfl) fun a F => ?_
       refine Jj ?_
       exact ⟨rfl, true, F.sub [133, 4, 3, 1], HM, fun _ => (show V = false by rw [HW]; simp [Jcl, h1]), (fun h => by cases h)⟩
    ·replace hT := hT rfl
     clear hF
     repeat first|refine et1 ?_|refine eb1 ?_|refine ws1 ?_|refine wb1 ?_|refine wk1 ?_
     refine wp_cond_true (F.ev rfl) ?_
     repeat first|refine et1 ?_|refine eb1 ?_|refine ws1 ?_|refine wb1 ?_|refine wk1 ?_
     refine wp_region_lit ?_
     refine lxv (.bool false) F (Jk rfl) fun a F => ?_
     refine Jj ?_
     repeat first|refine et1 ?_|refine eb1 ?_|refine ws1 ?_|refine wb1 ?_|refine wk1 ?_
     refine wp_ret ?_
     repeat (first | refine Jt ?_ | refine Jp ?_)
     rw [hT]
     exact Ki F HM (Kf F rfl (s := 2) rfl)
   ·have HK := fun w => Kz Lo N hLo hN w
    by_cases hz : Hi = 0
    ·have hzz : decide (Hi = 0) = true := decide_eq_true hz
     have hxx : X * X = Lo := by rw [hz] at hmm; omega
     by_cases hk : N < Lo
     ·have hkk := Xn hk
      have hw := hvv
      rw [hxx, decide_eq_true hk, Bool.true_and] at hw
      generalize Uu Lo N = k at *
      repeat first|refine et1 ?_|refine eb1 ?_|refine ws1 ?_|refine wb1 ?_|refine wk1 ?_
      refine wp_region_lit ?_
      refine lxv (num Hi) F (Jn (F.ev rfl) (HM.get 0 rfl)) fun a F => ?_
      refine lxv (num 0) F (Kq) fun a F => ?_
      refine lxv (.bool true) F (Vg hHi (show 0 < 2 ^ 256 by decide) hzz (F.ev rfl) (F.ev rfl)) fun a F => ?_
      refine lxv (.bool true) F (Jg (F.ev rfl)) fun a F => ?_
      refine lxw 114 true (num Lo) F (Jn (F.ev rfl) (HM.get 1 rfl)) fun a F => ?_
      refine lxw 114 true (.pointer (some ⟨gr, 0, none⟩)) F (Kj (F.ev rfl)) fun a F => ?_
      refine lxw 114 true (num N) F (Ks (F.ev rfl) (HM.get 5 rfl)) fun a F => ?_
      refine Jr F (F.want (t := 114) (c := true) rfl rfl rfl (by rfl) rfl) rfl (by rfl) (Jl Tryz.func17 (by kernel_rfl) (by rfl) (.cons (F.ev rfl) (.cons (F.ev rfl) .nil)) _) (HK _) fun a w z F => ?_
      replace HM := HM.on z
      clear z
      refine lxw 114 true (.bool false) F (Kh (u := .int .i64 k) (v := .int .i64 0) (fun ρ hx hy => by simp only [execOp, hx, hy]; simp [go_sem] <;> omega) (F.ev rfl) rfl) fun a F => ?_
      refine lxv (.bool false) F (Js (b := true) (r := .bool false) (F.ev rfl) (F.ev rfl) rfl rfl) fun a F => ?_
      refine Jj ?_
      exact ⟨rfl, false, F.sub [120, 4, 3, 1], HM, (fun h => by cases h), fun _ => hw⟩
     ·have hkk := Xw (Nat.le_of_not_lt hk)
      have hw := hvv
      rw [hxx, decide_eq_false hk, Bool.false_and] at hw
      generalize Uu Lo N = k at *
      repeat first|refine et1 ?_|refine eb1 ?_|refine ws1 ?_|refine wb1 ?_|refine wk1 ?_
      refine wp_region_lit ?_
      refine lxv (num Hi) F (Jn (F.ev rfl) (HM.get 0 rfl)) fun a F => ?_
      refine lxv (num 0) F (Kq) fun a F => ?_
      refine lxv (.bool true) F (Vg hHi (show 0 < 2 ^ 256 by decide) hzz (F.ev rfl) (F.ev rfl)) fun a F => ?_
      refine lxv (.bool true) F (Jg (F.ev rfl)) fun a F => ?_
      refine lxw 114 true (num Lo) F (Jn (F.ev rfl) (HM.get 1 rfl)) fun a F => ?_
      refine lxw 114 true (.pointer (some ⟨gr, 0, none⟩)) F (Kj (F.ev rfl)) fun a F => ?_
      refine lxw 114 true (num N) F (Ks (F.ev rfl) (HM.get 5 rfl)) fun a F => ?_
      refine Jr F (F.want (t := 114) (c := true) rfl rfl rfl (by rfl) rfl) rfl (by rfl) (Jl Tryz.func17 (by kernel_rfl) (by rfl) (.cons (F.ev rfl) (.cons (F.ev rfl) .nil)) _) (HK _) fun a w z F => ?_
      replace HM := HM.on z
      clear z
      refine lxw 114 true (.bool true) F (Kh (u := .int .i64 k) (v := .int .i64 0) (fun ρ hx hy => by simp only [execOp, hx, hy]; simp [go_sem] <;> omega) (F.ev rfl) rfl) fun a F => ?_
      refine lxv (.bool true) F (Js (b := true) (r := .bool true) (F.ev rfl) (F.ev rfl) rfl rfl) fun a F => ?_
      refine Jj ?_
      exact ⟨rfl, true, F.sub [120, 4, 3, 1], HM, fun _ => hw, (fun h => by cases h)⟩
    ·have hzz : decide (Hi = 0) = false := decide_eq_false hz
     have hw := hvv
     have hnx : N < X * X := by rw [hmm]; omega
     rw [decide_eq_true hnx, Bool.true_and] at hw
     repeat first|refine et1 ?_|refine eb1 ?_|refine ws1 ?_|refine wb1 ?_|refine wk1 ?_
     refine wp_region_lit ?_
     refine lxv (num Hi) F (Jn (F.ev rfl) (HM.get 0 rfl)) fun a F => ?_
     refine lxv (num 0) F (Kq) fun a F => ?_
     refine lxv (.bool false) F (Vg hHi (show 0 < 2 ^ 256 by decide) hzz (F.ev rfl) (F.ev rfl)) fun a F => ?_
     refine lxv (.bool false) F (Jg (F.ev rfl)) fun a F => ?_
     refine lxp 114 false F fun a F => ?_
     refine lxp 114 false F fun a F => ?_
     refine lxp 114 false F fun a F => ?_
     refine lxp 114 false F fun a F => ?_
     refine lxp 114 false F fun a F => ?_
     refine lxv (.bool false) F (Js (b := false) (r := .bool false) (F.ev rfl) (F.ev rfl) rfl rfl) fun a F => ?_
     refine Jj ?_
     exact ⟨rfl, false, F.sub [120, 4, 3, 1], HM, (fun h => by cases h), fun _ => hw⟩
theorem rholds_any : ∀ (k : Nat) (r : Rsn), r.cnt ≤ k → RH r
 | 0, r, h => by have := Pr.cnt_pos r; omega
 | k + 1, r, h => rholds_step r fun p hp => rholds_any k p (by have := Pr.cnt_part hp; omega)
end Go.Proofs.YtodlpmepoakdlaaGreat
