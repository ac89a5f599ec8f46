/-
 balefireref07.holds: whether a reason holds, with not too many in it.
-/
import Derived.Deep.Cut
import Derived.Test.YtnphoelbbgmehaaMAdd
import Derived.Test.YtnphoelbbgmehaaMCheck
import Derived.Test.YtnphoelbbgmehaaMRCmp
import Derived.Test.YtnphoelbbgmehaaMRCommon
import Derived.Test.YtnphoelbbgmehaaMRMany
import Derived.Test.YtnphoelbbgmehaaMRbits
import Derived.Test.YtnphoelbbgmehaaMRefC
import Derived.Test.YtnphoelbbgmehaaMRefD
import Derived.Test.YtnphoelbbgmehaaMShows
namespace Go.Proofs.Ytnphoelbbgmehaa
set_option maxRecDepth 100000
open Go.RowKit
set_option linter.unusedSimpArgs false
set_option linter.unusedVariables false
attribute [local go_sem ↓] Go.wp_at_zero Go.wp_at_succ

open Pr (Rsn)
theorem bits_small2 {N : Nat} (hN : N < 2 ^ 256) : ((Go.bitLen N : Nat) : Int) ≤ 32 ↔ N < 4294967296 := by
 have h := (Go.bitLen_spec N).1
 constructor
 ·intro h2
  have h3 : 2 ^ Go.bitLen N ≤ 2 ^ 32 := Nat.pow_le_pow_right (by decide) (by omega)
  have h4 : (2 : Nat) ^ 32 = 4294967296 := by decide
  omega
 ·intro h2
  have : Go.bitLen N ≤ 32 := Nat.le_of_not_lt fun hc => by
   have := (Go.bitLen_spec N).2
   have h5 : N ≠ 0 := fun h0 => by subst h0; simp [Go.bitLen] at hc
   have h6 : 2 ^ (Go.bitLen N - 1) ≤ N := by
    first
     | exact this (by omega)
     | exact this h5
     | (rcases this with h | h <;> omega)
   have h7 : (2 : Nat) ^ 32 ≤ 2 ^ (Go.bitLen N - 1) := Nat.pow_le_pow_right (by decide) (by omega)
   have h4 : (2 : Nat) ^ 32 = 4294967296 := by decide
   omega
  omega
/-- what is said of the document's holds, of a reason -/
def RH (r : Rsn) : Prop := ∀ (a : Option Addr) (cap : Nat) (w : World), r.n < 2 ^ 256 → r.w < 2 ^ 256 → Sl w a cap r.ps →
 Calls Try.prog 33 #[rv r.n r.w (.slice a r.ps.length cap)] w fun e w' => e = .returned (.bool r.ok) ∧ Below w.heap.size w w'
theorem ok_small_eq {r : Rsn} (h : r.n < 4294967296) : r.ok = (Pr.priB r.n && (decide (r.w = 0) && decide (r.ps.length = 0))) := by
 cases r with
 | mk n y ps =>
   show Rsn.ok _ = (Pr.priB n && (decide (y = 0) && decide (ps.length = 0)))
   have h' : n < 4294967296 := h
   unfold Rsn.ok
   rw [if_pos h', len_empty]
theorem ok_great_eq {r : Rsn} (h : ¬ r.n < 4294967296) : r.ok = (Pr.oks r.ps && (reachB r.n (r.ps.map Rsn.n) && witB r.n r.w (r.ps.map Rsn.n))) := by
 cases r with
 | mk n y ps =>
   show Rsn.ok _ = (Pr.oks ps && (reachB n (ps.map Rsn.n) && witB n y (ps.map Rsn.n)))
   have h' : ¬ n < 4294967296 := h
   unfold Rsn.ok
   rw [if_neg h', great_eq]
theorem reach_norise2 {N i q : Nat} {qs : List Nat} (hi : i < qs.length) (hq : qs.getD i 0 = q) (h0 : 0 < i) (hl : q ≤ lastQ qs i) : reachB N qs = false := by
 unfold lastQ at hl
 rw [if_neg (by omega)] at hl
 obtain ⟨k, rfl⟩ : ∃ k, i = k + 1 := ⟨i - 1, by omega⟩
 simp only [reachB, Pr.rises_no hi rfl hq hl, Bool.false_and]
theorem ok_no_reach {r : Rsn} (h : ¬ r.n < 4294967296) (hr : reachB r.n (r.ps.map Rsn.n) = false) : r.ok = false := by rw [ok_great_eq h, hr]; simp
set_option maxRecDepth 100000 in
set_option maxHeartbeats 8000000 in
theorem rholds_step (r : Rsn) (ih : ∀ p ∈ r.ps, RH p) : RH r := by
 intro a cap w hN hY hs
 obtain ⟨ps, hps⟩ : ∃ ps, ps = r.ps := ⟨_, rfl⟩
 obtain ⟨N, hNe⟩ : ∃ N, N = r.n := ⟨_, rfl⟩
 obtain ⟨Y, hYe⟩ : ∃ Y, Y = r.w := ⟨_, rfl⟩
 obtain ⟨V, hV⟩ : ∃ V, V = r.ok := ⟨_, rfl⟩
 obtain ⟨qs, hqs⟩ : ∃ qs, qs = ps.map Rsn.n := ⟨_, rfl⟩
 have hql : qs.length = ps.length := by rw [hqs]; simp
 have hqg : ∀ i (h : i < ps.length), qs.getD i 0 = (ps[i]).n := fun i h => by rw [hqs]; simp [h]
 rw [← hps] at ih hs ⊢
 rw [← hNe] at hN ⊢
 rw [← hYe] at hY ⊢
 rw [← hV]
 obtain ⟨l, hl⟩ : ∃ l, ps.length = l := ⟨_, rfl⟩
 have hlc : l ≤ 9223372036854775807 := by rw [← hl]; exact Nat.le_trans hs.1 hs.2.1
 rw [hl] at hql ⊢
 have HIH := Lib.hid ih; have HS := Lib.hid hs; have HL := Lib.hid hl; have HLC := Lib.hid hlc; have HN := Lib.hid hN; have HY := Lib.hid hY
 have HPS := Lib.hid hps; have HNE := Lib.hid hNe; have HYE := Lib.hid hYe; have HV := Lib.hid hV; have HQS := Lib.hid hqs; have HQL := Lib.hid hql; have HQG := Lib.hid hqg
 have HBI := Lib.hid (fun w => rbits_any N hN w)
 have HO := Lib.hid (fun w => rof1_any 1 (by decide) w)
 have hbs := bits_small2 hN
 clear ih hs hl hlc hN hY hps hNe hYe hV hqs hql hqg
 generalize Go.bitLen N = m at *
 go_enter Try.func33, Try.ntmps33
 have BW := Lib.hid (Below.refl w.heap.size w)
 have HBS := Lib.hid hbs; clear hbs
 go_upto_region 1 with fail
 generalize hW1 : (w.alloc (.cells #[.int .u64 (wd N 0 : Nat), .int .u64 (wd N 1 : Nat), .int .u64 (wd N 2 : Nat), .int .u64 (wd N 3 : Nat), .int .u64 (wd Y 0 : Nat), .int .u64 (wd Y 1 : Nat), .int .u64 (wd Y 2 : Nat), .int .u64 (wd Y 3 : Nat), .slice a l cap] 28)) = W1 at *
 have Nr : At W1 (w.heap.size) _ _ := at_of hW1 (At.at_ _ _ _ _ (by simp))
 have NB := gr_of hW1 (gr_alloc BW.out _)
 clear hW1 BW 
 obtain ⟨gr, hg0⟩ : ∃ g, g = w.heap.size := ⟨_, rfl⟩
 rw [← hg0] at Nr ⊢
 have Er : w.heap.size ≤ gr := by omega
 clear hg0
 have Fr := Lib.hid Nr
 have BW := Lib.hid NB
 clear NB Nr
 have Lr := Fr.out.lt
 have cr0 : W1.cell? ⟨gr, 0, none⟩ = some (.int .u64 (wd N 0 : Nat)) := Fr.out.cell 0
 have cr1 : W1.cell? ⟨gr, 1, none⟩ = some (.int .u64 (wd N 1 : Nat)) := Fr.out.cell 1
 have cr2 : W1.cell? ⟨gr, 2, none⟩ = some (.int .u64 (wd N 2 : Nat)) := Fr.out.cell 2
 have cr3 : W1.cell? ⟨gr, 3, none⟩ = some (.int .u64 (wd N 3 : Nat)) := Fr.out.cell 3
 have cr4 : W1.cell? ⟨gr, 4, none⟩ = some (.int .u64 (wd Y 0 : Nat)) := Fr.out.cell 4
 have cr5 : W1.cell? ⟨gr, 5, none⟩ = some (.int .u64 (wd Y 1 : Nat)) := Fr.out.cell 5
 have cr6 : W1.cell? ⟨gr, 6, none⟩ = some (.int .u64 (wd Y 2 : Nat)) := Fr.out.cell 6
 have cr7 : W1.cell? ⟨gr, 7, none⟩ = some (.int .u64 (wd Y 3 : Nat)) := Fr.out.cell 7
 have cr8 : W1.cell? ⟨gr, 8, none⟩ = some (.slice a l cap) := Fr.out.cell 8
 go_wp2_with fail
 clear Lr cr0 cr1 cr2 cr3 cr4 cr5 cr6 cr7 cr8
 refine (HBI.out _).mono ?_
 rintro e v2 ⟨rfl, z2⟩
 have Nr := Lib.hid (Fr.out.on z2)
 have NB := Lib.hid (bel_tr BW.out z2)
 clear BW z2 Fr
 have Fr := Nr
 have BW := NB
 clear NB Nr
 by_cases hsm : N < 4294967296
 ·have hm : (m : Int) ≤ 32 := HBS.out.mpr hsm
  have hvv : V = (Pr.priB N && (decide (Y = 0) && decide (l = 0))) := by rw [HV.out, ok_small_eq (by rw [← HNE.out]; exact hsm), ← HNE.out, ← HYE.out, ← HPS.out, HL.out]
  have hsa := rsmall_any (wd N 0) (wd_lt _ _)
  rw [wd_small (show N < 18446744073709551616 by omega), smallB_of hsm] at hsa
  obtain ⟨b, hb⟩ : ∃ b, b = Pr.priB N := ⟨_, rfl⟩
  rw [← hb] at hsa hvv
  have hsm2 : ∀ w, Calls Try.prog 11 #[.int .u64 (wd N 0 : Nat)] w fun e w' => e = .returned (.bool b) ∧ Below w.heap.size w w' := fun w => by rw [wd_small (show N < 18446744073709551616 by omega)]; exact hsa w
  have HVV := Lib.hid hvv; have HSM := Lib.hid hsm2
  clear hsm hvv hsa hsm2 hb HV HIH
  have Lr := Fr.out.lt
  have cr0 : v2.cell? ⟨gr, 0, none⟩ = some (.int .u64 (wd N 0 : Nat)) := Fr.out.cell 0
  have cr1 : v2.cell? ⟨gr, 1, none⟩ = some (.int .u64 (wd N 1 : Nat)) := Fr.out.cell 1
  have cr2 : v2.cell? ⟨gr, 2, none⟩ = some (.int .u64 (wd N 2 : Nat)) := Fr.out.cell 2
  have cr3 : v2.cell? ⟨gr, 3, none⟩ = some (.int .u64 (wd N 3 : Nat)) := Fr.out.cell 3
  have cr4 : v2.cell? ⟨gr, 4, none⟩ = some (.int .u64 (wd Y 0 : Nat)) := Fr.out.cell 4
  have cr5 : v2.cell? ⟨gr, 5, none⟩ = some (.int .u64 (wd Y 1 : Nat)) := Fr.out.cell 5
  have cr6 : v2.cell? ⟨gr, 6, none⟩ = some (.int .u64 (wd Y 2 : Nat)) := Fr.out.cell 6
  have cr7 : v2.cell? ⟨gr, 7, none⟩ = some (.int .u64 (wd Y 3 : Nat)) := Fr.out.cell 7
  have cr8 : v2.cell? ⟨gr, 8, none⟩ = some (.slice a l cap) := Fr.out.cell 8
  go_wp2_with fail
  clear Lr cr0 cr1 cr2 cr3 cr4 cr5 cr6 cr7 cr8
  clear hm
  refine (HSM.out _).mono ?_
  rintro e v3 ⟨rfl, z3⟩
  have Nr := Lib.hid (Fr.out.on z3)
  have NB := Lib.hid (bel_tr BW.out z3)
  clear BW z3 Fr
  have Fr := Nr
  have BW := NB
  clear NB Nr
  have eqz := eqZ Y HY.out
  cases b
  ·clear eqz
   have Lr := Fr.out.lt
   have cr0 : v3.cell? ⟨gr, 0, none⟩ = some (.int .u64 (wd N 0 : Nat)) := Fr.out.cell 0
   have cr1 : v3.cell? ⟨gr, 1, none⟩ = some (.int .u64 (wd N 1 : Nat)) := Fr.out.cell 1
   have cr2 : v3.cell? ⟨gr, 2, none⟩ = some (.int .u64 (wd N 2 : Nat)) := Fr.out.cell 2
   have cr3 : v3.cell? ⟨gr, 3, none⟩ = some (.int .u64 (wd N 3 : Nat)) := Fr.out.cell 3
   have cr4 : v3.cell? ⟨gr, 4, none⟩ = some (.int .u64 (wd Y 0 : Nat)) := Fr.out.cell 4
   have cr5 : v3.cell? ⟨gr, 5, none⟩ = some (.int .u64 (wd Y 1 : Nat)) := Fr.out.cell 5
   have cr6 : v3.cell? ⟨gr, 6, none⟩ = some (.int .u64 (wd Y 2 : Nat)) := Fr.out.cell 6
   have cr7 : v3.cell? ⟨gr, 7, none⟩ = some (.int .u64 (wd Y 3 : Nat)) := Fr.out.cell 7
   have cr8 : v3.cell? ⟨gr, 8, none⟩ = some (.slice a l cap) := Fr.out.cell 8
   go_wp2
   go_ret
   exact ⟨by rw [HVV.out]; rfl, BW.out⟩
  ·by_cases hy : Y = 0
   ·rw [decide_eq_true hy] at eqz
    have HYY := Lib.hid hy
    clear hy
    by_cases hl : (l : Int) = 0
    ·have HLL := Lib.hid (show l = 0 by omega)
     have Lr := Fr.out.lt
     have cr0 : v3.cell? ⟨gr, 0, none⟩ = some (.int .u64 (wd N 0 : Nat)) := Fr.out.cell 0
     have cr1 : v3.cell? ⟨gr, 1, none⟩ = some (.int .u64 (wd N 1 : Nat)) := Fr.out.cell 1
     have cr2 : v3.cell? ⟨gr, 2, none⟩ = some (.int .u64 (wd N 2 : Nat)) := Fr.out.cell 2
     have cr3 : v3.cell? ⟨gr, 3, none⟩ = some (.int .u64 (wd N 3 : Nat)) := Fr.out.cell 3
     have cr4 : v3.cell? ⟨gr, 4, none⟩ = some (.int .u64 (wd Y 0 : Nat)) := Fr.out.cell 4
     have cr5 : v3.cell? ⟨gr, 5, none⟩ = some (.int .u64 (wd Y 1 : Nat)) := Fr.out.cell 5
     have cr6 : v3.cell? ⟨gr, 6, none⟩ = some (.int .u64 (wd Y 2 : Nat)) := Fr.out.cell 6
     have cr7 : v3.cell? ⟨gr, 7, none⟩ = some (.int .u64 (wd Y 3 : Nat)) := Fr.out.cell 7
     have cr8 : v3.cell? ⟨gr, 8, none⟩ = some (.slice a l cap) := Fr.out.cell 8
     go_wp2
     go_ret
     exact ⟨by rw [HVV.out]; simp [HYY.out, HLL.out], BW.out⟩
    ·have HLL := Lib.hid (show ¬ l = 0 by omega)
     have Lr := Fr.out.lt
     have cr0 : v3.cell? ⟨gr, 0, none⟩ = some (.int .u64 (wd N 0 : Nat)) := Fr.out.cell 0
     have cr1 : v3.cell? ⟨gr, 1, none⟩ = some (.int .u64 (wd N 1 : Nat)) := Fr.out.cell 1
     have cr2 : v3.cell? ⟨gr, 2, none⟩ = some (.int .u64 (wd N 2 : Nat)) := Fr.out.cell 2
     have cr3 : v3.cell? ⟨gr, 3, none⟩ = some (.int .u64 (wd N 3 : Nat)) := Fr.out.cell 3
     have cr4 : v3.cell? ⟨gr, 4, none⟩ = some (.int .u64 (wd Y 0 : Nat)) := Fr.out.cell 4
     have cr5 : v3.cell? ⟨gr, 5, none⟩ = some (.int .u64 (wd Y 1 : Nat)) := Fr.out.cell 5
     have cr6 : v3.cell? ⟨gr, 6, none⟩ = some (.int .u64 (wd Y 2 : Nat)) := Fr.out.cell 6
     have cr7 : v3.cell? ⟨gr, 7, none⟩ = some (.int .u64 (wd Y 3 : Nat)) := Fr.out.cell 7
     have cr8 : v3.cell? ⟨gr, 8, none⟩ = some (.slice a l cap) := Fr.out.cell 8
     go_wp2
     go_ret
     exact ⟨by rw [HVV.out]; simp [HYY.out, HLL.out], BW.out⟩
   ·rw [decide_eq_false hy] at eqz
    have HYY := Lib.hid hy
    clear hy
    have Lr := Fr.out.lt
    have cr0 : v3.cell? ⟨gr, 0, none⟩ = some (.int .u64 (wd N 0 : Nat)) := Fr.out.cell 0
    have cr1 : v3.cell? ⟨gr, 1, none⟩ = some (.int .u64 (wd N 1 : Nat)) := Fr.out.cell 1
    have cr2 : v3.cell? ⟨gr, 2, none⟩ = some (.int .u64 (wd N 2 : Nat)) := Fr.out.cell 2
    have cr3 : v3.cell? ⟨gr, 3, none⟩ = some (.int .u64 (wd N 3 : Nat)) := Fr.out.cell 3
    have cr4 : v3.cell? ⟨gr, 4, none⟩ = some (.int .u64 (wd Y 0 : Nat)) := Fr.out.cell 4
    have cr5 : v3.cell? ⟨gr, 5, none⟩ = some (.int .u64 (wd Y 1 : Nat)) := Fr.out.cell 5
    have cr6 : v3.cell? ⟨gr, 6, none⟩ = some (.int .u64 (wd Y 2 : Nat)) := Fr.out.cell 6
    have cr7 : v3.cell? ⟨gr, 7, none⟩ = some (.int .u64 (wd Y 3 : Nat)) := Fr.out.cell 7
    have cr8 : v3.cell? ⟨gr, 8, none⟩ = some (.slice a l cap) := Fr.out.cell 8
    go_wp2
    go_ret
    exact ⟨by rw [HVV.out]; simp [HYY.out], BW.out⟩
 ·have hm : ¬ (m : Int) ≤ 32 := fun h => hsm (HBS.out.mp h)
  have HNG := Lib.hid (show ¬ r.n < 4294967296 by rw [← HNE.out]; exact hsm)
  have hN1 : 1 < N := by omega
  obtain ⟨M, hM⟩ : ∃ M, M = N - 1 := ⟨_, rfl⟩
  have CS := fun w => rsub_any N 1 M 0 HN.out (by decide) (by have := HN.out; omega) (by decide) (by omega) w
  have HCS := Lib.hid CS; have HM := Lib.hid hM; have HN1 := Lib.hid hN1
  have HM0 := Lib.hid (show 0 < M by omega)
  have HMB := Lib.hid (show M < 2 ^ 256 by have := HN.out; omega)
  clear hsm CS hM hN1
  go_upto_region 3 with fail
  clear hm
  go_wp2_with fail
  refine (HO.out _).mono ?_
  rintro e v3 ⟨rfl, z3⟩
  have Nr := Lib.hid (Fr.out.on z3)
  have NB := Lib.hid (bel_tr BW.out z3)
  clear BW z3 Fr
  have Fr := Nr
  have BW := NB
  clear NB Nr
  go_upto_region 4 with fail
  have Eo : w.heap.size ≤ v3.heap.size := by have := BW.out.size; omega
  have Dro : gr ≠ v3.heap.size := by have := Fr.out.lt; omega
  generalize hW4 : (v3.alloc (.cells #[.int .u64 (wd 1 0 : Nat), .int .u64 (wd 1 1 : Nat), .int .u64 (wd 1 2 : Nat), .int .u64 (wd 1 3 : Nat)] 25)) = W4 at *
  have No : At W4 (v3.heap.size) _ _ := at_of hW4 (At.at_ _ _ _ _ (by simp))
  have Nr := at_of hW4 (Fr.out.alloc _)
  have NB := gr_of hW4 (gr_alloc BW.out _)
  clear hW4 BW Fr
  generalize v3.heap.size = go at *
  have Fr := Lib.hid Nr
  have Fo := Lib.hid No
  have BW := Lib.hid NB
  clear NB Nr No
  have Lr := Fr.out.lt
  have cr0 : W4.cell? ⟨gr, 0, none⟩ = some (.int .u64 (wd N 0 : Nat)) := Fr.out.cell 0
  have cr1 : W4.cell? ⟨gr, 1, none⟩ = some (.int .u64 (wd N 1 : Nat)) := Fr.out.cell 1
  have cr2 : W4.cell? ⟨gr, 2, none⟩ = some (.int .u64 (wd N 2 : Nat)) := Fr.out.cell 2
  have cr3 : W4.cell? ⟨gr, 3, none⟩ = some (.int .u64 (wd N 3 : Nat)) := Fr.out.cell 3
  have cr4 : W4.cell? ⟨gr, 4, none⟩ = some (.int .u64 (wd Y 0 : Nat)) := Fr.out.cell 4
  have cr5 : W4.cell? ⟨gr, 5, none⟩ = some (.int .u64 (wd Y 1 : Nat)) := Fr.out.cell 5
  have cr6 : W4.cell? ⟨gr, 6, none⟩ = some (.int .u64 (wd Y 2 : Nat)) := Fr.out.cell 6
  have cr7 : W4.cell? ⟨gr, 7, none⟩ = some (.int .u64 (wd Y 3 : Nat)) := Fr.out.cell 7
  have cr8 : W4.cell? ⟨gr, 8, none⟩ = some (.slice a l cap) := Fr.out.cell 8
  have Lo := Fo.out.lt
  have co0 := Fo.out.c0
  have co1 := Fo.out.c1
  have co2 := Fo.out.c2
  have co3 := Fo.out.c3
  go_wp2_with fail
  clear Lr cr0 cr1 cr2 cr3 cr4 cr5 cr6 cr7 cr8 Lo co0 co1 co2 co3
  refine (HCS.out _).mono ?_
  rintro e v5 ⟨rfl, z5⟩
  have Nr := Lib.hid (Fr.out.on z5)
  have No := Lib.hid (Fo.out.on z5)
  have NB := Lib.hid (bel_tr BW.out z5)
  clear BW z5 Fr Fo
  have Fr := Nr
  have Fo := No
  have BW := NB
  clear NB Nr No
  have Lo := Fo.out.lt
  have co0 := Fo.out.c0
  have co1 := Fo.out.c1
  have co2 := Fo.out.c2
  have co3 := Fo.out.c3
  go_wp2_with fail
  clear Lo co0 co1 co2 co3
  have Em : w.heap.size ≤ v5.heap.size := by have := BW.out.size; omega
  have Drm : gr ≠ v5.heap.size := by have := Fr.out.lt; omega
  have Dom : go ≠ v5.heap.size := by have := Fo.out.lt; omega
  have Ef : w.heap.size ≤ v5.heap.size + 1 := by have := BW.out.size; omega
  have Drf : gr ≠ v5.heap.size + 1 := by have := Fr.out.lt; omega
  have Dof : go ≠ v5.heap.size + 1 := by have := Fo.out.lt; omega
  have Dmf : v5.heap.size ≠ v5.heap.size + 1 := by omega
  generalize hW6 : ((v5.alloc (.cells #[.int .u64 (wd M 0 : Nat), .int .u64 (wd M 1 : Nat), .int .u64 (wd M 2 : Nat), .int .u64 (wd M 3 : Nat)] 25)).alloc (.cells #[.int .u64 (wd 1 0 : Nat), .int .u64 (wd 1 1 : Nat), .int .u64 (wd 1 2 : Nat), .int .u64 (wd 1 3 : Nat)] 25)) = W6 at *
  have Nm : At W6 (v5.heap.size) _ _ := at_of hW6 ((At.at_ _ _ _ _ (by simp)).alloc _)
  have Nf : At W6 (v5.heap.size + 1) _ _ := at_of hW6 (At.at_ _ _ _ _ (by simp))
  have Nr := at_of hW6 ((Fr.out.alloc _).alloc _)
  have No := at_of hW6 ((Fo.out.alloc _).alloc _)
  have NB := gr_of hW6 (gr_alloc (gr_alloc BW.out _) _)
  clear hW6 BW Fr Fo
  generalize v5.heap.size + 1 = gf at *
  generalize v5.heap.size = gm at *
  have Fr := Lib.hid Nr
  have Fo := Lib.hid No
  have Fm := Lib.hid Nm
  have Ff := Lib.hid Nf
  have BW := Lib.hid NB
  clear NB Nr No Nm Nf
  go_loopw [7] (fun s wr => ∃ i X : Nat, i ≤ l ∧ s = .int .i64 (i : Nat) ∧ Hid (At wr gr 28 #[.int .u64 (wd N 0 : Nat), .int .u64 (wd N 1 : Nat), .int .u64 (wd N 2 : Nat), .int .u64 (wd N 3 : Nat), .int .u64 (wd Y 0 : Nat), .int .u64 (wd Y 1 : Nat), .int .u64 (wd Y 2 : Nat), .int .u64 (wd Y 3 : Nat), .slice a l cap] ∧ At wr go 25 #[.int .u64 (wd 1 0 : Nat), .int .u64 (wd 1 1 : Nat), .int .u64 (wd 1 2 : Nat), .int .u64 (wd 1 3 : Nat)] ∧ At wr gm 25 #[.int .u64 (wd M 0 : Nat), .int .u64 (wd M 1 : Nat), .int .u64 (wd M 2 : Nat), .int .u64 (wd M 3 : Nat)] ∧ At wr gf 25 #[.int .u64 (wd X 0 : Nat), .int .u64 (wd X 1 : Nat), .int .u64 (wd X 2 : Nat), .int .u64 (wd X 3 : Nat)] ∧ Below w.heap.size w wr ∧ (X = Pr.fprod M (qs.take i)) ∧ (Up qs i) ∧ (∀ j, j < i → qs.getD j 0 ∣ M) ∧ (∀ j (hj : j < ps.length), j < i → (ps[j]).ok = true))) (fun s _ => l - (intOf s).toNat)
  case atStart => exact ⟨0, 1, by omega, rfl, Fr.out, Fo.out, Fm.out, Ff.out, BW.out, rfl, fun k h => by omega, fun j h => absurd h (Nat.not_lt_zero _), fun j _ h => absurd h (Nat.not_lt_zero _)⟩
  case round =>
   obtain ⟨i, X, hi, rfl, hM⟩ := hrel
   clear BW Fr Fo Fm Ff
   have Fr := Lib.hid hM.out.1
   have Fo := Lib.hid hM.out.2.1
   have Fm := Lib.hid hM.out.2.2.1
   have Ff := Lib.hid hM.out.2.2.2.1
   have BW := Lib.hid hM.out.2.2.2.2.1
   have HX := Lib.hid hM.out.2.2.2.2.2.1
   have HU := Lib.hid hM.out.2.2.2.2.2.2.1
   have HD := Lib.hid hM.out.2.2.2.2.2.2.2.1
   have HJ := Lib.hid hM.out.2.2.2.2.2.2.2.2
   clear hM
   have hpf : ∀ q ∈ qs.take i, Pr.Pri q := fun q hq => by
    obtain ⟨j, hj, rfl⟩ := List.getElem_of_mem hq
    have h1 : j < i := by have := List.length_take_le i qs; omega
    have h2 : j < ps.length := by have := List.length_take_le' i qs; rw [HL.out, ← HQL.out]; omega
    have h3 := Pr.ok_pri _ (HJ.out j h2 h1)
    rw [← HQG.out j h2, ← getD_take qs i j h1, getD_get hj] at h3
    exact h3
   have hxd : X ∣ M := by rw [HX.out]; exact Pr.fprod_dvd (Pr.rises_nodup HU.out.take) hpf
   have HXM := Lib.hid (Nat.le_of_dvd HM0.out hxd); have HPF := Lib.hid hpf
   clear hxd hpf
   by_cases hlt : i < l
   ·have hlt2 : (i : Int) < (l : Int) := by omega
    have hil : i < ps.length := by rw [HL.out]; exact hlt
    obtain ⟨gs, os, a2, cap2, q, y2, l2, ha, hq1, hq2, hq3, hqb, hyb, hs2, hc9⟩ := HS.out.c9 hil
    obtain ⟨e0, e1, e2, e3, e4, e5, e6, e7, e8⟩ := hc9 _ BW.out
    obtain ⟨b, hb⟩ : ∃ b, b = (ps[i]).ok := ⟨_, rfl⟩
    have CP := fun (u : World) (hb : Below w.heap.size w u) => HIH.out (ps[i]) (List.getElem_mem hil) a2 cap2 u (by rw [hq1]; exact hqb) (by rw [hq2]; exact hyb) (hs2.on hb)
    rw [← hb, hq1, hq2, hq3] at CP
    have HPA := Lib.hid CP; have HC := Lib.hid hc9; have HLT := Lib.hid hlt; have HQB := Lib.hid hqb
    have HB := Lib.hid (show ∃ h : i < ps.length, b = (ps[i]).ok ∧ (ps[i]).n = q from ⟨hil, hb, hq1⟩)
    have hqq : qs.getD i 0 = q := by rw [HQG.out i hil, hq1]
    have HQQ := Lib.hid hqq
    have HIQ := Lib.hid (show i < qs.length by rw [HQL.out]; exact hlt)
    have HIW := Lib.hid (show (i : Int) + 1 ≤ 9223372036854775807 by have := HLC.out; omega)
    subst ha
    clear CP hc9 hqq hb hs2 hyb hqb hq3 hq2 hq1 hlt hil
    have Lr := Fr.out.lt
    have cr0 : wr.cell? ⟨gr, 0, none⟩ = some (.int .u64 (wd N 0 : Nat)) := Fr.out.cell 0
    have cr1 : wr.cell? ⟨gr, 1, none⟩ = some (.int .u64 (wd N 1 : Nat)) := Fr.out.cell 1
    have cr2 : wr.cell? ⟨gr, 2, none⟩ = some (.int .u64 (wd N 2 : Nat)) := Fr.out.cell 2
    have cr3 : wr.cell? ⟨gr, 3, none⟩ = some (.int .u64 (wd N 3 : Nat)) := Fr.out.cell 3
    have cr4 : wr.cell? ⟨gr, 4, none⟩ = some (.int .u64 (wd Y 0 : Nat)) := Fr.out.cell 4
    have cr5 : wr.cell? ⟨gr, 5, none⟩ = some (.int .u64 (wd Y 1 : Nat)) := Fr.out.cell 5
    have cr6 : wr.cell? ⟨gr, 6, none⟩ = some (.int .u64 (wd Y 2 : Nat)) := Fr.out.cell 6
    have cr7 : wr.cell? ⟨gr, 7, none⟩ = some (.int .u64 (wd Y 3 : Nat)) := Fr.out.cell 7
    have cr8 : wr.cell? ⟨gr, 8, none⟩ = some (.slice (some ⟨gs, os, none⟩) l cap) := Fr.out.cell 8
    go_upto_region 9 with fail
    clear Lr cr0 cr1 cr2 cr3 cr4 cr5 cr6 cr7 cr8
    have Lr := Fr.out.lt
    have cr0 : wr.cell? ⟨gr, 0, none⟩ = some (.int .u64 (wd N 0 : Nat)) := Fr.out.cell 0
    have cr1 : wr.cell? ⟨gr, 1, none⟩ = some (.int .u64 (wd N 1 : Nat)) := Fr.out.cell 1
    have cr2 : wr.cell? ⟨gr, 2, none⟩ = some (.int .u64 (wd N 2 : Nat)) := Fr.out.cell 2
    have cr3 : wr.cell? ⟨gr, 3, none⟩ = some (.int .u64 (wd N 3 : Nat)) := Fr.out.cell 3
    have cr4 : wr.cell? ⟨gr, 4, none⟩ = some (.int .u64 (wd Y 0 : Nat)) := Fr.out.cell 4
    have cr5 : wr.cell? ⟨gr, 5, none⟩ = some (.int .u64 (wd Y 1 : Nat)) := Fr.out.cell 5
    have cr6 : wr.cell? ⟨gr, 6, none⟩ = some (.int .u64 (wd Y 2 : Nat)) := Fr.out.cell 6
    have cr7 : wr.cell? ⟨gr, 7, none⟩ = some (.int .u64 (wd Y 3 : Nat)) := Fr.out.cell 7
    have cr8 : wr.cell? ⟨gr, 8, none⟩ = some (.slice (some ⟨gs, os, none⟩) l cap) := Fr.out.cell 8
    go_upto_region 10 with fail
    clear Lr cr0 cr1 cr2 cr3 cr4 cr5 cr6 cr7 cr8
    clear e0 e1 e2 e3 e4 e5 e6 e7 e8 hlt2
    have Eq : w.heap.size ≤ wr.heap.size := by have := BW.out.size; omega
    have Drq : gr ≠ wr.heap.size := by have := Fr.out.lt; omega
    have Doq : go ≠ wr.heap.size := by have := Fo.out.lt; omega
    have Dmq : gm ≠ wr.heap.size := by have := Fm.out.lt; omega
    have Dfq : gf ≠ wr.heap.size := by have := Ff.out.lt; omega
    generalize hW7 : (wr.alloc (.cells #[.int .u64 (wd q 0 : Nat), .int .u64 (wd q 1 : Nat), .int .u64 (wd q 2 : Nat), .int .u64 (wd q 3 : Nat)] 25)) = W7 at *
    have Nq : At W7 (wr.heap.size) _ _ := at_of hW7 (At.at_ _ _ _ _ (by simp))
    have Nr := at_of hW7 (Fr.out.alloc _)
    have No := at_of hW7 (Fo.out.alloc _)
    have Nm := at_of hW7 (Fm.out.alloc _)
    have Nf := at_of hW7 (Ff.out.alloc _)
    have NB := gr_of hW7 (gr_alloc BW.out _)
    clear hW7 BW Fr Fo Fm Ff
    generalize wr.heap.size = gq at *
    have Fr := Lib.hid Nr
    have Fo := Lib.hid No
    have Fm := Lib.hid Nm
    have Ff := Lib.hid Nf
    have Fq := Lib.hid Nq
    have BW := Lib.hid NB
    clear NB Nr No Nm Nf Nq
    rcases Nat.eq_zero_or_pos i with hi0 | hi0
    ·have HI0 := Lib.hid (show i = 0 from hi0)
     clear hi0
     cases b
     ·try simp only [List.append_eq, List.cons_append, List.nil_append]
      refine wp_region_noPanic ?_
      refine wp_region_held_drew (S := fun w' => Below w.heap.size w w' ∧ At w' gr 28 #[.int .u64 (wd N 0 : Nat), .int .u64 (wd N 1 : Nat), .int .u64 (wd N 2 : Nat), .int .u64 (wd N 3 : Nat), .int .u64 (wd Y 0 : Nat), .int .u64 (wd Y 1 : Nat), .int .u64 (wd Y 2 : Nat), .int .u64 (wd Y 3 : Nat), .slice (some ⟨gs, os, none⟩) l cap] ∧ At w' gq 25 #[.int .u64 (wd q 0 : Nat), .int .u64 (wd q 1 : Nat), .int .u64 (wd q 2 : Nat), .int .u64 (wd q 3 : Nat)]) (by kernel_rfl) (⟨BW.out.drew, Fr.out.drew, Fq.out.drew⟩) (fun _ => ?_)
      refine wpAnyH_cores (fuel := 0) (⟨0, 64, [], Kind.val (.int .i64 (i : Nat)), true⟩ :: ⟨1, 65, [0], Kind.val (.bool false), true⟩ :: ⟨2, 66, [1], Kind.val (.bool false), true⟩ :: ⟨3, 67, [2], Kind.val (undef), true⟩ :: ⟨4, 68, [2, 3], Kind.val (undef), true⟩ :: ⟨5, 69, [2, 4], Kind.val (undef), true⟩ :: ⟨6, 70, [2, 5], Kind.val (undef), true⟩ :: ⟨7, 71, [2, 4, 6], Kind.val (undef), true⟩ :: ⟨8, 72, [2, 7], Kind.val (undef), true⟩ :: ⟨9, 73, [2, 8], Kind.val (undef), true⟩ :: ⟨10, 74, [2, 9], Kind.val (undef), true⟩ :: ⟨11, 75, [2, 9, 10], Kind.val (undef), true⟩ :: ⟨12, 76, [2, 11], Kind.val (undef), true⟩ :: ⟨13, 77, [2, 12], Kind.val (.bool false), true⟩ :: ⟨14, 78, [13], Kind.val (.bool false), true⟩ :: ⟨15, 79, [14], Kind.val (.pointer (some ⟨gr, 8, none⟩)), true⟩ :: ⟨16, 80, [14, 15], Kind.val (.slice (some ⟨gs, os, none⟩) l cap), true⟩ :: ⟨17, 81, [14, 16], Kind.val (.int .i64 (i : Nat)), true⟩ :: ⟨18, 82, [14, 16, 17], Kind.val (.pointer (some ⟨gs, os + i * 9, none⟩)), true⟩ :: ⟨19, 83, [14, 18], Kind.val (.agg #[.int .u64 (wd q 0 : Nat), .int .u64 (wd q 1 : Nat), .int .u64 (wd q 2 : Nat), .int .u64 (wd q 3 : Nat), .int .u64 (wd y2 0 : Nat), .int .u64 (wd y2 1 : Nat), .int .u64 (wd y2 2 : Nat), .int .u64 (wd y2 3 : Nat), .slice a2 l2 cap2]), true⟩ :: ⟨20, 84, [14, 19], Kind.val (.bool false), false⟩ :: ⟨21, 85, [14, 20], Kind.val (.bool true), true⟩ :: ⟨22, 86, [14, 21], Kind.val (.bool true), true⟩ :: []) _ _ W7 _ ?_ ?_ ?_ ?_ ?_ ?_ ?_ ?_ ?_ ?_ ?_
      ·rfl
      ·kernel_rfl
      ·exact of_decide_eq_true (by kernel_rfl)
      ·(repeat refine all_cons ⟨_, by rfl, by rfl⟩ ?_); exact all_nil
      ·exact fun _ hb => ⟨bel_tr BW.out hb, Fr.out.on hb, Fq.out.on hb⟩
      ·exact (Below.refl _ _).drew
      ·kernel_rfl
      ·exact fun _ _ _ _ _ h => h
      ·(repeat (refine all_cons ?_ ?_; rotate_left)); exact all_nil
       ·exact coreG_move _ _ _ _ _ _ _ (by rfl) (by rfl) (wants_none) (ko 7)
       ·exact coreG_bin _ _ _ _ _ _ _ _ _ _ _ _ _ (by rfl) (by rfl) (wants_none) (kc 0 64) (known_const _) ((fun ρ w hx hy => by simp only [execOp, hx, hy]; simp [go_sem, HI0.out]))
       ·exact coreG_move _ _ _ _ _ _ _ (by rfl) (by rfl) (wants_none) (kc 1 65)
       ·exact coreG_skip _ _ _ _ _ _ (by rfl) (by rfl) (wc 2 66 2 (kc 2 66))
       ·exact coreG_skip _ _ _ _ _ _ (by rfl) (by rfl) (wc 2 66 2 (kc 2 66))
       ·exact coreG_skip _ _ _ _ _ _ (by rfl) (by rfl) (wc 2 66 2 (kc 2 66))
       ·exact coreG_skip _ _ _ _ _ _ (by rfl) (by rfl) (wc 2 66 2 (kc 2 66))
       ·exact coreG_skip _ _ _ _ _ _ (by rfl) (by rfl) (wc 2 66 2 (kc 2 66))
       ·exact coreG_skip _ _ _ _ _ _ (by rfl) (by rfl) (wc 2 66 2 (kc 2 66))
       ·exact coreG_skip _ _ _ _ _ _ (by rfl) (by rfl) (wc 2 66 2 (kc 2 66))
       ·exact coreG_skip _ _ _ _ _ _ (by rfl) (by rfl) (wc 2 66 2 (kc 2 66))
       ·exact coreG_skip _ _ _ _ _ _ (by rfl) (by rfl) (wc 2 66 2 (kc 2 66))
       ·exact coreG_skip _ _ _ _ _ _ (by rfl) (by rfl) (wc 2 66 2 (kc 2 66))
       ·exact coreG_pick _ _ _ _ _ _ _ _ _ _ _ _ (by rfl) (by rfl) (wants_none) (kc 2 66) (kc 12 76) (known_const _) (by rfl)
       ·exact coreG_move _ _ _ _ _ _ _ (by rfl) (by rfl) (wants_none) (kc 13 77)
       ·exact coreG_held _ _ _ _ _ _ _ _ _ (by rfl) (by rfl) (wc 14 78 14 (kc 14 78)) (ko 1) (fun ρ w hx _ => fieldR2 _ _ _ _ _ _ ρ w gr hx)
       ·exact coreG_held _ _ _ _ _ _ _ _ _ (by rfl) (by rfl) (wc 14 78 14 (kc 14 78)) (kc 15 79) (fun ρ w hx hs => loadR2 _ _ _ _ _ _ ρ w gr _ _ _ _ _ _ _ _ _ hx (hs.2.1))
       ·exact coreG_move _ _ _ _ _ _ _ (by rfl) (by rfl) (wc 14 78 14 (kc 14 78)) (ko 7)
       ·exact coreG_held2 _ _ _ _ _ _ _ _ _ _ _ (by rfl) (by rfl) (wc 14 78 14 (kc 14 78)) (kc 16 80) (kc 17 81) (fun ρ w hx hy _ => idxR _ _ _ _ _ _ _ ρ w gs os i l cap HLT.out hx hy)
       ·exact coreG_held _ _ _ _ _ _ _ _ _ (by rfl) (by rfl) (wc 14 78 14 (kc 14 78)) (kc 18 82) (fun ρ w hx hs => loadC _ _ _ _ _ _ ρ w gs _ q y2 _ hx (HC.out _ hs.1))
       ·exact core_pureAs _ (by rfl)
       ·exact coreG_un _ _ _ _ _ _ _ _ _ _ (by rfl) (by rfl) (wc 14 78 14 (kc 14 78)) (kc 20 84) (fun ρ w hx => by simp only [execOp, hx]; simp [go_sem])
       ·exact coreG_pick _ _ _ _ _ _ _ _ _ _ _ _ (by rfl) (by rfl) (wants_none) (kc 14 78) (known_const _) (kc 21 85) (by rfl)
      ·(repeat (refine all_cons ?_ ?_; rotate_left)); exact all_nil
       ·exact sA
       ·exact sA
       ·exact sA
       ·exact sA
       ·exact sA
       ·exact sA
       ·exact sA
       ·exact sA
       ·exact sA
       ·exact sA
       ·exact sA
       ·exact sA
       ·exact sA
       ·exact sA
       ·exact sA
       ·exact sA
       ·exact sA
       ·exact sA
       ·exact sA
       ·exact sA
       ·exact fun _ => coreG_callB _ 33 _ _ [.tmp 83] _ _ _ _ _ _ _ (by rfl) Try.func33 (by kernel_rfl) (by rfl) (by rfl) (wc 14 78 14 (kc 14 78)) (.cons (kc 19 83) .nil) ((fun u hb => HPA.out u (bel_tr BW.out hb)))
       ·exact sA
       ·exact sA
      intro vs y8 hc
      obtain ⟨vv0, vv1, vv2, vv3, vv4, vv5, vv6, vv7, vv8, vv9, vv10, vv11, vv12, vv13, vv14, vv15, vv16, vv17, vv18, vv19, vv20, vv21, vv22, rfl⟩ := len23 vs hc.lv
      have qq0 := okv hc 0
      have qq1 := okv hc 1
      have qq2 := okv hc 2
      have qq3 := okv hc 3
      have qq4 := okv hc 4
      have qq5 := okv hc 5
      have qq6 := okv hc 6
      have qq7 := okv hc 7
      have qq8 := okv hc 8
      have qq9 := okv hc 9
      have qq10 := okv hc 10
      have qq11 := okv hc 11
      have qq12 := okv hc 12
      have qq13 := okv hc 13
      have qq14 := okv hc 14
      have qq15 := okv hc 15
      have qq16 := okv hc 16
      have qq17 := okv hc 17
      have qq18 := okv hc 18
      have qq19 := okv hc 19
      have qq20 := okv hc 20
      have qq21 := okv hc 21
      have qq22 := okv hc 22
      have BZ := hc.bel
      clear hc
      have Nr := Fr.out.on BZ
      have No := Fo.out.on BZ
      have Nm := Fm.out.on BZ
      have Nf := Ff.out.on BZ
      have Nq := Fq.out.on BZ
      have NB := bel_tr BW.out BZ
      clear BW BZ Fr Fo Fm Ff Fq
      subst qq0 qq1 qq2 qq3 qq4 qq5 qq6 qq7 qq8 qq9 qq10 qq11 qq12 qq13 qq14 qq15 qq16 qq17 qq18 qq19 qq20 qq21 qq22
      simp only [List.map_cons, List.map_nil, over, Act.put, List.setIfInBounds_toArray, List.set_cons_zero, List.set_cons_succ]
      refine wpAnyH_done (by kernel_rfl) ?_ _
      refine NoPanic.normal ?_
      have Fr := Lib.hid Nr
      have Fo := Lib.hid No
      have Fm := Lib.hid Nm
      have Ff := Lib.hid Nf
      have Fq := Lib.hid Nq
      have BW := Lib.hid NB
      clear NB Nr No Nm Nf Nq
      have HV3 := Lib.hid (show V = false by obtain ⟨h, hb, _⟩ := HB.out; rw [HV.out]; exact Ck.ok_part (p := ps[i]) (by rw [← HPS.out]; exact List.getElem_mem h) hb.symm)
      go_wp2
      go_ret
      exact ⟨by rw [HV3.out]; rfl, BW.out⟩
     ·try simp only [List.append_eq, List.cons_append, List.nil_append]
      refine wp_region_noPanic ?_
      refine wp_region_held_drew (S := fun w' => Below w.heap.size w w' ∧ At w' gr 28 #[.int .u64 (wd N 0 : Nat), .int .u64 (wd N 1 : Nat), .int .u64 (wd N 2 : Nat), .int .u64 (wd N 3 : Nat), .int .u64 (wd Y 0 : Nat), .int .u64 (wd Y 1 : Nat), .int .u64 (wd Y 2 : Nat), .int .u64 (wd Y 3 : Nat), .slice (some ⟨gs, os, none⟩) l cap] ∧ At w' gq 25 #[.int .u64 (wd q 0 : Nat), .int .u64 (wd q 1 : Nat), .int .u64 (wd q 2 : Nat), .int .u64 (wd q 3 : Nat)]) (by kernel_rfl) (⟨BW.out.drew, Fr.out.drew, Fq.out.drew⟩) (fun _ => ?_)
      refine wpAnyH_cores (fuel := 0) (⟨0, 64, [], Kind.val (.int .i64 (i : Nat)), true⟩ :: ⟨1, 65, [0], Kind.val (.bool false), true⟩ :: ⟨2, 66, [1], Kind.val (.bool false), true⟩ :: ⟨3, 67, [2], Kind.val (undef), true⟩ :: ⟨4, 68, [2, 3], Kind.val (undef), true⟩ :: ⟨5, 69, [2, 4], Kind.val (undef), true⟩ :: ⟨6, 70, [2, 5], Kind.val (undef), true⟩ :: ⟨7, 71, [2, 4, 6], Kind.val (undef), true⟩ :: ⟨8, 72, [2, 7], Kind.val (undef), true⟩ :: ⟨9, 73, [2, 8], Kind.val (undef), true⟩ :: ⟨10, 74, [2, 9], Kind.val (undef), true⟩ :: ⟨11, 75, [2, 9, 10], Kind.val (undef), true⟩ :: ⟨12, 76, [2, 11], Kind.val (undef), true⟩ :: ⟨13, 77, [2, 12], Kind.val (.bool false), true⟩ :: ⟨14, 78, [13], Kind.val (.bool false), true⟩ :: ⟨15, 79, [14], Kind.val (.pointer (some ⟨gr, 8, none⟩)), true⟩ :: ⟨16, 80, [14, 15], Kind.val (.slice (some ⟨gs, os, none⟩) l cap), true⟩ :: ⟨17, 81, [14, 16], Kind.val (.int .i64 (i : Nat)), true⟩ :: ⟨18, 82, [14, 16, 17], Kind.val (.pointer (some ⟨gs, os + i * 9, none⟩)), true⟩ :: ⟨19, 83, [14, 18], Kind.val (.agg #[.int .u64 (wd q 0 : Nat), .int .u64 (wd q 1 : Nat), .int .u64 (wd q 2 : Nat), .int .u64 (wd q 3 : Nat), .int .u64 (wd y2 0 : Nat), .int .u64 (wd y2 1 : Nat), .int .u64 (wd y2 2 : Nat), .int .u64 (wd y2 3 : Nat), .slice a2 l2 cap2]), true⟩ :: ⟨20, 84, [14, 19], Kind.val (.bool true), false⟩ :: ⟨21, 85, [14, 20], Kind.val (.bool false), true⟩ :: ⟨22, 86, [14, 21], Kind.val (.bool false), true⟩ :: []) _ _ W7 _ ?_ ?_ ?_ ?_ ?_ ?_ ?_ ?_ ?_ ?_ ?_
      ·rfl
      ·kernel_rfl
      ·exact of_decide_eq_true (by kernel_rfl)
      ·(repeat refine all_cons ⟨_, by rfl, by rfl⟩ ?_); exact all_nil
      ·exact fun _ hb => ⟨bel_tr BW.out hb, Fr.out.on hb, Fq.out.on hb⟩
      ·exact (Below.refl _ _).drew
      ·kernel_rfl
      ·exact fun _ _ _ _ _ h => h
      ·(repeat (refine all_cons ?_ ?_; rotate_left)); exact all_nil
       ·exact coreG_move _ _ _ _ _ _ _ (by rfl) (by rfl) (wants_none) (ko 7)
       ·exact coreG_bin _ _ _ _ _ _ _ _ _ _ _ _ _ (by rfl) (by rfl) (wants_none) (kc 0 64) (known_const _) ((fun ρ w hx hy => by simp only [execOp, hx, hy]; simp [go_sem, HI0.out]))
       ·exact coreG_move _ _ _ _ _ _ _ (by rfl) (by rfl) (wants_none) (kc 1 65)
       ·exact coreG_skip _ _ _ _ _ _ (by rfl) (by rfl) (wc 2 66 2 (kc 2 66))
       ·exact coreG_skip _ _ _ _ _ _ (by rfl) (by rfl) (wc 2 66 2 (kc 2 66))
       ·exact coreG_skip _ _ _ _ _ _ (by rfl) (by rfl) (wc 2 66 2 (kc 2 66))
       ·exact coreG_skip _ _ _ _ _ _ (by rfl) (by rfl) (wc 2 66 2 (kc 2 66))
       ·exact coreG_skip _ _ _ _ _ _ (by rfl) (by rfl) (wc 2 66 2 (kc 2 66))
       ·exact coreG_skip _ _ _ _ _ _ (by rfl) (by rfl) (wc 2 66 2 (kc 2 66))
       ·exact coreG_skip _ _ _ _ _ _ (by rfl) (by rfl) (wc 2 66 2 (kc 2 66))
       ·exact coreG_skip _ _ _ _ _ _ (by rfl) (by rfl) (wc 2 66 2 (kc 2 66))
       ·exact coreG_skip _ _ _ _ _ _ (by rfl) (by rfl) (wc 2 66 2 (kc 2 66))
       ·exact coreG_skip _ _ _ _ _ _ (by rfl) (by rfl) (wc 2 66 2 (kc 2 66))
       ·exact coreG_pick _ _ _ _ _ _ _ _ _ _ _ _ (by rfl) (by rfl) (wants_none) (kc 2 66) (kc 12 76) (known_const _) (by rfl)
       ·exact coreG_move _ _ _ _ _ _ _ (by rfl) (by rfl) (wants_none) (kc 13 77)
       ·exact coreG_held _ _ _ _ _ _ _ _ _ (by rfl) (by rfl) (wc 14 78 14 (kc 14 78)) (ko 1) (fun ρ w hx _ => fieldR2 _ _ _ _ _ _ ρ w gr hx)
       ·exact coreG_held _ _ _ _ _ _ _ _ _ (by rfl) (by rfl) (wc 14 78 14 (kc 14 78)) (kc 15 79) (fun ρ w hx hs => loadR2 _ _ _ _ _ _ ρ w gr _ _ _ _ _ _ _ _ _ hx (hs.2.1))
       ·exact coreG_move _ _ _ _ _ _ _ (by rfl) (by rfl) (wc 14 78 14 (kc 14 78)) (ko 7)
       ·exact coreG_held2 _ _ _ _ _ _ _ _ _ _ _ (by rfl) (by rfl) (wc 14 78 14 (kc 14 78)) (kc 16 80) (kc 17 81) (fun ρ w hx hy _ => idxR _ _ _ _ _ _ _ ρ w gs os i l cap HLT.out hx hy)
       ·exact coreG_held _ _ _ _ _ _ _ _ _ (by rfl) (by rfl) (wc 14 78 14 (kc 14 78)) (kc 18 82) (fun ρ w hx hs => loadC _ _ _ _ _ _ ρ w gs _ q y2 _ hx (HC.out _ hs.1))
       ·exact core_pureAs _ (by rfl)
       ·exact coreG_un _ _ _ _ _ _ _ _ _ _ (by rfl) (by rfl) (wc 14 78 14 (kc 14 78)) (kc 20 84) (fun ρ w hx => by simp only [execOp, hx]; simp [go_sem])
       ·exact coreG_pick _ _ _ _ _ _ _ _ _ _ _ _ (by rfl) (by rfl) (wants_none) (kc 14 78) (known_const _) (kc 21 85) (by rfl)
      ·(repeat (refine all_cons ?_ ?_; rotate_left)); exact all_nil
       ·exact sA
       ·exact sA
       ·exact sA
       ·exact sA
       ·exact sA
       ·exact sA
       ·exact sA
       ·exact sA
       ·exact sA
       ·exact sA
       ·exact sA
       ·exact sA
       ·exact sA
       ·exact sA
       ·exact sA
       ·exact sA
       ·exact sA
       ·exact sA
       ·exact sA
       ·exact sA
       ·exact fun _ => coreG_callB _ 33 _ _ [.tmp 83] _ _ _ _ _ _ _ (by rfl) Try.func33 (by kernel_rfl) (by rfl) (by rfl) (wc 14 78 14 (kc 14 78)) (.cons (kc 19 83) .nil) ((fun u hb => HPA.out u (bel_tr BW.out hb)))
       ·exact sA
       ·exact sA
      intro vs y8 hc
      obtain ⟨vv0, vv1, vv2, vv3, vv4, vv5, vv6, vv7, vv8, vv9, vv10, vv11, vv12, vv13, vv14, vv15, vv16, vv17, vv18, vv19, vv20, vv21, vv22, rfl⟩ := len23 vs hc.lv
      have qq0 := okv hc 0
      have qq1 := okv hc 1
      have qq2 := okv hc 2
      have qq3 := okv hc 3
      have qq4 := okv hc 4
      have qq5 := okv hc 5
      have qq6 := okv hc 6
      have qq7 := okv hc 7
      have qq8 := okv hc 8
      have qq9 := okv hc 9
      have qq10 := okv hc 10
      have qq11 := okv hc 11
      have qq12 := okv hc 12
      have qq13 := okv hc 13
      have qq14 := okv hc 14
      have qq15 := okv hc 15
      have qq16 := okv hc 16
      have qq17 := okv hc 17
      have qq18 := okv hc 18
      have qq19 := okv hc 19
      have qq20 := okv hc 20
      have qq21 := okv hc 21
      have qq22 := okv hc 22
      have BZ := hc.bel
      clear hc
      have Nr := Fr.out.on BZ
      have No := Fo.out.on BZ
      have Nm := Fm.out.on BZ
      have Nf := Ff.out.on BZ
      have Nq := Fq.out.on BZ
      have NB := bel_tr BW.out BZ
      clear BW BZ Fr Fo Fm Ff Fq
      subst qq0 qq1 qq2 qq3 qq4 qq5 qq6 qq7 qq8 qq9 qq10 qq11 qq12 qq13 qq14 qq15 qq16 qq17 qq18 qq19 qq20 qq21 qq22
      simp only [List.map_cons, List.map_nil, over, Act.put, List.setIfInBounds_toArray, List.set_cons_zero, List.set_cons_succ]
      refine wpAnyH_done (by kernel_rfl) ?_ _
      refine NoPanic.normal ?_
      have Fr := Lib.hid Nr
      have Fo := Lib.hid No
      have Fm := Lib.hid Nm
      have Ff := Lib.hid Nf
      have Fq := Lib.hid Nq
      have BW := Lib.hid NB
      clear NB Nr No Nm Nf Nq
      have hpq : Pr.Pri q := by obtain ⟨h, hb, h1⟩ := HB.out; have := Pr.ok_pri _ hb.symm; rw [h1] at this; exact this
      have hup : Up qs (i + 1) := HU.out.more HQQ.out (by unfold lastQ; rw [if_pos HI0.out]; have h2 := hpq.1; omega)
      have CD := fun w => rdiv_any M q HMB.out HQB.out (by have := hpq.1; omega) w
      obtain ⟨D, hD⟩ : ∃ D, D = M / q := ⟨_, rfl⟩
      obtain ⟨u, hu⟩ : ∃ u, u = M % q := ⟨_, rfl⟩
      rw [← hD, ← hu] at CD
      have HCD := Lib.hid CD; have HUU := Lib.hid hu; have HUP := Lib.hid hup; have HPQ := Lib.hid hpq
      have EQU := Lib.hid (eqZ u (by rw [hu]; exact Nat.lt_trans (Nat.mod_lt _ (by have := hpq.1; omega)) HQB.out))
      clear CD hD hu hup hpq
      go_upto_region 12 with fail
      have Lm := Fm.out.lt
      have cm0 := Fm.out.c0
      have cm1 := Fm.out.c1
      have cm2 := Fm.out.c2
      have cm3 := Fm.out.c3
      have Lq := Fq.out.lt
      have cq0 := Fq.out.c0
      have cq1 := Fq.out.c1
      have cq2 := Fq.out.c2
      have cq3 := Fq.out.c3
      go_wp2_with fail
      clear Lm cm0 cm1 cm2 cm3 Lq cq0 cq1 cq2 cq3
      refine (HCD.out _).mono ?_
      rintro e v9 ⟨rfl, z9⟩
      have Nr := Lib.hid (Fr.out.on z9)
      have No := Lib.hid (Fo.out.on z9)
      have Nm := Lib.hid (Fm.out.on z9)
      have Nf := Lib.hid (Ff.out.on z9)
      have Nq := Lib.hid (Fq.out.on z9)
      have NB := Lib.hid (bel_tr BW.out z9)
      clear BW z9 Fr Fo Fm Ff Fq
      have Fr := Nr
      have Fo := No
      have Fm := Nm
      have Ff := Nf
      have Fq := Nq
      have BW := NB
      clear NB Nr No Nm Nf Nq
      go_upto_region 13 with fail
      have Drd : gr ≠ v9.heap.size := by have := Fr.out.lt; omega
      have Dod : go ≠ v9.heap.size := by have := Fo.out.lt; omega
      have Dmd : gm ≠ v9.heap.size := by have := Fm.out.lt; omega
      have Dfd : gf ≠ v9.heap.size := by have := Ff.out.lt; omega
      have Dqd : gq ≠ v9.heap.size := by have := Fq.out.lt; omega
      have Dru : gr ≠ v9.heap.size + 1 := by have := Fr.out.lt; omega
      have Dou : go ≠ v9.heap.size + 1 := by have := Fo.out.lt; omega
      have Dmu : gm ≠ v9.heap.size + 1 := by have := Fm.out.lt; omega
      have Dfu : gf ≠ v9.heap.size + 1 := by have := Ff.out.lt; omega
      have Dqu : gq ≠ v9.heap.size + 1 := by have := Fq.out.lt; omega
      generalize hW10 : ((v9.alloc (.cells #[.int .u64 (wd D 0 : Nat), .int .u64 (wd D 1 : Nat), .int .u64 (wd D 2 : Nat), .int .u64 (wd D 3 : Nat)] 25)).alloc (.cells #[.int .u64 (wd u 0 : Nat), .int .u64 (wd u 1 : Nat), .int .u64 (wd u 2 : Nat), .int .u64 (wd u 3 : Nat)] 25)) = W10 at *
      have Nd : At W10 (v9.heap.size) _ _ := at_of hW10 ((At.at_ _ _ _ _ (by simp)).alloc _)
      have Nu : At W10 (v9.heap.size + 1) _ _ := at_of hW10 (At.at_ _ _ _ _ (by simp))
      have Nr := at_of hW10 ((Fr.out.alloc _).alloc _)
      have No := at_of hW10 ((Fo.out.alloc _).alloc _)
      have Nm := at_of hW10 ((Fm.out.alloc _).alloc _)
      have Nf := at_of hW10 ((Ff.out.alloc _).alloc _)
      have Nq := at_of hW10 ((Fq.out.alloc _).alloc _)
      have NB := gr_of hW10 (gr_alloc (gr_alloc BW.out _) _)
      clear hW10 BW Fr Fo Fm Ff Fq
      generalize v9.heap.size + 1 = gu at *
      generalize v9.heap.size = gd at *
      have Fr := Lib.hid Nr
      have Fo := Lib.hid No
      have Fm := Lib.hid Nm
      have Ff := Lib.hid Nf
      have Fq := Lib.hid Nq
      have Fd := Lib.hid Nd
      have Fu := Lib.hid Nu
      have BW := Lib.hid NB
      clear NB Nr No Nm Nf Nq Nd Nu
      have equ := EQU.out
      by_cases hz : u = 0
      ·rw [decide_eq_true hz] at equ
       have hqd : q ∣ M := Nat.dvd_of_mod_eq_zero (by rw [← HUU.out]; exact hz)
       obtain ⟨G, hG⟩ : ∃ G, G = Pr.gp q M := ⟨_, rfl⟩
       have CP2 := rpow_any M q HM0.out HMB.out HPQ.out.1 HQB.out
       rw [← hG] at CP2
       have hfx : X * G = Pr.fprod M (qs.take (i + 1)) := by rw [take_one _ _ HIQ.out, fprod_snoc, HQQ.out, ← hG, ← HX.out]
       have hpf2 : ∀ q2 ∈ qs.take (i + 1), Pr.Pri q2 := fun q2 h2 => by
        rw [take_one _ _ HIQ.out, List.mem_append] at h2
        rcases h2 with h2 | h2
        ·exact HPF.out q2 h2
        ·rw [List.mem_singleton, HQQ.out] at h2; rw [h2]; exact HPQ.out
       have hle : X * G ≤ M := by rw [hfx]; exact Nat.le_of_dvd HM0.out (Pr.fprod_dvd (Pr.rises_nodup HUP.out.take) hpf2)
       have hGM : G ≤ M := by rw [hG]; exact Nat.le_of_dvd HM0.out (Pr.gp_dvd q M)
       have hmb := HMB.out
       have CM := rmul_any X G (X * G) 0 (Nat.lt_of_le_of_lt HXM.out hmb) (Nat.lt_of_le_of_lt hGM hmb) (Nat.lt_of_le_of_lt hle hmb) (by decide) (by omega)
       obtain ⟨Lo, hLo⟩ : ∃ Lo, Lo = X * G := ⟨_, rfl⟩
       rw [← hLo] at CM hfx
       have HCM := Lib.hid CM; have HCP2 := Lib.hid CP2; have HFX := Lib.hid hfx; have HQD := Lib.hid hqd
       clear hz hqd hG CP2 hfx hpf2 hle hGM hmb CM hLo
       have Lu := Fu.out.lt
       have cu0 := Fu.out.c0
       have cu1 := Fu.out.c1
       have cu2 := Fu.out.c2
       have cu3 := Fu.out.c3
       go_upto_region 15 with fail
       clear Lu cu0 cu1 cu2 cu3
       clear equ
       try simp only [List.append_eq, List.cons_append, List.nil_append]
       refine wp_region_noPanic ?_
       refine wp_region_held_drew (S := fun w' => True) (by kernel_rfl) (trivial) (fun _ => ?_)
       refine wpAnyH_cores (fuel := 1) (⟨0, 98, [], Kind.val (.agg #[.int .u64 (wd X 0 : Nat), .int .u64 (wd X 1 : Nat), .int .u64 (wd X 2 : Nat), .int .u64 (wd X 3 : Nat)]), false⟩ :: ⟨1, 99, [], Kind.val (.agg #[.int .u64 (wd q 0 : Nat), .int .u64 (wd q 1 : Nat), .int .u64 (wd q 2 : Nat), .int .u64 (wd q 3 : Nat)]), false⟩ :: ⟨2, 100, [], Kind.val (.agg #[.int .u64 (wd M 0 : Nat), .int .u64 (wd M 1 : Nat), .int .u64 (wd M 2 : Nat), .int .u64 (wd M 3 : Nat)]), false⟩ :: ⟨3, 101, [1, 2], Kind.val (.agg #[.int .u64 (wd G 0 : Nat), .int .u64 (wd G 1 : Nat), .int .u64 (wd G 2 : Nat), .int .u64 (wd G 3 : Nat)]), false⟩ :: ⟨4, 102, [0, 3], Kind.val (.tuple #[.agg #[.int .u64 (wd Lo 0 : Nat), .int .u64 (wd Lo 1 : Nat), .int .u64 (wd Lo 2 : Nat), .int .u64 (wd Lo 3 : Nat)], .agg #[.int .u64 (wd 0 0 : Nat), .int .u64 (wd 0 1 : Nat), .int .u64 (wd 0 2 : Nat), .int .u64 (wd 0 3 : Nat)]]), false⟩ :: ⟨5, 97, [4], Kind.val (.tuple #[.agg #[.int .u64 (wd Lo 0 : Nat), .int .u64 (wd Lo 1 : Nat), .int .u64 (wd Lo 2 : Nat), .int .u64 (wd Lo 3 : Nat)], .agg #[.int .u64 (wd 0 0 : Nat), .int .u64 (wd 0 1 : Nat), .int .u64 (wd 0 2 : Nat), .int .u64 (wd 0 3 : Nat)]]), true⟩ :: ⟨6, 103, [5], Kind.val (.agg #[.int .u64 (wd Lo 0 : Nat), .int .u64 (wd Lo 1 : Nat), .int .u64 (wd Lo 2 : Nat), .int .u64 (wd Lo 3 : Nat)]), true⟩ :: ⟨7, 104, [5], Kind.val (.agg #[.int .u64 (wd 0 0 : Nat), .int .u64 (wd 0 1 : Nat), .int .u64 (wd 0 2 : Nat), .int .u64 (wd 0 3 : Nat)]), true⟩ :: []) _ _ W10 _ ?_ ?_ ?_ ?_ ?_ ?_ ?_ ?_ ?_ ?_ ?_
       ·rfl
       ·kernel_rfl
       ·exact of_decide_eq_true rfl
       ·(repeat refine all_cons ⟨_, rfl, rfl⟩ ?_); exact all_nil
       ·exact fun _ hb => trivial
       ·exact (Below.refl _ _).drew
       ·kernel_rfl
       ·exact fun _ _ _ _ _ h => h
       ·(repeat (refine all_cons ?_ ?_; rotate_left)); exact all_nil
        ·exact core_pureAs _ (by rfl)
        ·exact core_pureAs _ (by rfl)
        ·exact core_pureAs _ (by rfl)
        ·exact core_pureAs _ (by rfl)
        ·exact core_pureAs _ (by rfl)
        ·exact core_move _ _ _ _ _ _ (by rfl) (by rfl) (kc 4 102)
        ·exact core_extract _ _ 0 _ _ _ _ _ (by rfl) (by rfl) (kc 5 97) (by rfl)
        ·exact core_extract _ _ 1 _ _ _ _ _ (by rfl) (by rfl) (kc 5 97) (by rfl)
       ·(repeat (refine all_cons ?_ ?_; rotate_left)); exact all_nil
        ·exact fun _ => core_load _ _ _ _ _ gf _ _ _ _ (by rfl) (by rfl) (ko 6) Ff.out
        ·exact fun _ => core_load _ _ _ _ _ gq _ _ _ _ (by rfl) (by rfl) (ko 8) Fq.out
        ·exact fun _ => core_load _ _ _ _ _ gm _ _ _ _ (by rfl) (by rfl) (ko 4) Fm.out
        ·exact fun _ => core_call _ 53 _ _ [.tmp 99, .tmp 100] _ _ _ _ _ _ (by rfl) Try.func53 (by kernel_rfl) (by rfl) (by rfl) (.cons (kc 1 99) (.cons (kc 2 100) .nil)) (HCP2.out)
        ·exact fun _ => core_call _ 52 _ _ [.tmp 98, .tmp 101] _ _ _ _ _ _ (by rfl) Try.func52 (by kernel_rfl) (by rfl) (by rfl) (.cons (kc 0 98) (.cons (kc 3 101) .nil)) (HCM.out)
        ·exact sA
        ·exact sA
        ·exact sA
       intro vs y11 hc
       obtain ⟨vv0, vv1, vv2, vv3, vv4, vv5, vv6, vv7, rfl⟩ := len8 vs hc.lv
       have qq0 := okv hc 0
       have qq1 := okv hc 1
       have qq2 := okv hc 2
       have qq3 := okv hc 3
       have qq4 := okv hc 4
       have qq5 := okv hc 5
       have qq6 := okv hc 6
       have qq7 := okv hc 7
       have BZ := hc.bel
       clear hc
       have Nr := Fr.out.on BZ
       have No := Fo.out.on BZ
       have Nm := Fm.out.on BZ
       have Nf := Ff.out.on BZ
       have Nq := Fq.out.on BZ
       have Nd := Fd.out.on BZ
       have Nu := Fu.out.on BZ
       have HSZ11 := BW.out.size
       have NB := bel_tr BW.out BZ
       clear BW BZ Fr Fo Fm Ff Fq Fd Fu
       subst qq0 qq1 qq2 qq3 qq4 qq5 qq6 qq7
       simp only [List.map_cons, List.map_nil, over, Act.put, List.setIfInBounds_toArray, List.set_cons_zero, List.set_cons_succ]
       have OLD := Nf
       replace Nr := put4_far Nr Drf (.int .u64 (wd Lo 0 : Nat)) (.int .u64 (wd Lo 1 : Nat)) (.int .u64 (wd Lo 2 : Nat)) (.int .u64 (wd Lo 3 : Nat))
       replace No := put4_far No Dof (.int .u64 (wd Lo 0 : Nat)) (.int .u64 (wd Lo 1 : Nat)) (.int .u64 (wd Lo 2 : Nat)) (.int .u64 (wd Lo 3 : Nat))
       replace Nm := put4_far Nm Dmf (.int .u64 (wd Lo 0 : Nat)) (.int .u64 (wd Lo 1 : Nat)) (.int .u64 (wd Lo 2 : Nat)) (.int .u64 (wd Lo 3 : Nat))
       replace Nf := put4_at Nf (.int .u64 (wd Lo 0 : Nat)) (.int .u64 (wd Lo 1 : Nat)) (.int .u64 (wd Lo 2 : Nat)) (.int .u64 (wd Lo 3 : Nat))
       replace Nq := put4_far Nq Dfq.symm (.int .u64 (wd Lo 0 : Nat)) (.int .u64 (wd Lo 1 : Nat)) (.int .u64 (wd Lo 2 : Nat)) (.int .u64 (wd Lo 3 : Nat))
       replace Nd := put4_far Nd Dfd.symm (.int .u64 (wd Lo 0 : Nat)) (.int .u64 (wd Lo 1 : Nat)) (.int .u64 (wd Lo 2 : Nat)) (.int .u64 (wd Lo 3 : Nat))
       replace Nu := put4_far Nu Dfu.symm (.int .u64 (wd Lo 0 : Nat)) (.int .u64 (wd Lo 1 : Nat)) (.int .u64 (wd Lo 2 : Nat)) (.int .u64 (wd Lo 3 : Nat))
       replace NB := put4_below NB Ef (.int .u64 (wd Lo 0 : Nat)) (.int .u64 (wd Lo 1 : Nat)) (.int .u64 (wd Lo 2 : Nat)) (.int .u64 (wd Lo 3 : Nat))
       refine store_one (i := 8) _ _ _ _ _ gf _ _ _ _ _ _ _ _ (by kernel_rfl) (by rfl) (by rfl) (by rfl) OLD (trivial) ?_
       clear OLD
       generalize (put4 y11 gf (.int .u64 (wd Lo 0 : Nat)) (.int .u64 (wd Lo 1 : Nat)) (.int .u64 (wd Lo 2 : Nat)) (.int .u64 (wd Lo 3 : Nat))) = y11_8 at *
       refine wpAnyH_done (by kernel_rfl) ?_ _
       refine NoPanic.normal ?_
       have Fr := Lib.hid Nr
       have Fo := Lib.hid No
       have Fm := Lib.hid Nm
       have Ff := Lib.hid Nf
       have Fq := Lib.hid Nq
       have Fd := Lib.hid Nd
       have Fu := Lib.hid Nu
       have BW := Lib.hid NB
       clear NB Nr No Nm Nf Nq Nd Nu
       clear HSZ11
       have hiw := HIW.out
       go_wp2_with fail
       go_roundw
       case measure => (have := HLT.out; simp [intOf]; omega)
       case rel =>
        have hlt := HLT.out
        have hA : ∀ j, j < i + 1 → qs.getD j 0 ∣ M := fun j hj => by
         rcases Nat.lt_or_ge j i with h | h
         ·exact HD.out j h
         ·obtain rfl : j = i := by omega
          rw [HQQ.out]; exact HQD.out
        have hB : ∀ j (hj : j < ps.length), j < i + 1 → (ps[j]).ok = true := fun j hj hji => by
         rcases Nat.lt_or_ge j i with h | h
         ·exact HJ.out j hj h
         ·obtain rfl : j = i := by omega
          obtain ⟨_, hb, _⟩ := HB.out; exact hb.symm
        first
         | exact ⟨i + 1, Lo, by omega, by go_num, Fr.out, Fo.out, Fm.out, Ff.out, BW.out, HFX.out, HUP.out, hA, hB⟩
         | ((repeat apply Exists.intro); exact ⟨⟨i + 1, Lo, by omega, by go_num, Fr.out, Fo.out, Fm.out, Ff.out, BW.out, HFX.out, HUP.out, hA, hB⟩, rfl⟩)
      ·rw [decide_eq_false hz] at equ
       have HV3 := Lib.hid (show V = false from by rw [HV.out]; exact ok_no_reach HNG.out (by rw [← HNE.out, ← HPS.out, ← HQS.out]; exact reach_nodiv HIQ.out HQQ.out (fun h => hz (by rw [HUU.out, HM.out]; exact Nat.mod_eq_zero_of_dvd h))))
       clear hz
       have Lu := Fu.out.lt
       have cu0 := Fu.out.c0
       have cu1 := Fu.out.c1
       have cu2 := Fu.out.c2
       have cu3 := Fu.out.c3
       go_wp2
       go_ret
       exact ⟨by rw [HV3.out]; rfl, BW.out⟩
    ·obtain ⟨j, hj⟩ : ∃ j, i = j + 1 := ⟨i - 1, by omega⟩
     have hjl : j < ps.length := by rw [HL.out]; have := HLT.out; omega
     obtain ⟨gs3, os3, a3, cap3, q3, y3, l3, ha3, hq31, hq32, hq33, hqb3, hyb3, hs3, hc3⟩ := HS.out.c9 hjl
     obtain ⟨rfl, rfl⟩ : gs3 = gs ∧ os3 = os := by cases ha3; exact ⟨rfl, rfl⟩
     have hlq : lastQ qs i = q3 := by unfold lastQ; rw [if_neg (by omega), hj, Nat.add_sub_cancel, HQG.out j hjl, hq31]
     have HLQ := Lib.hid hlq
     have HK3 := Lib.hid (fun w => rcmp_any q3 q hqb3 HQB.out w)
     have HC3 := Lib.hid hc3
     have HJL := Lib.hid (show j < l by have := HLT.out; omega)
     have HI0 := Lib.hid (show 0 < i from hi0)
     have HIJ := Lib.hid (show (i : Int) - 1 = (j : Nat) by omega)
     have HJW := Lib.hid (show IntKind.wrap .i64 (j : Int) = (j : Int) by rw [IntKind.wrap_i64]; have := HIW.out; omega)
     clear hi0 hj hjl hq31 hq32 hq33 hqb3 hyb3 hs3 hc3 ha3 hlq
     by_cases hk : q3 < q
     ·have HKL := Lib.hid (cmpN_lt0 hk); have HRI := Lib.hid (show lastQ qs i < q by rw [HLQ.out]; exact hk)
      clear hk
      generalize cmpN q3 q = k at *
      cases b
      ·try simp only [List.append_eq, List.cons_append, List.nil_append]
       refine wp_region_noPanic ?_
       refine wp_region_held_drew (S := fun w' => Below w.heap.size w w' ∧ At w' gr 28 #[.int .u64 (wd N 0 : Nat), .int .u64 (wd N 1 : Nat), .int .u64 (wd N 2 : Nat), .int .u64 (wd N 3 : Nat), .int .u64 (wd Y 0 : Nat), .int .u64 (wd Y 1 : Nat), .int .u64 (wd Y 2 : Nat), .int .u64 (wd Y 3 : Nat), .slice (some ⟨gs3, os3, none⟩) l cap] ∧ At w' gq 25 #[.int .u64 (wd q 0 : Nat), .int .u64 (wd q 1 : Nat), .int .u64 (wd q 2 : Nat), .int .u64 (wd q 3 : Nat)]) (by kernel_rfl) (⟨BW.out.drew, Fr.out.drew, Fq.out.drew⟩) (fun _ => ?_)
       refine wpAnyH_cores (fuel := 0) (⟨0, 64, [], Kind.val (.int .i64 (i : Nat)), true⟩ :: ⟨1, 65, [0], Kind.val (.bool true), true⟩ :: ⟨2, 66, [1], Kind.val (.bool true), true⟩ :: ⟨3, 67, [2], Kind.val (.pointer (some ⟨gr, 8, none⟩)), true⟩ :: ⟨4, 68, [2, 3], Kind.val (.slice (some ⟨gs3, os3, none⟩) l cap), true⟩ :: ⟨5, 69, [2, 4], Kind.val (.int .i64 (i : Nat)), true⟩ :: ⟨6, 70, [2, 5], Kind.val (.int .i64 (j : Nat)), true⟩ :: ⟨7, 71, [2, 4, 6], Kind.val (.pointer (some ⟨gs3, os3 + j * 9, none⟩)), true⟩ :: ⟨8, 72, [2, 7], Kind.val (.pointer (some ⟨gs3, os3 + j * 9, none⟩)), true⟩ :: ⟨9, 73, [2, 8], Kind.val (.agg #[.int .u64 (wd q3 0 : Nat), .int .u64 (wd q3 1 : Nat), .int .u64 (wd q3 2 : Nat), .int .u64 (wd q3 3 : Nat)]), true⟩ :: ⟨10, 74, [2, 9], Kind.val (.agg #[.int .u64 (wd q 0 : Nat), .int .u64 (wd q 1 : Nat), .int .u64 (wd q 2 : Nat), .int .u64 (wd q 3 : Nat)]), true⟩ :: ⟨11, 75, [2, 9, 10], Kind.val (.int .i64 k), false⟩ :: ⟨12, 76, [2, 11], Kind.val (.bool false), true⟩ :: ⟨13, 77, [2, 12], Kind.val (.bool false), true⟩ :: ⟨14, 78, [13], Kind.val (.bool false), true⟩ :: ⟨15, 79, [14], Kind.val (.pointer (some ⟨gr, 8, none⟩)), true⟩ :: ⟨16, 80, [14, 15], Kind.val (.slice (some ⟨gs3, os3, none⟩) l cap), true⟩ :: ⟨17, 81, [14, 16], Kind.val (.int .i64 (i : Nat)), true⟩ :: ⟨18, 82, [14, 16, 17], Kind.val (.pointer (some ⟨gs3, os3 + i * 9, none⟩)), true⟩ :: ⟨19, 83, [14, 18], Kind.val (.agg #[.int .u64 (wd q 0 : Nat), .int .u64 (wd q 1 : Nat), .int .u64 (wd q 2 : Nat), .int .u64 (wd q 3 : Nat), .int .u64 (wd y2 0 : Nat), .int .u64 (wd y2 1 : Nat), .int .u64 (wd y2 2 : Nat), .int .u64 (wd y2 3 : Nat), .slice a2 l2 cap2]), true⟩ :: ⟨20, 84, [14, 19], Kind.val (.bool false), false⟩ :: ⟨21, 85, [14, 20], Kind.val (.bool true), true⟩ :: ⟨22, 86, [14, 21], Kind.val (.bool true), true⟩ :: []) _ _ W7 _ ?_ ?_ ?_ ?_ ?_ ?_ ?_ ?_ ?_ ?_ ?_
       ·rfl
       ·kernel_rfl
       ·exact of_decide_eq_true (by kernel_rfl)
       ·(repeat refine all_cons ⟨_, by rfl, by rfl⟩ ?_); exact all_nil
       ·exact fun _ hb => ⟨bel_tr BW.out hb, Fr.out.on hb, Fq.out.on hb⟩
       ·exact (Below.refl _ _).drew
       ·kernel_rfl
       ·exact fun _ _ _ _ _ h => h
       ·(repeat (refine all_cons ?_ ?_; rotate_left)); exact all_nil
        ·exact coreG_move _ _ _ _ _ _ _ (by rfl) (by rfl) (wants_none) (ko 7)
        ·exact coreG_bin _ _ _ _ _ _ _ _ _ _ _ _ _ (by rfl) (by rfl) (wants_none) (kc 0 64) (known_const _) ((fun ρ w hx hy => by simp only [execOp, hx, hy]; simp [go_sem, HI0.out]))
        ·exact coreG_move _ _ _ _ _ _ _ (by rfl) (by rfl) (wants_none) (kc 1 65)
        ·exact coreG_held _ _ _ _ _ _ _ _ _ (by rfl) (by rfl) (wc 2 66 2 (kc 2 66)) (ko 1) (fun ρ w hx _ => fieldR2 _ _ _ _ _ _ ρ w gr hx)
        ·exact coreG_held _ _ _ _ _ _ _ _ _ (by rfl) (by rfl) (wc 2 66 2 (kc 2 66)) (kc 3 67) (fun ρ w hx hs => loadR2 _ _ _ _ _ _ ρ w gr _ _ _ _ _ _ _ _ _ hx (hs.2.1))
        ·exact coreG_move _ _ _ _ _ _ _ (by rfl) (by rfl) (wc 2 66 2 (kc 2 66)) (ko 7)
        ·exact coreG_bin _ _ _ _ _ _ _ _ _ _ _ _ _ (by rfl) (by rfl) (wc 2 66 2 (kc 2 66)) (kc 5 69) (known_const _) ((fun ρ w hx hy => by simp only [execOp, hx, hy]; simp [go_sem, HIJ.out, HJW.out]))
        ·exact coreG_held2 _ _ _ _ _ _ _ _ _ _ _ (by rfl) (by rfl) (wc 2 66 2 (kc 2 66)) (kc 4 68) (kc 6 70) (fun ρ w hx hy _ => idxR _ _ _ _ _ _ _ ρ w gs3 os3 j l cap HJL.out hx hy)
        ·exact coreG_held _ _ _ _ _ _ _ _ _ (by rfl) (by rfl) (wc 2 66 2 (kc 2 66)) (kc 7 71) (fun ρ w hx _ => fieldC0 _ _ _ _ _ _ ρ w gs3 _ hx)
        ·exact coreG_held _ _ _ _ _ _ _ _ _ (by rfl) (by rfl) (wc 2 66 2 (kc 2 66)) (kc 8 72) (fun ρ w hx hs => loadC0 _ _ _ _ _ _ ρ w gs3 _ q3 y3 _ hx (HC3.out _ hs.1))
        ·exact coreG_loadP _ _ _ _ _ _ gq _ _ _ _ (by rfl) (by rfl) (wc 2 66 2 (kc 2 66)) (ko 8) (fun _ hs => hs.2.2)
        ·exact core_pureAs _ (by rfl)
        ·exact coreG_bin _ _ _ _ _ _ _ _ _ _ _ _ _ (by rfl) (by rfl) (wc 2 66 2 (kc 2 66)) (kc 11 75) (known_const _) ((fun ρ w hx hy => by simp only [execOp, hx, hy]; simp [go_sem, HKL.out]))
        ·exact coreG_pick _ _ _ _ _ _ _ _ _ _ _ _ (by rfl) (by rfl) (wants_none) (kc 2 66) (kc 12 76) (known_const _) (by rfl)
        ·exact coreG_move _ _ _ _ _ _ _ (by rfl) (by rfl) (wants_none) (kc 13 77)
        ·exact coreG_held _ _ _ _ _ _ _ _ _ (by rfl) (by rfl) (wc 14 78 14 (kc 14 78)) (ko 1) (fun ρ w hx _ => fieldR2 _ _ _ _ _ _ ρ w gr hx)
        ·exact coreG_held _ _ _ _ _ _ _ _ _ (by rfl) (by rfl) (wc 14 78 14 (kc 14 78)) (kc 15 79) (fun ρ w hx hs => loadR2 _ _ _ _ _ _ ρ w gr _ _ _ _ _ _ _ _ _ hx (hs.2.1))
        ·exact coreG_move _ _ _ _ _ _ _ (by rfl) (by rfl) (wc 14 78 14 (kc 14 78)) (ko 7)
        ·exact coreG_held2 _ _ _ _ _ _ _ _ _ _ _ (by rfl) (by rfl) (wc 14 78 14 (kc 14 78)) (kc 16 80) (kc 17 81) (fun ρ w hx hy _ => idxR _ _ _ _ _ _ _ ρ w gs3 os3 i l cap HLT.out hx hy)
        ·exact coreG_held _ _ _ _ _ _ _ _ _ (by rfl) (by rfl) (wc 14 78 14 (kc 14 78)) (kc 18 82) (fun ρ w hx hs => loadC _ _ _ _ _ _ ρ w gs3 _ q y2 _ hx (HC.out _ hs.1))
        ·exact core_pureAs _ (by rfl)
        ·exact coreG_un _ _ _ _ _ _ _ _ _ _ (by rfl) (by rfl) (wc 14 78 14 (kc 14 78)) (kc 20 84) (fun ρ w hx => by simp only [execOp, hx]; simp [go_sem])
        ·exact coreG_pick _ _ _ _ _ _ _ _ _ _ _ _ (by rfl) (by rfl) (wants_none) (kc 14 78) (known_const _) (kc 21 85) (by rfl)
       ·(repeat (refine all_cons ?_ ?_; rotate_left)); exact all_nil
        ·exact sA
        ·exact sA
        ·exact sA
        ·exact sA
        ·exact sA
        ·exact sA
        ·exact sA
        ·exact sA
        ·exact sA
        ·exact sA
        ·exact sA
        ·exact fun _ => coreG_call _ 50 _ _ [.tmp 73, .tmp 74] _ _ _ _ _ _ _ (by rfl) Try.func50 (by kernel_rfl) (by rfl) (by rfl) (wc 2 66 2 (kc 2 66)) (.cons (kc 9 73) (.cons (kc 10 74) .nil)) (HK3.out)
        ·exact sA
        ·exact sA
        ·exact sA
        ·exact sA
        ·exact sA
        ·exact sA
        ·exact sA
        ·exact sA
        ·exact fun _ => coreG_callB _ 33 _ _ [.tmp 83] _ _ _ _ _ _ _ (by rfl) Try.func33 (by kernel_rfl) (by rfl) (by rfl) (wc 14 78 14 (kc 14 78)) (.cons (kc 19 83) .nil) ((fun u hb => HPA.out u (bel_tr BW.out hb)))
        ·exact sA
        ·exact sA
       intro vs y8 hc
       obtain ⟨vv0, vv1, vv2, vv3, vv4, vv5, vv6, vv7, vv8, vv9, vv10, vv11, vv12, vv13, vv14, vv15, vv16, vv17, vv18, vv19, vv20, vv21, vv22, rfl⟩ := len23 vs hc.lv
       have qq0 := okv hc 0
       have qq1 := okv hc 1
       have qq2 := okv hc 2
       have qq3 := okv hc 3
       have qq4 := okv hc 4
       have qq5 := okv hc 5
       have qq6 := okv hc 6
       have qq7 := okv hc 7
       have qq8 := okv hc 8
       have qq9 := okv hc 9
       have qq10 := okv hc 10
       have qq11 := okv hc 11
       have qq12 := okv hc 12
       have qq13 := okv hc 13
       have qq14 := okv hc 14
       have qq15 := okv hc 15
       have qq16 := okv hc 16
       have qq17 := okv hc 17
       have qq18 := okv hc 18
       have qq19 := okv hc 19
       have qq20 := okv hc 20
       have qq21 := okv hc 21
       have qq22 := okv hc 22
       have BZ := hc.bel
       clear hc
       have Nr := Fr.out.on BZ
       have No := Fo.out.on BZ
       have Nm := Fm.out.on BZ
       have Nf := Ff.out.on BZ
       have Nq := Fq.out.on BZ
       have NB := bel_tr BW.out BZ
       clear BW BZ Fr Fo Fm Ff Fq
       subst qq0 qq1 qq2 qq3 qq4 qq5 qq6 qq7 qq8 qq9 qq10 qq11 qq12 qq13 qq14 qq15 qq16 qq17 qq18 qq19 qq20 qq21 qq22
       simp only [List.map_cons, List.map_nil, over, Act.put, List.setIfInBounds_toArray, List.set_cons_zero, List.set_cons_succ]
       refine wpAnyH_done (by kernel_rfl) ?_ _
       refine NoPanic.normal ?_
       have Fr := Lib.hid Nr
       have Fo := Lib.hid No
       have Fm := Lib.hid Nm
       have Ff := Lib.hid Nf
       have Fq := Lib.hid Nq
       have BW := Lib.hid NB
       clear NB Nr No Nm Nf Nq
       have HV3 := Lib.hid (show V = false by obtain ⟨h, hb, _⟩ := HB.out; rw [HV.out]; exact Ck.ok_part (p := ps[i]) (by rw [← HPS.out]; exact List.getElem_mem h) hb.symm)
       go_wp2
       go_ret
       exact ⟨by rw [HV3.out]; rfl, BW.out⟩
      ·try simp only [List.append_eq, List.cons_append, List.nil_append]
       refine wp_region_noPanic ?_
       refine wp_region_held_drew (S := fun w' => Below w.heap.size w w' ∧ At w' gr 28 #[.int .u64 (wd N 0 : Nat), .int .u64 (wd N 1 : Nat), .int .u64 (wd N 2 : Nat), .int .u64 (wd N 3 : Nat), .int .u64 (wd Y 0 : Nat), .int .u64 (wd Y 1 : Nat), .int .u64 (wd Y 2 : Nat), .int .u64 (wd Y 3 : Nat), .slice (some ⟨gs3, os3, none⟩) l cap] ∧ At w' gq 25 #[.int .u64 (wd q 0 : Nat), .int .u64 (wd q 1 : Nat), .int .u64 (wd q 2 : Nat), .int .u64 (wd q 3 : Nat)]) (by kernel_rfl) (⟨BW.out.drew, Fr.out.drew, Fq.out.drew⟩) (fun _ => ?_)
       refine wpAnyH_cores (fuel := 0) (⟨0, 64, [], Kind.val (.int .i64 (i : Nat)), true⟩ :: ⟨1, 65, [0], Kind.val (.bool true), true⟩ :: ⟨2, 66, [1], Kind.val (.bool true), true⟩ :: ⟨3, 67, [2], Kind.val (.pointer (some ⟨gr, 8, none⟩)), true⟩ :: ⟨4, 68, [2, 3], Kind.val (.slice (some ⟨gs3, os3, none⟩) l cap), true⟩ :: ⟨5, 69, [2, 4], Kind.val (.int .i64 (i : Nat)), true⟩ :: ⟨6, 70, [2, 5], Kind.val (.int .i64 (j : Nat)), true⟩ :: ⟨7, 71, [2, 4, 6], Kind.val (.pointer (some ⟨gs3, os3 + j * 9, none⟩)), true⟩ :: ⟨8, 72, [2, 7], Kind.val (.pointer (some ⟨gs3, os3 + j * 9, none⟩)), true⟩ :: ⟨9, 73, [2, 8], Kind.val (.agg #[.int .u64 (wd q3 0 : Nat), .int .u64 (wd q3 1 : Nat), .int .u64 (wd q3 2 : Nat), .int .u64 (wd q3 3 : Nat)]), true⟩ :: ⟨10, 74, [2, 9], Kind.val (.agg #[.int .u64 (wd q 0 : Nat), .int .u64 (wd q 1 : Nat), .int .u64 (wd q 2 : Nat), .int .u64 (wd q 3 : Nat)]), true⟩ :: ⟨11, 75, [2, 9, 10], Kind.val (.int .i64 k), false⟩ :: ⟨12, 76, [2, 11], Kind.val (.bool false), true⟩ :: ⟨13, 77, [2, 12], Kind.val (.bool false), true⟩ :: ⟨14, 78, [13], Kind.val (.bool false), true⟩ :: ⟨15, 79, [14], Kind.val (.pointer (some ⟨gr, 8, none⟩)), true⟩ :: ⟨16, 80, [14, 15], Kind.val (.slice (some ⟨gs3, os3, none⟩) l cap), true⟩ :: ⟨17, 81, [14, 16], Kind.val (.int .i64 (i : Nat)), true⟩ :: ⟨18, 82, [14, 16, 17], Kind.val (.pointer (some ⟨gs3, os3 + i * 9, none⟩)), true⟩ :: ⟨19, 83, [14, 18], Kind.val (.agg #[.int .u64 (wd q 0 : Nat), .int .u64 (wd q 1 : Nat), .int .u64 (wd q 2 : Nat), .int .u64 (wd q 3 : Nat), .int .u64 (wd y2 0 : Nat), .int .u64 (wd y2 1 : Nat), .int .u64 (wd y2 2 : Nat), .int .u64 (wd y2 3 : Nat), .slice a2 l2 cap2]), true⟩ :: ⟨20, 84, [14, 19], Kind.val (.bool true), false⟩ :: ⟨21, 85, [14, 20], Kind.val (.bool false), true⟩ :: ⟨22, 86, [14, 21], Kind.val (.bool false), true⟩ :: []) _ _ W7 _ ?_ ?_ ?_ ?_ ?_ ?_ ?_ ?_ ?_ ?_ ?_
       ·rfl
       ·kernel_rfl
       ·exact of_decide_eq_true (by kernel_rfl)
       ·(repeat refine all_cons ⟨_, by rfl, by rfl⟩ ?_); exact all_nil
       ·exact fun _ hb => ⟨bel_tr BW.out hb, Fr.out.on hb, Fq.out.on hb⟩
       ·exact (Below.refl _ _).drew
       ·kernel_rfl
       ·exact fun _ _ _ _ _ h => h
       ·(repeat (refine all_cons ?_ ?_; rotate_left)); exact all_nil
        ·exact coreG_move _ _ _ _ _ _ _ (by rfl) (by rfl) (wants_none) (ko 7)
        ·exact coreG_bin _ _ _ _ _ _ _ _ _ _ _ _ _ (by rfl) (by rfl) (wants_none) (kc 0 64) (known_const _) ((fun ρ w hx hy => by simp only [execOp, hx, hy]; simp [go_sem, HI0.out]))
        ·exact coreG_move _ _ _ _ _ _ _ (by rfl) (by rfl) (wants_none) (kc 1 65)
        ·exact coreG_held _ _ _ _ _ _ _ _ _ (by rfl) (by rfl) (wc 2 66 2 (kc 2 66)) (ko 1) (fun ρ w hx _ => fieldR2 _ _ _ _ _ _ ρ w gr hx)
        ·exact coreG_held _ _ _ _ _ _ _ _ _ (by rfl) (by rfl) (wc 2 66 2 (kc 2 66)) (kc 3 67) (fun ρ w hx hs => loadR2 _ _ _ _ _ _ ρ w gr _ _ _ _ _ _ _ _ _ hx (hs.2.1))
        ·exact coreG_move _ _ _ _ _ _ _ (by rfl) (by rfl) (wc 2 66 2 (kc 2 66)) (ko 7)
        ·exact coreG_bin _ _ _ _ _ _ _ _ _ _ _ _ _ (by rfl) (by rfl) (wc 2 66 2 (kc 2 66)) (kc 5 69) (known_const _) ((fun ρ w hx hy => by simp only [execOp, hx, hy]; simp [go_sem, HIJ.out, HJW.out]))
        ·exact coreG_held2 _ _ _ _ _ _ _ _ _ _ _ (by rfl) (by rfl) (wc 2 66 2 (kc 2 66)) (kc 4 68) (kc 6 70) (fun ρ w hx hy _ => idxR _ _ _ _ _ _ _ ρ w gs3 os3 j l cap HJL.out hx hy)
        ·exact coreG_held _ _ _ _ _ _ _ _ _ (by rfl) (by rfl) (wc 2 66 2 (kc 2 66)) (kc 7 71) (fun ρ w hx _ => fieldC0 _ _ _ _ _ _ ρ w gs3 _ hx)
        ·exact coreG_held _ _ _ _ _ _ _ _ _ (by rfl) (by rfl) (wc 2 66 2 (kc 2 66)) (kc 8 72) (fun ρ w hx hs => loadC0 _ _ _ _ _ _ ρ w gs3 _ q3 y3 _ hx (HC3.out _ hs.1))
        ·exact coreG_loadP _ _ _ _ _ _ gq _ _ _ _ (by rfl) (by rfl) (wc 2 66 2 (kc 2 66)) (ko 8) (fun _ hs => hs.2.2)
        ·exact core_pureAs _ (by rfl)
        ·exact coreG_bin _ _ _ _ _ _ _ _ _ _ _ _ _ (by rfl) (by rfl) (wc 2 66 2 (kc 2 66)) (kc 11 75) (known_const _) ((fun ρ w hx hy => by simp only [execOp, hx, hy]; simp [go_sem, HKL.out]))
        ·exact coreG_pick _ _ _ _ _ _ _ _ _ _ _ _ (by rfl) (by rfl) (wants_none) (kc 2 66) (kc 12 76) (known_const _) (by rfl)
        ·exact coreG_move _ _ _ _ _ _ _ (by rfl) (by rfl) (wants_none) (kc 13 77)
        ·exact coreG_held _ _ _ _ _ _ _ _ _ (by rfl) (by rfl) (wc 14 78 14 (kc 14 78)) (ko 1) (fun ρ w hx _ => fieldR2 _ _ _ _ _ _ ρ w gr hx)
        ·exact coreG_held _ _ _ _ _ _ _ _ _ (by rfl) (by rfl) (wc 14 78 14 (kc 14 78)) (kc 15 79) (fun ρ w hx hs => loadR2 _ _ _ _ _ _ ρ w gr _ _ _ _ _ _ _ _ _ hx (hs.2.1))
        ·exact coreG_move _ _ _ _ _ _ _ (by rfl) (by rfl) (wc 14 78 14 (kc 14 78)) (ko 7)
        ·exact coreG_held2 _ _ _ _ _ _ _ _ _ _ _ (by rfl) (by rfl) (wc 14 78 14 (kc 14 78)) (kc 16 80) (kc 17 81) (fun ρ w hx hy _ => idxR _ _ _ _ _ _ _ ρ w gs3 os3 i l cap HLT.out hx hy)
        ·exact coreG_held _ _ _ _ _ _ _ _ _ (by rfl) (by rfl) (wc 14 78 14 (kc 14 78)) (kc 18 82) (fun ρ w hx hs => loadC _ _ _ _ _ _ ρ w gs3 _ q y2 _ hx (HC.out _ hs.1))
        ·exact core_pureAs _ (by rfl)
        ·exact coreG_un _ _ _ _ _ _ _ _ _ _ (by rfl) (by rfl) (wc 14 78 14 (kc 14 78)) (kc 20 84) (fun ρ w hx => by simp only [execOp, hx]; simp [go_sem])
        ·exact coreG_pick _ _ _ _ _ _ _ _ _ _ _ _ (by rfl) (by rfl) (wants_none) (kc 14 78) (known_const _) (kc 21 85) (by rfl)
       ·(repeat (refine all_cons ?_ ?_; rotate_left)); exact all_nil
        ·exact sA
        ·exact sA
        ·exact sA
        ·exact sA
        ·exact sA
        ·exact sA
        ·exact sA
        ·exact sA
        ·exact sA
        ·exact sA
        ·exact sA
        ·exact fun _ => coreG_call _ 50 _ _ [.tmp 73, .tmp 74] _ _ _ _ _ _ _ (by rfl) Try.func50 (by kernel_rfl) (by rfl) (by rfl) (wc 2 66 2 (kc 2 66)) (.cons (kc 9 73) (.cons (kc 10 74) .nil)) (HK3.out)
        ·exact sA
        ·exact sA
        ·exact sA
        ·exact sA
        ·exact sA
        ·exact sA
        ·exact sA
        ·exact sA
        ·exact fun _ => coreG_callB _ 33 _ _ [.tmp 83] _ _ _ _ _ _ _ (by rfl) Try.func33 (by kernel_rfl) (by rfl) (by rfl) (wc 14 78 14 (kc 14 78)) (.cons (kc 19 83) .nil) ((fun u hb => HPA.out u (bel_tr BW.out hb)))
        ·exact sA
        ·exact sA
       intro vs y8 hc
       obtain ⟨vv0, vv1, vv2, vv3, vv4, vv5, vv6, vv7, vv8, vv9, vv10, vv11, vv12, vv13, vv14, vv15, vv16, vv17, vv18, vv19, vv20, vv21, vv22, rfl⟩ := len23 vs hc.lv
       have qq0 := okv hc 0
       have qq1 := okv hc 1
       have qq2 := okv hc 2
       have qq3 := okv hc 3
       have qq4 := okv hc 4
       have qq5 := okv hc 5
       have qq6 := okv hc 6
       have qq7 := okv hc 7
       have qq8 := okv hc 8
       have qq9 := okv hc 9
       have qq10 := okv hc 10
       have qq11 := okv hc 11
       have qq12 := okv hc 12
       have qq13 := okv hc 13
       have qq14 := okv hc 14
       have qq15 := okv hc 15
       have qq16 := okv hc 16
       have qq17 := okv hc 17
       have qq18 := okv hc 18
       have qq19 := okv hc 19
       have qq20 := okv hc 20
       have qq21 := okv hc 21
       have qq22 := okv hc 22
       have BZ := hc.bel
       clear hc
       have Nr := Fr.out.on BZ
       have No := Fo.out.on BZ
       have Nm := Fm.out.on BZ
       have Nf := Ff.out.on BZ
       have Nq := Fq.out.on BZ
       have NB := bel_tr BW.out BZ
       clear BW BZ Fr Fo Fm Ff Fq
       subst qq0 qq1 qq2 qq3 qq4 qq5 qq6 qq7 qq8 qq9 qq10 qq11 qq12 qq13 qq14 qq15 qq16 qq17 qq18 qq19 qq20 qq21 qq22
       simp only [List.map_cons, List.map_nil, over, Act.put, List.setIfInBounds_toArray, List.set_cons_zero, List.set_cons_succ]
       refine wpAnyH_done (by kernel_rfl) ?_ _
       refine NoPanic.normal ?_
       have Fr := Lib.hid Nr
       have Fo := Lib.hid No
       have Fm := Lib.hid Nm
       have Ff := Lib.hid Nf
       have Fq := Lib.hid Nq
       have BW := Lib.hid NB
       clear NB Nr No Nm Nf Nq
       have hpq : Pr.Pri q := by obtain ⟨h, hb, h1⟩ := HB.out; have := Pr.ok_pri _ hb.symm; rw [h1] at this; exact this
       have hup : Up qs (i + 1) := HU.out.more HQQ.out HRI.out
       have CD := fun w => rdiv_any M q HMB.out HQB.out (by have := hpq.1; omega) w
       obtain ⟨D, hD⟩ : ∃ D, D = M / q := ⟨_, rfl⟩
       obtain ⟨u, hu⟩ : ∃ u, u = M % q := ⟨_, rfl⟩
       rw [← hD, ← hu] at CD
       have HCD := Lib.hid CD; have HUU := Lib.hid hu; have HUP := Lib.hid hup; have HPQ := Lib.hid hpq
       have EQU := Lib.hid (eqZ u (by rw [hu]; exact Nat.lt_trans (Nat.mod_lt _ (by have := hpq.1; omega)) HQB.out))
       clear CD hD hu hup hpq
       go_upto_region 12 with fail
       have Lm := Fm.out.lt
       have cm0 := Fm.out.c0
       have cm1 := Fm.out.c1
       have cm2 := Fm.out.c2
       have cm3 := Fm.out.c3
       have Lq := Fq.out.lt
       have cq0 := Fq.out.c0
       have cq1 := Fq.out.c1
       have cq2 := Fq.out.c2
       have cq3 := Fq.out.c3
       go_wp2_with fail
       clear Lm cm0 cm1 cm2 cm3 Lq cq0 cq1 cq2 cq3
       refine (HCD.out _).mono ?_
       rintro e v9 ⟨rfl, z9⟩
       have Nr := Lib.hid (Fr.out.on z9)
       have No := Lib.hid (Fo.out.on z9)
       have Nm := Lib.hid (Fm.out.on z9)
       have Nf := Lib.hid (Ff.out.on z9)
       have Nq := Lib.hid (Fq.out.on z9)
       have NB := Lib.hid (bel_tr BW.out z9)
       clear BW z9 Fr Fo Fm Ff Fq
       have Fr := Nr
       have Fo := No
       have Fm := Nm
       have Ff := Nf
       have Fq := Nq
       have BW := NB
       clear NB Nr No Nm Nf Nq
       go_upto_region 13 with fail
       have Drd : gr ≠ v9.heap.size := by have := Fr.out.lt; omega
       have Dod : go ≠ v9.heap.size := by have := Fo.out.lt; omega
       have Dmd : gm ≠ v9.heap.size := by have := Fm.out.lt; omega
       have Dfd : gf ≠ v9.heap.size := by have := Ff.out.lt; omega
       have Dqd : gq ≠ v9.heap.size := by have := Fq.out.lt; omega
       have Dru : gr ≠ v9.heap.size + 1 := by have := Fr.out.lt; omega
       have Dou : go ≠ v9.heap.size + 1 := by have := Fo.out.lt; omega
       have Dmu : gm ≠ v9.heap.size + 1 := by have := Fm.out.lt; omega
       have Dfu : gf ≠ v9.heap.size + 1 := by have := Ff.out.lt; omega
       have Dqu : gq ≠ v9.heap.size + 1 := by have := Fq.out.lt; omega
       generalize hW10 : ((v9.alloc (.cells #[.int .u64 (wd D 0 : Nat), .int .u64 (wd D 1 : Nat), .int .u64 (wd D 2 : Nat), .int .u64 (wd D 3 : Nat)] 25)).alloc (.cells #[.int .u64 (wd u 0 : Nat), .int .u64 (wd u 1 : Nat), .int .u64 (wd u 2 : Nat), .int .u64 (wd u 3 : Nat)] 25)) = W10 at *
       have Nd : At W10 (v9.heap.size) _ _ := at_of hW10 ((At.at_ _ _ _ _ (by simp)).alloc _)
       have Nu : At W10 (v9.heap.size + 1) _ _ := at_of hW10 (At.at_ _ _ _ _ (by simp))
       have Nr := at_of hW10 ((Fr.out.alloc _).alloc _)
       have No := at_of hW10 ((Fo.out.alloc _).alloc _)
       have Nm := at_of hW10 ((Fm.out.alloc _).alloc _)
       have Nf := at_of hW10 ((Ff.out.alloc _).alloc _)
       have Nq := at_of hW10 ((Fq.out.alloc _).alloc _)
       have NB := gr_of hW10 (gr_alloc (gr_alloc BW.out _) _)
       clear hW10 BW Fr Fo Fm Ff Fq
       generalize v9.heap.size + 1 = gu at *
       generalize v9.heap.size = gd at *
       have Fr := Lib.hid Nr
       have Fo := Lib.hid No
       have Fm := Lib.hid Nm
       have Ff := Lib.hid Nf
       have Fq := Lib.hid Nq
       have Fd := Lib.hid Nd
       have Fu := Lib.hid Nu
       have BW := Lib.hid NB
       clear NB Nr No Nm Nf Nq Nd Nu
       have equ := EQU.out
       by_cases hz : u = 0
       ·rw [decide_eq_true hz] at equ
        have hqd : q ∣ M := Nat.dvd_of_mod_eq_zero (by rw [← HUU.out]; exact hz)
        obtain ⟨G, hG⟩ : ∃ G, G = Pr.gp q M := ⟨_, rfl⟩
        have CP2 := rpow_any M q HM0.out HMB.out HPQ.out.1 HQB.out
        rw [← hG] at CP2
        have hfx : X * G = Pr.fprod M (qs.take (i + 1)) := by rw [take_one _ _ HIQ.out, fprod_snoc, HQQ.out, ← hG, ← HX.out]
        have hpf2 : ∀ q2 ∈ qs.take (i + 1), Pr.Pri q2 := fun q2 h2 => by
         rw [take_one _ _ HIQ.out, List.mem_append] at h2
         rcases h2 with h2 | h2
         ·exact HPF.out q2 h2
         ·rw [List.mem_singleton, HQQ.out] at h2; rw [h2]; exact HPQ.out
        have hle : X * G ≤ M := by rw [hfx]; exact Nat.le_of_dvd HM0.out (Pr.fprod_dvd (Pr.rises_nodup HUP.out.take) hpf2)
        have hGM : G ≤ M := by rw [hG]; exact Nat.le_of_dvd HM0.out (Pr.gp_dvd q M)
        have hmb := HMB.out
        have CM := rmul_any X G (X * G) 0 (Nat.lt_of_le_of_lt HXM.out hmb) (Nat.lt_of_le_of_lt hGM hmb) (Nat.lt_of_le_of_lt hle hmb) (by decide) (by omega)
        obtain ⟨Lo, hLo⟩ : ∃ Lo, Lo = X * G := ⟨_, rfl⟩
        rw [← hLo] at CM hfx
        have HCM := Lib.hid CM; have HCP2 := Lib.hid CP2; have HFX := Lib.hid hfx; have HQD := Lib.hid hqd
        clear hz hqd hG CP2 hfx hpf2 hle hGM hmb CM hLo
        have Lu := Fu.out.lt
        have cu0 := Fu.out.c0
        have cu1 := Fu.out.c1
        have cu2 := Fu.out.c2
        have cu3 := Fu.out.c3
        go_upto_region 15 with fail
        clear Lu cu0 cu1 cu2 cu3
        clear equ
        try simp only [List.append_eq, List.cons_append, List.nil_append]
        refine wp_region_noPanic ?_
        refine wp_region_held_drew (S := fun w' => True) (by kernel_rfl) (trivial) (fun _ => ?_)
        refine wpAnyH_cores (fuel := 1) (⟨0, 98, [], Kind.val (.agg #[.int .u64 (wd X 0 : Nat), .int .u64 (wd X 1 : Nat), .int .u64 (wd X 2 : Nat), .int .u64 (wd X 3 : Nat)]), false⟩ :: ⟨1, 99, [], Kind.val (.agg #[.int .u64 (wd q 0 : Nat), .int .u64 (wd q 1 : Nat), .int .u64 (wd q 2 : Nat), .int .u64 (wd q 3 : Nat)]), false⟩ :: ⟨2, 100, [], Kind.val (.agg #[.int .u64 (wd M 0 : Nat), .int .u64 (wd M 1 : Nat), .int .u64 (wd M 2 : Nat), .int .u64 (wd M 3 : Nat)]), false⟩ :: ⟨3, 101, [1, 2], Kind.val (.agg #[.int .u64 (wd G 0 : Nat), .int .u64 (wd G 1 : Nat), .int .u64 (wd G 2 : Nat), .int .u64 (wd G 3 : Nat)]), false⟩ :: ⟨4, 102, [0, 3], Kind.val (.tuple #[.agg #[.int .u64 (wd Lo 0 : Nat), .int .u64 (wd Lo 1 : Nat), .int .u64 (wd Lo 2 : Nat), .int .u64 (wd Lo 3 : Nat)], .agg #[.int .u64 (wd 0 0 : Nat), .int .u64 (wd 0 1 : Nat), .int .u64 (wd 0 2 : Nat), .int .u64 (wd 0 3 : Nat)]]), false⟩ :: ⟨5, 97, [4], Kind.val (.tuple #[.agg #[.int .u64 (wd Lo 0 : Nat), .int .u64 (wd Lo 1 : Nat), .int .u64 (wd Lo 2 : Nat), .int .u64 (wd Lo 3 : Nat)], .agg #[.int .u64 (wd 0 0 : Nat), .int .u64 (wd 0 1 : Nat), .int .u64 (wd 0 2 : Nat), .int .u64 (wd 0 3 : Nat)]]), true⟩ :: ⟨6, 103, [5], Kind.val (.agg #[.int .u64 (wd Lo 0 : Nat), .int .u64 (wd Lo 1 : Nat), .int .u64 (wd Lo 2 : Nat), .int .u64 (wd Lo 3 : Nat)]), true⟩ :: ⟨7, 104, [5], Kind.val (.agg #[.int .u64 (wd 0 0 : Nat), .int .u64 (wd 0 1 : Nat), .int .u64 (wd 0 2 : Nat), .int .u64 (wd 0 3 : Nat)]), true⟩ :: []) _ _ W10 _ ?_ ?_ ?_ ?_ ?_ ?_ ?_ ?_ ?_ ?_ ?_
        ·rfl
        ·kernel_rfl
        ·exact of_decide_eq_true rfl
        ·(repeat refine all_cons ⟨_, rfl, rfl⟩ ?_); exact all_nil
        ·exact fun _ hb => trivial
        ·exact (Below.refl _ _).drew
        ·kernel_rfl
        ·exact fun _ _ _ _ _ h => h
        ·(repeat (refine all_cons ?_ ?_; rotate_left)); exact all_nil
         ·exact core_pureAs _ (by rfl)
         ·exact core_pureAs _ (by rfl)
         ·exact core_pureAs _ (by rfl)
         ·exact core_pureAs _ (by rfl)
         ·exact core_pureAs _ (by rfl)
         ·exact core_move _ _ _ _ _ _ (by rfl) (by rfl) (kc 4 102)
         ·exact core_extract _ _ 0 _ _ _ _ _ (by rfl) (by rfl) (kc 5 97) (by rfl)
         ·exact core_extract _ _ 1 _ _ _ _ _ (by rfl) (by rfl) (kc 5 97) (by rfl)
        ·(repeat (refine all_cons ?_ ?_; rotate_left)); exact all_nil
         ·exact fun _ => core_load _ _ _ _ _ gf _ _ _ _ (by rfl) (by rfl) (ko 6) Ff.out
         ·exact fun _ => core_load _ _ _ _ _ gq _ _ _ _ (by rfl) (by rfl) (ko 8) Fq.out
         ·exact fun _ => core_load _ _ _ _ _ gm _ _ _ _ (by rfl) (by rfl) (ko 4) Fm.out
         ·exact fun _ => core_call _ 53 _ _ [.tmp 99, .tmp 100] _ _ _ _ _ _ (by rfl) Try.func53 (by kernel_rfl) (by rfl) (by rfl) (.cons (kc 1 99) (.cons (kc 2 100) .nil)) (HCP2.out)
         ·exact fun _ => core_call _ 52 _ _ [.tmp 98, .tmp 101] _ _ _ _ _ _ (by rfl) Try.func52 (by kernel_rfl) (by rfl) (by rfl) (.cons (kc 0 98) (.cons (kc 3 101) .nil)) (HCM.out)
         ·exact sA
         ·exact sA
         ·exact sA
        intro vs y11 hc
        obtain ⟨vv0, vv1, vv2, vv3, vv4, vv5, vv6, vv7, rfl⟩ := len8 vs hc.lv
        have qq0 := okv hc 0
        have qq1 := okv hc 1
        have qq2 := okv hc 2
        have qq3 := okv hc 3
        have qq4 := okv hc 4
        have qq5 := okv hc 5
        have qq6 := okv hc 6
        have qq7 := okv hc 7
        have BZ := hc.bel
        clear hc
        have Nr := Fr.out.on BZ
        have No := Fo.out.on BZ
        have Nm := Fm.out.on BZ
        have Nf := Ff.out.on BZ
        have Nq := Fq.out.on BZ
        have Nd := Fd.out.on BZ
        have Nu := Fu.out.on BZ
        have HSZ11 := BW.out.size
        have NB := bel_tr BW.out BZ
        clear BW BZ Fr Fo Fm Ff Fq Fd Fu
        subst qq0 qq1 qq2 qq3 qq4 qq5 qq6 qq7
        simp only [List.map_cons, List.map_nil, over, Act.put, List.setIfInBounds_toArray, List.set_cons_zero, List.set_cons_succ]
        have OLD := Nf
        replace Nr := put4_far Nr Drf (.int .u64 (wd Lo 0 : Nat)) (.int .u64 (wd Lo 1 : Nat)) (.int .u64 (wd Lo 2 : Nat)) (.int .u64 (wd Lo 3 : Nat))
        replace No := put4_far No Dof (.int .u64 (wd Lo 0 : Nat)) (.int .u64 (wd Lo 1 : Nat)) (.int .u64 (wd Lo 2 : Nat)) (.int .u64 (wd Lo 3 : Nat))
        replace Nm := put4_far Nm Dmf (.int .u64 (wd Lo 0 : Nat)) (.int .u64 (wd Lo 1 : Nat)) (.int .u64 (wd Lo 2 : Nat)) (.int .u64 (wd Lo 3 : Nat))
        replace Nf := put4_at Nf (.int .u64 (wd Lo 0 : Nat)) (.int .u64 (wd Lo 1 : Nat)) (.int .u64 (wd Lo 2 : Nat)) (.int .u64 (wd Lo 3 : Nat))
        replace Nq := put4_far Nq Dfq.symm (.int .u64 (wd Lo 0 : Nat)) (.int .u64 (wd Lo 1 : Nat)) (.int .u64 (wd Lo 2 : Nat)) (.int .u64 (wd Lo 3 : Nat))
        replace Nd := put4_far Nd Dfd.symm (.int .u64 (wd Lo 0 : Nat)) (.int .u64 (wd Lo 1 : Nat)) (.int .u64 (wd Lo 2 : Nat)) (.int .u64 (wd Lo 3 : Nat))
        replace Nu := put4_far Nu Dfu.symm (.int .u64 (wd Lo 0 : Nat)) (.int .u64 (wd Lo 1 : Nat)) (.int .u64 (wd Lo 2 : Nat)) (.int .u64 (wd Lo 3 : Nat))
        replace NB := put4_below NB Ef (.int .u64 (wd Lo 0 : Nat)) (.int .u64 (wd Lo 1 : Nat)) (.int .u64 (wd Lo 2 : Nat)) (.int .u64 (wd Lo 3 : Nat))
        refine store_one (i := 8) _ _ _ _ _ gf _ _ _ _ _ _ _ _ (by kernel_rfl) (by rfl) (by rfl) (by rfl) OLD (trivial) ?_
        clear OLD
        generalize (put4 y11 gf (.int .u64 (wd Lo 0 : Nat)) (.int .u64 (wd Lo 1 : Nat)) (.int .u64 (wd Lo 2 : Nat)) (.int .u64 (wd Lo 3 : Nat))) = y11_8 at *
        refine wpAnyH_done (by kernel_rfl) ?_ _
        refine NoPanic.normal ?_
        have Fr := Lib.hid Nr
        have Fo := Lib.hid No
        have Fm := Lib.hid Nm
        have Ff := Lib.hid Nf
        have Fq := Lib.hid Nq
        have Fd := Lib.hid Nd
        have Fu := Lib.hid Nu
        have BW := Lib.hid NB
        clear NB Nr No Nm Nf Nq Nd Nu
        clear HSZ11
        have hiw := HIW.out
        go_wp2_with fail
        go_roundw
        case measure => (have := HLT.out; simp [intOf]; omega)
        case rel =>
         have hlt := HLT.out
         have hA : ∀ j, j < i + 1 → qs.getD j 0 ∣ M := fun j hj => by
          rcases Nat.lt_or_ge j i with h | h
          ·exact HD.out j h
          ·obtain rfl : j = i := by omega
           rw [HQQ.out]; exact HQD.out
         have hB : ∀ j (hj : j < ps.length), j < i + 1 → (ps[j]).ok = true := fun j hj hji => by
          rcases Nat.lt_or_ge j i with h | h
          ·exact HJ.out j hj h
          ·obtain rfl : j = i := by omega
           obtain ⟨_, hb, _⟩ := HB.out; exact hb.symm
         first
          | exact ⟨i + 1, Lo, by omega, by go_num, Fr.out, Fo.out, Fm.out, Ff.out, BW.out, HFX.out, HUP.out, hA, hB⟩
          | ((repeat apply Exists.intro); exact ⟨⟨i + 1, Lo, by omega, by go_num, Fr.out, Fo.out, Fm.out, Ff.out, BW.out, HFX.out, HUP.out, hA, hB⟩, rfl⟩)
       ·rw [decide_eq_false hz] at equ
        have HV3 := Lib.hid (show V = false from by rw [HV.out]; exact ok_no_reach HNG.out (by rw [← HNE.out, ← HPS.out, ← HQS.out]; exact reach_nodiv HIQ.out HQQ.out (fun h => hz (by rw [HUU.out, HM.out]; exact Nat.mod_eq_zero_of_dvd h))))
        clear hz
        have Lu := Fu.out.lt
        have cu0 := Fu.out.c0
        have cu1 := Fu.out.c1
        have cu2 := Fu.out.c2
        have cu3 := Fu.out.c3
        go_wp2
        go_ret
        exact ⟨by rw [HV3.out]; rfl, BW.out⟩
     ·have HKL := Lib.hid (cmpN_ge0 (Nat.le_of_not_lt hk))
      have HV3 := Lib.hid (show V = false from by rw [HV.out]; exact ok_no_reach HNG.out (by rw [← HNE.out, ← HPS.out, ← HQS.out]; exact reach_norise2 HIQ.out HQQ.out HI0.out (by rw [HLQ.out]; omega)))
      clear hk
      generalize cmpN q3 q = k at *
      try simp only [List.append_eq, List.cons_append, List.nil_append]
      refine wp_region_noPanic ?_
      refine wp_region_held_drew (S := fun w' => Below w.heap.size w w' ∧ At w' gr 28 #[.int .u64 (wd N 0 : Nat), .int .u64 (wd N 1 : Nat), .int .u64 (wd N 2 : Nat), .int .u64 (wd N 3 : Nat), .int .u64 (wd Y 0 : Nat), .int .u64 (wd Y 1 : Nat), .int .u64 (wd Y 2 : Nat), .int .u64 (wd Y 3 : Nat), .slice (some ⟨gs3, os3, none⟩) l cap] ∧ At w' gq 25 #[.int .u64 (wd q 0 : Nat), .int .u64 (wd q 1 : Nat), .int .u64 (wd q 2 : Nat), .int .u64 (wd q 3 : Nat)]) (by kernel_rfl) (⟨BW.out.drew, Fr.out.drew, Fq.out.drew⟩) (fun _ => ?_)
      refine wpAnyH_cores (fuel := 0) (⟨0, 64, [], Kind.val (.int .i64 (i : Nat)), true⟩ :: ⟨1, 65, [0], Kind.val (.bool true), true⟩ :: ⟨2, 66, [1], Kind.val (.bool true), true⟩ :: ⟨3, 67, [2], Kind.val (.pointer (some ⟨gr, 8, none⟩)), true⟩ :: ⟨4, 68, [2, 3], Kind.val (.slice (some ⟨gs3, os3, none⟩) l cap), true⟩ :: ⟨5, 69, [2, 4], Kind.val (.int .i64 (i : Nat)), true⟩ :: ⟨6, 70, [2, 5], Kind.val (.int .i64 (j : Nat)), true⟩ :: ⟨7, 71, [2, 4, 6], Kind.val (.pointer (some ⟨gs3, os3 + j * 9, none⟩)), true⟩ :: ⟨8, 72, [2, 7], Kind.val (.pointer (some ⟨gs3, os3 + j * 9, none⟩)), true⟩ :: ⟨9, 73, [2, 8], Kind.val (.agg #[.int .u64 (wd q3 0 : Nat), .int .u64 (wd q3 1 : Nat), .int .u64 (wd q3 2 : Nat), .int .u64 (wd q3 3 : Nat)]), true⟩ :: ⟨10, 74, [2, 9], Kind.val (.agg #[.int .u64 (wd q 0 : Nat), .int .u64 (wd q 1 : Nat), .int .u64 (wd q 2 : Nat), .int .u64 (wd q 3 : Nat)]), true⟩ :: ⟨11, 75, [2, 9, 10], Kind.val (.int .i64 k), false⟩ :: ⟨12, 76, [2, 11], Kind.val (.bool true), true⟩ :: ⟨13, 77, [2, 12], Kind.val (.bool true), true⟩ :: ⟨14, 78, [13], Kind.val (.bool true), true⟩ :: ⟨15, 79, [14], Kind.val (undef), true⟩ :: ⟨16, 80, [14, 15], Kind.val (undef), true⟩ :: ⟨17, 81, [14, 16], Kind.val (undef), true⟩ :: ⟨18, 82, [14, 16, 17], Kind.val (undef), true⟩ :: ⟨19, 83, [14, 18], Kind.val (undef), true⟩ :: ⟨20, 84, [14, 19], Kind.val (undef), true⟩ :: ⟨21, 85, [14, 20], Kind.val (undef), true⟩ :: ⟨22, 86, [14, 21], Kind.val (.bool true), true⟩ :: []) _ _ W7 _ ?_ ?_ ?_ ?_ ?_ ?_ ?_ ?_ ?_ ?_ ?_
      ·rfl
      ·kernel_rfl
      ·exact of_decide_eq_true (by kernel_rfl)
      ·(repeat refine all_cons ⟨_, by rfl, by rfl⟩ ?_); exact all_nil
      ·exact fun _ hb => ⟨bel_tr BW.out hb, Fr.out.on hb, Fq.out.on hb⟩
      ·exact (Below.refl _ _).drew
      ·kernel_rfl
      ·exact fun _ _ _ _ _ h => h
      ·(repeat (refine all_cons ?_ ?_; rotate_left)); exact all_nil
       ·exact coreG_move _ _ _ _ _ _ _ (by rfl) (by rfl) (wants_none) (ko 7)
       ·exact coreG_bin _ _ _ _ _ _ _ _ _ _ _ _ _ (by rfl) (by rfl) (wants_none) (kc 0 64) (known_const _) ((fun ρ w hx hy => by simp only [execOp, hx, hy]; simp [go_sem, HI0.out]))
       ·exact coreG_move _ _ _ _ _ _ _ (by rfl) (by rfl) (wants_none) (kc 1 65)
       ·exact coreG_held _ _ _ _ _ _ _ _ _ (by rfl) (by rfl) (wc 2 66 2 (kc 2 66)) (ko 1) (fun ρ w hx _ => fieldR2 _ _ _ _ _ _ ρ w gr hx)
       ·exact coreG_held _ _ _ _ _ _ _ _ _ (by rfl) (by rfl) (wc 2 66 2 (kc 2 66)) (kc 3 67) (fun ρ w hx hs => loadR2 _ _ _ _ _ _ ρ w gr _ _ _ _ _ _ _ _ _ hx (hs.2.1))
       ·exact coreG_move _ _ _ _ _ _ _ (by rfl) (by rfl) (wc 2 66 2 (kc 2 66)) (ko 7)
       ·exact coreG_bin _ _ _ _ _ _ _ _ _ _ _ _ _ (by rfl) (by rfl) (wc 2 66 2 (kc 2 66)) (kc 5 69) (known_const _) ((fun ρ w hx hy => by simp only [execOp, hx, hy]; simp [go_sem, HIJ.out, HJW.out]))
       ·exact coreG_held2 _ _ _ _ _ _ _ _ _ _ _ (by rfl) (by rfl) (wc 2 66 2 (kc 2 66)) (kc 4 68) (kc 6 70) (fun ρ w hx hy _ => idxR _ _ _ _ _ _ _ ρ w gs3 os3 j l cap HJL.out hx hy)
       ·exact coreG_held _ _ _ _ _ _ _ _ _ (by rfl) (by rfl) (wc 2 66 2 (kc 2 66)) (kc 7 71) (fun ρ w hx _ => fieldC0 _ _ _ _ _ _ ρ w gs3 _ hx)
       ·exact coreG_held _ _ _ _ _ _ _ _ _ (by rfl) (by rfl) (wc 2 66 2 (kc 2 66)) (kc 8 72) (fun ρ w hx hs => loadC0 _ _ _ _ _ _ ρ w gs3 _ q3 y3 _ hx (HC3.out _ hs.1))
       ·exact coreG_loadP _ _ _ _ _ _ gq _ _ _ _ (by rfl) (by rfl) (wc 2 66 2 (kc 2 66)) (ko 8) (fun _ hs => hs.2.2)
       ·exact core_pureAs _ (by rfl)
       ·exact coreG_bin _ _ _ _ _ _ _ _ _ _ _ _ _ (by rfl) (by rfl) (wc 2 66 2 (kc 2 66)) (kc 11 75) (known_const _) ((fun ρ w hx hy => by simp only [execOp, hx, hy]; simp [go_sem, HKL.out]))
       ·exact coreG_pick _ _ _ _ _ _ _ _ _ _ _ _ (by rfl) (by rfl) (wants_none) (kc 2 66) (kc 12 76) (known_const _) (by rfl)
       ·exact coreG_move _ _ _ _ _ _ _ (by rfl) (by rfl) (wants_none) (kc 13 77)
       ·exact coreG_skip _ _ _ _ _ _ (by rfl) (by rfl) (wc 14 78 14 (kc 14 78))
       ·exact coreG_skip _ _ _ _ _ _ (by rfl) (by rfl) (wc 14 78 14 (kc 14 78))
       ·exact coreG_skip _ _ _ _ _ _ (by rfl) (by rfl) (wc 14 78 14 (kc 14 78))
       ·exact coreG_skip _ _ _ _ _ _ (by rfl) (by rfl) (wc 14 78 14 (kc 14 78))
       ·exact coreG_skip _ _ _ _ _ _ (by rfl) (by rfl) (wc 14 78 14 (kc 14 78))
       ·exact coreG_skip _ _ _ _ _ _ (by rfl) (by rfl) (wc 14 78 14 (kc 14 78))
       ·exact coreG_skip _ _ _ _ _ _ (by rfl) (by rfl) (wc 14 78 14 (kc 14 78))
       ·exact coreG_pick _ _ _ _ _ _ _ _ _ _ _ _ (by rfl) (by rfl) (wants_none) (kc 14 78) (known_const _) (kc 21 85) (by rfl)
      ·(repeat (refine all_cons ?_ ?_; rotate_left)); exact all_nil
       ·exact sA
       ·exact sA
       ·exact sA
       ·exact sA
       ·exact sA
       ·exact sA
       ·exact sA
       ·exact sA
       ·exact sA
       ·exact sA
       ·exact sA
       ·exact fun _ => coreG_call _ 50 _ _ [.tmp 73, .tmp 74] _ _ _ _ _ _ _ (by rfl) Try.func50 (by kernel_rfl) (by rfl) (by rfl) (wc 2 66 2 (kc 2 66)) (.cons (kc 9 73) (.cons (kc 10 74) .nil)) (HK3.out)
       ·exact sA
       ·exact sA
       ·exact sA
       ·exact sA
       ·exact sA
       ·exact sA
       ·exact sA
       ·exact sA
       ·exact sA
       ·exact sA
       ·exact sA
      intro vs y8 hc
      obtain ⟨vv0, vv1, vv2, vv3, vv4, vv5, vv6, vv7, vv8, vv9, vv10, vv11, vv12, vv13, vv14, vv15, vv16, vv17, vv18, vv19, vv20, vv21, vv22, rfl⟩ := len23 vs hc.lv
      have qq0 := okv hc 0
      have qq1 := okv hc 1
      have qq2 := okv hc 2
      have qq3 := okv hc 3
      have qq4 := okv hc 4
      have qq5 := okv hc 5
      have qq6 := okv hc 6
      have qq7 := okv hc 7
      have qq8 := okv hc 8
      have qq9 := okv hc 9
      have qq10 := okv hc 10
      have qq11 := okv hc 11
      have qq12 := okv hc 12
      have qq13 := okv hc 13
      have qq14 := okv hc 14
      have qq15 := okv hc 15
      have qq16 := okv hc 16
      have qq17 := okv hc 17
      have qq18 := okv hc 18
      have qq19 := okv hc 19
      have qq20 := okv hc 20
      have qq21 := okv hc 21
      have qq22 := okv hc 22
      have BZ := hc.bel
      clear hc
      have Nr := Fr.out.on BZ
      have No := Fo.out.on BZ
      have Nm := Fm.out.on BZ
      have Nf := Ff.out.on BZ
      have Nq := Fq.out.on BZ
      have NB := bel_tr BW.out BZ
      clear BW BZ Fr Fo Fm Ff Fq
      subst qq0 qq1 qq2 qq3 qq4 qq5 qq6 qq7 qq8 qq9 qq10 qq11 qq12 qq13 qq14 qq15 qq16 qq17 qq18 qq19 qq20 qq21 qq22
      simp only [List.map_cons, List.map_nil, over, Act.put, List.setIfInBounds_toArray, List.set_cons_zero, List.set_cons_succ]
      refine wpAnyH_done (by kernel_rfl) ?_ _
      refine NoPanic.normal ?_
      have Fr := Lib.hid Nr
      have Fo := Lib.hid No
      have Fm := Lib.hid Nm
      have Ff := Lib.hid Nf
      have Fq := Lib.hid Nq
      have BW := Lib.hid NB
      clear NB Nr No Nm Nf Nq
      go_wp2
      go_ret
      exact ⟨by rw [HV3.out]; rfl, BW.out⟩
   ·have hlt2 : ¬ (i : Int) < (l : Int) := by omega
    have hii : l = i := by omega
    subst hii
    have hoks : Pr.oks ps = true := Pr.oks_iff.mpr fun q hq => by
     obtain ⟨j, hj, rfl⟩ := List.getElem_of_mem hq
     exact HJ.out j hj (by rw [← HL.out]; exact hj)
    have hfx : X = Pr.fprod (N - 1) qs := by rw [HX.out, ← HQL.out, List.take_length, HM.out]
    have hre : reachB N qs = decide (N < X * X) := by rw [reach_yes (by rw [HQL.out]; exact HU.out) (by rw [HQL.out, ← HM.out]; exact HD.out), ← hfx]
    have hvv : V = (decide (N < X * X) && witB N Y qs) := by rw [HV.out, ok_great_eq HNG.out, ← HPS.out, hoks, Bool.true_and, ← HNE.out, ← HYE.out, ← HQS.out, hre]
    have hq0 : ∀ p ∈ ps, p.n ≠ 0 := fun p hp => by have := (Pr.oks_pri ps hoks p hp).1; omega
    have hX : X < 2 ^ 256 := Nat.lt_of_le_of_lt HXM.out HMB.out
    obtain ⟨Lo, Hi, hLo, hHi, hm, _⟩ := mul_ex X X hX hX
    have CM := rmul_any X X Lo Hi hX hX hLo hHi hm
    have HCM := Lib.hid CM; have HVV := Lib.hid hvv; have HMU := Lib.hid hm; have HLO := Lib.hid hLo; have HQ0 := Lib.hid hq0
    have EQZ := Lib.hid (eqZ Hi hHi)
    have HLT0 := Lib.hid hlt2
    clear CM hvv hm hX hfx hre hoks hq0 hlt hi hLo hHi HX HU HD HJ HPF HXM HIH
    have Lr := Fr.out.lt
    have cr0 : wr.cell? ⟨gr, 0, none⟩ = some (.int .u64 (wd N 0 : Nat)) := Fr.out.cell 0
    have cr1 : wr.cell? ⟨gr, 1, none⟩ = some (.int .u64 (wd N 1 : Nat)) := Fr.out.cell 1
    have cr2 : wr.cell? ⟨gr, 2, none⟩ = some (.int .u64 (wd N 2 : Nat)) := Fr.out.cell 2
    have cr3 : wr.cell? ⟨gr, 3, none⟩ = some (.int .u64 (wd N 3 : Nat)) := Fr.out.cell 3
    have cr4 : wr.cell? ⟨gr, 4, none⟩ = some (.int .u64 (wd Y 0 : Nat)) := Fr.out.cell 4
    have cr5 : wr.cell? ⟨gr, 5, none⟩ = some (.int .u64 (wd Y 1 : Nat)) := Fr.out.cell 5
    have cr6 : wr.cell? ⟨gr, 6, none⟩ = some (.int .u64 (wd Y 2 : Nat)) := Fr.out.cell 6
    have cr7 : wr.cell? ⟨gr, 7, none⟩ = some (.int .u64 (wd Y 3 : Nat)) := Fr.out.cell 7
    have cr8 : wr.cell? ⟨gr, 8, none⟩ = some (.slice a l cap) := Fr.out.cell 8
    go_upto_region 16 with fail
    clear Lr cr0 cr1 cr2 cr3 cr4 cr5 cr6 cr7 cr8
    clear hlt2
    have Lf := Ff.out.lt
    have cf0 := Ff.out.c0
    have cf1 := Ff.out.c1
    have cf2 := Ff.out.c2
    have cf3 := Ff.out.c3
    go_wp2_with fail
    clear Lf cf0 cf1 cf2 cf3
    refine (HCM.out _).mono ?_
    rintro e v7 ⟨rfl, z7⟩
    have Nr := Lib.hid (Fr.out.on z7)
    have No := Lib.hid (Fo.out.on z7)
    have Nm := Lib.hid (Fm.out.on z7)
    have Nf := Lib.hid (Ff.out.on z7)
    have NB := Lib.hid (bel_tr BW.out z7)
    clear BW z7 Fr Fo Fm Ff
    have Fr := Nr
    have Fo := No
    have Fm := Nm
    have Ff := Nf
    have BW := NB
    clear NB Nr No Nm Nf
    go_upto_region 17 with fail
    have Dra : gr ≠ v7.heap.size := by have := Fr.out.lt; omega
    have Doa : go ≠ v7.heap.size := by have := Fo.out.lt; omega
    have Dma : gm ≠ v7.heap.size := by have := Fm.out.lt; omega
    have Dfa : gf ≠ v7.heap.size := by have := Ff.out.lt; omega
    have Drb : gr ≠ v7.heap.size + 1 := by have := Fr.out.lt; omega
    have Dob : go ≠ v7.heap.size + 1 := by have := Fo.out.lt; omega
    have Dmb : gm ≠ v7.heap.size + 1 := by have := Fm.out.lt; omega
    have Dfb : gf ≠ v7.heap.size + 1 := by have := Ff.out.lt; omega
    generalize hW8 : ((v7.alloc (.cells #[.int .u64 (wd Lo 0 : Nat), .int .u64 (wd Lo 1 : Nat), .int .u64 (wd Lo 2 : Nat), .int .u64 (wd Lo 3 : Nat)] 25)).alloc (.cells #[.int .u64 (wd Hi 0 : Nat), .int .u64 (wd Hi 1 : Nat), .int .u64 (wd Hi 2 : Nat), .int .u64 (wd Hi 3 : Nat)] 25)) = W8 at *
    have Na : At W8 (v7.heap.size) _ _ := at_of hW8 ((At.at_ _ _ _ _ (by simp)).alloc _)
    have Nb : At W8 (v7.heap.size + 1) _ _ := at_of hW8 (At.at_ _ _ _ _ (by simp))
    have Nr := at_of hW8 ((Fr.out.alloc _).alloc _)
    have No := at_of hW8 ((Fo.out.alloc _).alloc _)
    have Nm := at_of hW8 ((Fm.out.alloc _).alloc _)
    have Nf := at_of hW8 ((Ff.out.alloc _).alloc _)
    have NB := gr_of hW8 (gr_alloc (gr_alloc BW.out _) _)
    clear hW8 BW Fr Fo Fm Ff
    generalize v7.heap.size + 1 = gb at *
    generalize v7.heap.size = ga at *
    have Fr := Lib.hid Nr
    have Fo := Lib.hid No
    have Fm := Lib.hid Nm
    have Ff := Lib.hid Nf
    have Fa := Lib.hid Na
    have Fb := Lib.hid Nb
    have BW := Lib.hid NB
    clear NB Nr No Nm Nf Na Nb
    have eqz := EQZ.out
    by_cases hz : Hi = 0
    ·rw [decide_eq_true hz] at eqz
     have HK := Lib.hid (fun w => rcmp_any Lo N HLO.out HN.out w)
     have HXX := Lib.hid (show X * X = Lo by have := HMU.out; rw [hz] at this; omega)
     clear hz
     have Lb := Fb.out.lt
     have cb0 := Fb.out.c0
     have cb1 := Fb.out.c1
     have cb2 := Fb.out.c2
     have cb3 := Fb.out.c3
     have La := Fa.out.lt
     have ca0 := Fa.out.c0
     have ca1 := Fa.out.c1
     have ca2 := Fa.out.c2
     have ca3 := Fa.out.c3
     have Lr := Fr.out.lt
     have cr0 : W8.cell? ⟨gr, 0, none⟩ = some (.int .u64 (wd N 0 : Nat)) := Fr.out.cell 0
     have cr1 : W8.cell? ⟨gr, 1, none⟩ = some (.int .u64 (wd N 1 : Nat)) := Fr.out.cell 1
     have cr2 : W8.cell? ⟨gr, 2, none⟩ = some (.int .u64 (wd N 2 : Nat)) := Fr.out.cell 2
     have cr3 : W8.cell? ⟨gr, 3, none⟩ = some (.int .u64 (wd N 3 : Nat)) := Fr.out.cell 3
     have cr4 : W8.cell? ⟨gr, 4, none⟩ = some (.int .u64 (wd Y 0 : Nat)) := Fr.out.cell 4
     have cr5 : W8.cell? ⟨gr, 5, none⟩ = some (.int .u64 (wd Y 1 : Nat)) := Fr.out.cell 5
     have cr6 : W8.cell? ⟨gr, 6, none⟩ = some (.int .u64 (wd Y 2 : Nat)) := Fr.out.cell 6
     have cr7 : W8.cell? ⟨gr, 7, none⟩ = some (.int .u64 (wd Y 3 : Nat)) := Fr.out.cell 7
     have cr8 : W8.cell? ⟨gr, 8, none⟩ = some (.slice a l cap) := Fr.out.cell 8
     go_wp2_with fail
     clear Lb cb0 cb1 cb2 cb3 La ca0 ca1 ca2 ca3 Lr cr0 cr1 cr2 cr3 cr4 cr5 cr6 cr7 cr8
     clear eqz
     by_cases hk : N < Lo
     ·have hk2 := cmpN_pos0 hk
      have HW := Lib.hid (show V = witB N Y qs by rw [HVV.out, HXX.out, decide_eq_true hk, Bool.true_and])
      clear hk
      generalize cmpN Lo N = k0 at *
      refine (HK.out _).mono ?_
      rintro e v9 ⟨rfl, z9⟩
      have Nr := Lib.hid (Fr.out.on z9)
      have No := Lib.hid (Fo.out.on z9)
      have Nm := Lib.hid (Fm.out.on z9)
      have Nf := Lib.hid (Ff.out.on z9)
      have Na := Lib.hid (Fa.out.on z9)
      have Nb := Lib.hid (Fb.out.on z9)
      have NB := Lib.hid (bel_tr BW.out z9)
      clear BW z9 Fr Fo Fm Ff Fa Fb
      have Fr := Nr
      have Fo := No
      have Fm := Nm
      have Ff := Nf
      have Fa := Na
      have Fb := Nb
      have BW := NB
      clear NB Nr No Nm Nf Na Nb
      have HK1 := Lib.hid (fun w => rcmp_any Y 1 HY.out (by decide) w)
      have HK2 := Lib.hid (fun w => rcmp_any Y N HY.out HN.out w)
      go_upto_region 19 with fail
      have Lr := Fr.out.lt
      have cr0 : v9.cell? ⟨gr, 0, none⟩ = some (.int .u64 (wd N 0 : Nat)) := Fr.out.cell 0
      have cr1 : v9.cell? ⟨gr, 1, none⟩ = some (.int .u64 (wd N 1 : Nat)) := Fr.out.cell 1
      have cr2 : v9.cell? ⟨gr, 2, none⟩ = some (.int .u64 (wd N 2 : Nat)) := Fr.out.cell 2
      have cr3 : v9.cell? ⟨gr, 3, none⟩ = some (.int .u64 (wd N 3 : Nat)) := Fr.out.cell 3
      have cr4 : v9.cell? ⟨gr, 4, none⟩ = some (.int .u64 (wd Y 0 : Nat)) := Fr.out.cell 4
      have cr5 : v9.cell? ⟨gr, 5, none⟩ = some (.int .u64 (wd Y 1 : Nat)) := Fr.out.cell 5
      have cr6 : v9.cell? ⟨gr, 6, none⟩ = some (.int .u64 (wd Y 2 : Nat)) := Fr.out.cell 6
      have cr7 : v9.cell? ⟨gr, 7, none⟩ = some (.int .u64 (wd Y 3 : Nat)) := Fr.out.cell 7
      have cr8 : v9.cell? ⟨gr, 8, none⟩ = some (.slice a l cap) := Fr.out.cell 8
      have Lo := Fo.out.lt
      have co0 := Fo.out.c0
      have co1 := Fo.out.c1
      have co2 := Fo.out.c2
      have co3 := Fo.out.c3
      by_cases h1 : 1 < Y
      ·have hk := cmpN_pos0 h1
       have HK := Lib.hid HK1.out
       have HH1 := Lib.hid h1; clear h1 HK1
       generalize cmpN Y 1 = k at *
       go_wp2_with fail
       clear Lr cr0 cr1 cr2 cr3 cr4 cr5 cr6 cr7 cr8 Lo co0 co1 co2 co3
       refine (HK.out _).mono ?_
       rintro e v10 ⟨rfl, z10⟩
       have Nr := Lib.hid (Fr.out.on z10)
       have No := Lib.hid (Fo.out.on z10)
       have Nm := Lib.hid (Fm.out.on z10)
       have Nf := Lib.hid (Ff.out.on z10)
       have Na := Lib.hid (Fa.out.on z10)
       have Nb := Lib.hid (Fb.out.on z10)
       have NB := Lib.hid (bel_tr BW.out z10)
       clear BW z10 Fr Fo Fm Ff Fa Fb
       have Fr := Nr
       have Fo := No
       have Fm := Nm
       have Ff := Nf
       have Fa := Na
       have Fb := Nb
       have BW := NB
       clear NB Nr No Nm Nf Na Nb
       have Lr := Fr.out.lt
       have cr0 : v10.cell? ⟨gr, 0, none⟩ = some (.int .u64 (wd N 0 : Nat)) := Fr.out.cell 0
       have cr1 : v10.cell? ⟨gr, 1, none⟩ = some (.int .u64 (wd N 1 : Nat)) := Fr.out.cell 1
       have cr2 : v10.cell? ⟨gr, 2, none⟩ = some (.int .u64 (wd N 2 : Nat)) := Fr.out.cell 2
       have cr3 : v10.cell? ⟨gr, 3, none⟩ = some (.int .u64 (wd N 3 : Nat)) := Fr.out.cell 3
       have cr4 : v10.cell? ⟨gr, 4, none⟩ = some (.int .u64 (wd Y 0 : Nat)) := Fr.out.cell 4
       have cr5 : v10.cell? ⟨gr, 5, none⟩ = some (.int .u64 (wd Y 1 : Nat)) := Fr.out.cell 5
       have cr6 : v10.cell? ⟨gr, 6, none⟩ = some (.int .u64 (wd Y 2 : Nat)) := Fr.out.cell 6
       have cr7 : v10.cell? ⟨gr, 7, none⟩ = some (.int .u64 (wd Y 3 : Nat)) := Fr.out.cell 7
       have cr8 : v10.cell? ⟨gr, 8, none⟩ = some (.slice a l cap) := Fr.out.cell 8
       go_wp2_with fail
       clear Lr cr0 cr1 cr2 cr3 cr4 cr5 cr6 cr7 cr8
       by_cases h2 : Y < N
       ·have hk2 := cmpN_lt0 h2
        have HKK := Lib.hid HK2.out
        have HH2 := Lib.hid h2
        have HEX := Lib.hid (fun e (he : e < 2 ^ 256) => re_yes Y e N HN.out he HN1.out h2)
        clear h2 HK2
        generalize cmpN Y N = k2 at *
        refine (HKK.out _).mono ?_
        rintro e v11 ⟨rfl, z11⟩
        have Nr := Lib.hid (Fr.out.on z11)
        have No := Lib.hid (Fo.out.on z11)
        have Nm := Lib.hid (Fm.out.on z11)
        have Nf := Lib.hid (Ff.out.on z11)
        have Na := Lib.hid (Fa.out.on z11)
        have Nb := Lib.hid (Fb.out.on z11)
        have NB := Lib.hid (bel_tr BW.out z11)
        clear BW z11 Fr Fo Fm Ff Fa Fb
        have Fr := Nr
        have Fo := No
        have Fm := Nm
        have Ff := Nf
        have Fa := Na
        have Fb := Nb
        have BW := NB
        clear NB Nr No Nm Nf Na Nb
        go_upto_region 21 with fail
        clear hk hk2
        have Lr := Fr.out.lt
        have cr0 : v11.cell? ⟨gr, 0, none⟩ = some (.int .u64 (wd N 0 : Nat)) := Fr.out.cell 0
        have cr1 : v11.cell? ⟨gr, 1, none⟩ = some (.int .u64 (wd N 1 : Nat)) := Fr.out.cell 1
        have cr2 : v11.cell? ⟨gr, 2, none⟩ = some (.int .u64 (wd N 2 : Nat)) := Fr.out.cell 2
        have cr3 : v11.cell? ⟨gr, 3, none⟩ = some (.int .u64 (wd N 3 : Nat)) := Fr.out.cell 3
        have cr4 : v11.cell? ⟨gr, 4, none⟩ = some (.int .u64 (wd Y 0 : Nat)) := Fr.out.cell 4
        have cr5 : v11.cell? ⟨gr, 5, none⟩ = some (.int .u64 (wd Y 1 : Nat)) := Fr.out.cell 5
        have cr6 : v11.cell? ⟨gr, 6, none⟩ = some (.int .u64 (wd Y 2 : Nat)) := Fr.out.cell 6
        have cr7 : v11.cell? ⟨gr, 7, none⟩ = some (.int .u64 (wd Y 3 : Nat)) := Fr.out.cell 7
        have cr8 : v11.cell? ⟨gr, 8, none⟩ = some (.slice a l cap) := Fr.out.cell 8
        have Lm := Fm.out.lt
        have cm0 := Fm.out.c0
        have cm1 := Fm.out.c1
        have cm2 := Fm.out.c2
        have cm3 := Fm.out.c3
        go_wp2_with fail
        clear Lr cr0 cr1 cr2 cr3 cr4 cr5 cr6 cr7 cr8 Lm cm0 cm1 cm2 cm3
        obtain ⟨E, hE⟩ : ∃ E, E = Y ^ M % N := ⟨_, rfl⟩
        have CE := HEX.out M HMB.out
        rw [← hE] at CE
        have HCE := Lib.hid CE; have HE := Lib.hid hE
        clear CE hE
        refine (HCE.out _).mono ?_
        rintro e v12 ⟨rfl, z12⟩
        have Nr := Lib.hid (Fr.out.on z12)
        have No := Lib.hid (Fo.out.on z12)
        have Nm := Lib.hid (Fm.out.on z12)
        have Nf := Lib.hid (Ff.out.on z12)
        have Na := Lib.hid (Fa.out.on z12)
        have Nb := Lib.hid (Fb.out.on z12)
        have NB := Lib.hid (bel_tr BW.out z12)
        clear BW z12 Fr Fo Fm Ff Fa Fb
        have Fr := Nr
        have Fo := No
        have Fm := Nm
        have Ff := Nf
        have Fa := Na
        have Fb := Nb
        have BW := NB
        clear NB Nr No Nm Nf Na Nb
        go_upto_region 22 with fail
        have Drx : gr ≠ v12.heap.size := by have := Fr.out.lt; omega
        have Dox : go ≠ v12.heap.size := by have := Fo.out.lt; omega
        have Dmx : gm ≠ v12.heap.size := by have := Fm.out.lt; omega
        have Dfx : gf ≠ v12.heap.size := by have := Ff.out.lt; omega
        generalize hW13 : (v12.alloc (.cells #[.int .u64 (wd E 0 : Nat), .int .u64 (wd E 1 : Nat), .int .u64 (wd E 2 : Nat), .int .u64 (wd E 3 : Nat)] 25)) = W13 at *
        have Nx : At W13 (v12.heap.size) _ _ := at_of hW13 (At.at_ _ _ _ _ (by simp))
        have Nr := at_of hW13 (Fr.out.alloc _)
        have No := at_of hW13 (Fo.out.alloc _)
        have Nm := at_of hW13 (Fm.out.alloc _)
        have Nf := at_of hW13 (Ff.out.alloc _)
        have Na := at_of hW13 (Fa.out.alloc _)
        have Nb := at_of hW13 (Fb.out.alloc _)
        have NB := gr_of hW13 (gr_alloc BW.out _)
        clear hW13 BW Fr Fo Fm Ff Fa Fb
        generalize v12.heap.size = gx at *
        have Fr := Lib.hid Nr
        have Fo := Lib.hid No
        have Fm := Lib.hid Nm
        have Ff := Lib.hid Nf
        have Fa := Lib.hid Na
        have Fb := Lib.hid Nb
        have Fx := Lib.hid Nx
        have BW := Lib.hid NB
        clear NB Nr No Nm Nf Na Nb Nx
        have eqx := eqN E 1 (by rw [HE.out]; exact Nat.lt_trans (Nat.mod_lt _ (by have := HN1.out; omega)) HN.out) (by decide)
        by_cases h3 : E = 1
        ·rw [decide_eq_true h3] at eqx
         have HH3 := Lib.hid h3; clear h3
         have Lx := Fx.out.lt
         have cx0 := Fx.out.c0
         have cx1 := Fx.out.c1
         have cx2 := Fx.out.c2
         have cx3 := Fx.out.c3
         have Lo := Fo.out.lt
         have co0 := Fo.out.c0
         have co1 := Fo.out.c1
         have co2 := Fo.out.c2
         have co3 := Fo.out.c3
         go_upto_region 24 with fail
         clear Lx cx0 cx1 cx2 cx3 Lo co0 co1 co2 co3
         clear eqx
         go_wp2_with fail
         go_loopw [16] (fun s wr => ∃ i : Nat, i ≤ l ∧ s = .int .i64 (i : Nat) ∧ Hid (At wr gr 28 #[.int .u64 (wd N 0 : Nat), .int .u64 (wd N 1 : Nat), .int .u64 (wd N 2 : Nat), .int .u64 (wd N 3 : Nat), .int .u64 (wd Y 0 : Nat), .int .u64 (wd Y 1 : Nat), .int .u64 (wd Y 2 : Nat), .int .u64 (wd Y 3 : Nat), .slice a l cap] ∧ At wr go 25 #[.int .u64 (wd 1 0 : Nat), .int .u64 (wd 1 1 : Nat), .int .u64 (wd 1 2 : Nat), .int .u64 (wd 1 3 : Nat)] ∧ At wr gm 25 #[.int .u64 (wd M 0 : Nat), .int .u64 (wd M 1 : Nat), .int .u64 (wd M 2 : Nat), .int .u64 (wd M 3 : Nat)] ∧ Below w.heap.size w wr ∧ (∀ j (hj : j < ps.length), j < i → witQ N Y (ps[j]).n = true))) (fun s _ => l - (intOf s).toNat)
         case atStart => exact ⟨0, by omega, rfl, Fr.out, Fo.out, Fm.out, BW.out, fun j _ h => absurd h (Nat.not_lt_zero _)⟩
         case round =>
          obtain ⟨i, hi, rfl, hM⟩ := hrel
          clear BW Fr Fo Fm Ff Fa Fb Fx
          have Fr := Lib.hid hM.out.1
          have Fo := Lib.hid hM.out.2.1
          have Fm := Lib.hid hM.out.2.2.1
          have BW := Lib.hid hM.out.2.2.2.1
          have HJ := Lib.hid hM.out.2.2.2.2
          clear hM
          by_cases hlt : i < l
          ·have hlt2 : (i : Int) < (l : Int) := by omega
           have hil : i < ps.length := by rw [HL.out]; exact hlt
           obtain ⟨gs, os, a2, cap2, q, y2, l2, ha, hq1, hq2, hq3, hqb, hyb, hs2, hc9⟩ := HS.out.c9 hil
           have hq0 : q ≠ 0 := by rw [← hq1]; exact HQ0.out _ (List.getElem_mem hil)
           have CD := fun w => rdiv_any M q HMB.out hqb hq0 w
           obtain ⟨D, hD⟩ : ∃ D, D = M / q := ⟨_, rfl⟩
           obtain ⟨u, hu⟩ : ∃ u, u = M % q := ⟨_, rfl⟩
           rw [← hD, ← hu] at CD
           have CE2 := HEX.out D (by rw [hD]; exact Nat.lt_of_le_of_lt (Nat.div_le_self _ _) HMB.out)
           obtain ⟨X2, hX2⟩ : ∃ X2, X2 = Y ^ D % N := ⟨_, rfl⟩
           have hN1 := HN1.out
           have hX2N : X2 < N := by rw [hX2]; exact Nat.mod_lt _ (by omega)
           have CS2 := rs_yes X2 1 N HN.out hN1 hX2N hN1
           obtain ⟨Z, hZ⟩ : ∃ Z, Z = (X2 + N - 1) % N := ⟨_, rfl⟩
           rw [← hX2] at CE2
           rw [← hZ] at CS2
           have hZN : Z < N := by rw [hZ]; exact Nat.mod_lt _ (by omega)
           have CC := fun w => rcommon_any (fun X Y hX hY h0 => ⟨X / Y, X % Y, Nat.mod_lt _ (by omega), by rw [Nat.mul_comm]; exact (Nat.div_add_mod X Y).symm, fun w => rdiv_any X Y hX hY h0 w⟩) Z N (Nat.lt_trans hZN HN.out) HN.out w
           obtain ⟨G, hG⟩ : ∃ G, G = Nat.gcd Z N := ⟨_, rfl⟩
           rw [← hG] at CC
           have hGN : G < 2 ^ 256 := Nat.lt_of_le_of_lt (by rw [hG]; exact Nat.gcd_le_right _ (by omega)) HN.out
           have hWQ : witQ N Y q = decide (G = 1) := by rw [hG, hZ, hX2, hD, HM.out]; rfl
           have HCD := Lib.hid CD; have HCE2 := Lib.hid CE2; have HCS2 := Lib.hid CS2; have HCC := Lib.hid CC; have HWQ := Lib.hid hWQ; have HIL := Lib.hid (show ∃ h : i < ps.length, (ps[i]).n = q from ⟨hil, hq1⟩); have HLT := Lib.hid hlt; have HEG := Lib.hid (eqN G 1 hGN (by decide)); have HC := Lib.hid hc9
           have HIW := Lib.hid (show (i : Int) + 1 ≤ 9223372036854775807 by have := HLC.out; omega)
           subst ha
           clear CD CE2 CS2 CC hWQ hlt hGN hG hZN hZ hX2N hX2 hN1 hD hu hq0 hs2 hyb hqb hq3 hq2 hq1 hil hc9
           have Lr := Fr.out.lt
           have cr0 : wr.cell? ⟨gr, 0, none⟩ = some (.int .u64 (wd N 0 : Nat)) := Fr.out.cell 0
           have cr1 : wr.cell? ⟨gr, 1, none⟩ = some (.int .u64 (wd N 1 : Nat)) := Fr.out.cell 1
           have cr2 : wr.cell? ⟨gr, 2, none⟩ = some (.int .u64 (wd N 2 : Nat)) := Fr.out.cell 2
           have cr3 : wr.cell? ⟨gr, 3, none⟩ = some (.int .u64 (wd N 3 : Nat)) := Fr.out.cell 3
           have cr4 : wr.cell? ⟨gr, 4, none⟩ = some (.int .u64 (wd Y 0 : Nat)) := Fr.out.cell 4
           have cr5 : wr.cell? ⟨gr, 5, none⟩ = some (.int .u64 (wd Y 1 : Nat)) := Fr.out.cell 5
           have cr6 : wr.cell? ⟨gr, 6, none⟩ = some (.int .u64 (wd Y 2 : Nat)) := Fr.out.cell 6
           have cr7 : wr.cell? ⟨gr, 7, none⟩ = some (.int .u64 (wd Y 3 : Nat)) := Fr.out.cell 7
           have cr8 : wr.cell? ⟨gr, 8, none⟩ = some (.slice (some ⟨gs, os, none⟩) l cap) := Fr.out.cell 8
           go_upto_region 27 with fail
           clear Lr cr0 cr1 cr2 cr3 cr4 cr5 cr6 cr7 cr8
           clear hlt2
           try simp only [List.append_eq, List.cons_append, List.nil_append]
           refine wp_region_noPanic ?_
           refine wp_region_held_drew (S := fun w' => At w' gr 28 #[.int .u64 (wd N 0 : Nat), .int .u64 (wd N 1 : Nat), .int .u64 (wd N 2 : Nat), .int .u64 (wd N 3 : Nat), .int .u64 (wd Y 0 : Nat), .int .u64 (wd Y 1 : Nat), .int .u64 (wd Y 2 : Nat), .int .u64 (wd Y 3 : Nat), .slice (some ⟨gs, os, none⟩) l cap] ∧ Below w.heap.size w w') (by kernel_rfl) (⟨Fr.out.drew, BW.out.drew⟩) (fun _ => ?_)
           refine wpAnyH_cores (fuel := 3) (⟨0, 154, [], Kind.val (.agg #[.int .u64 (wd M 0 : Nat), .int .u64 (wd M 1 : Nat), .int .u64 (wd M 2 : Nat), .int .u64 (wd M 3 : Nat)]), false⟩ :: ⟨1, 155, [], Kind.val (.pointer (some ⟨gr, 8, none⟩)), true⟩ :: ⟨2, 156, [1], Kind.val (.slice (some ⟨gs, os, none⟩) l cap), true⟩ :: ⟨3, 157, [], Kind.val (.int .i64 (i : Nat)), true⟩ :: ⟨4, 158, [2, 3], Kind.val (.pointer (some ⟨gs, os + i * 9, none⟩)), true⟩ :: ⟨5, 159, [4], Kind.val (.pointer (some ⟨gs, os + i * 9, none⟩)), true⟩ :: ⟨6, 160, [5], Kind.val (.agg #[.int .u64 (wd q 0 : Nat), .int .u64 (wd q 1 : Nat), .int .u64 (wd q 2 : Nat), .int .u64 (wd q 3 : Nat)]), true⟩ :: ⟨7, 161, [0, 6], Kind.val (.tuple #[.agg #[.int .u64 (wd D 0 : Nat), .int .u64 (wd D 1 : Nat), .int .u64 (wd D 2 : Nat), .int .u64 (wd D 3 : Nat)], .agg #[.int .u64 (wd u 0 : Nat), .int .u64 (wd u 1 : Nat), .int .u64 (wd u 2 : Nat), .int .u64 (wd u 3 : Nat)], .int .i64 0]), false⟩ :: ⟨8, 153, [7], Kind.val (.tuple #[.agg #[.int .u64 (wd D 0 : Nat), .int .u64 (wd D 1 : Nat), .int .u64 (wd D 2 : Nat), .int .u64 (wd D 3 : Nat)], .agg #[.int .u64 (wd u 0 : Nat), .int .u64 (wd u 1 : Nat), .int .u64 (wd u 2 : Nat), .int .u64 (wd u 3 : Nat)], .int .i64 0]), true⟩ :: ⟨9, 162, [8], Kind.val (.agg #[.int .u64 (wd D 0 : Nat), .int .u64 (wd D 1 : Nat), .int .u64 (wd D 2 : Nat), .int .u64 (wd D 3 : Nat)]), true⟩ :: ⟨10, 163, [8], Kind.val (.agg #[.int .u64 (wd u 0 : Nat), .int .u64 (wd u 1 : Nat), .int .u64 (wd u 2 : Nat), .int .u64 (wd u 3 : Nat)]), true⟩ :: ⟨11, 164, [8], Kind.val (.int .i64 0), true⟩ :: ⟨12, 17, [], Kind.cell wr.heap.size 25 #[.int .u64 0, .int .u64 0, .int .u64 0, .int .u64 0], false⟩ :: ⟨13, 18, [], Kind.cell wr.heap.size 25 #[.int .u64 0, .int .u64 0, .int .u64 0, .int .u64 0], false⟩ :: []) _ _ wr _ ?_ ?_ ?_ ?_ ?_ ?_ ?_ ?_ ?_ ?_ ?_
           ·rfl
           ·kernel_rfl
           ·exact of_decide_eq_true rfl
           ·(repeat refine all_cons ⟨_, rfl, rfl⟩ ?_); exact all_nil
           ·exact fun _ hb => ⟨Fr.out.on hb, bel_tr BW.out hb⟩
           ·exact (Below.refl _ _).drew
           ·kernel_rfl
           ·exact fun _ _ _ _ _ h => h
           ·(repeat (refine all_cons ?_ ?_; rotate_left)); exact all_nil
            ·exact core_pureAs _ (by rfl)
            ·exact core_held _ _ _ _ _ _ _ _ (by rfl) (by rfl) (ko 1) (fun ρ w hx _ => fieldR2 _ _ _ _ _ _ ρ w gr hx)
            ·exact core_held _ _ _ _ _ _ _ _ (by rfl) (by rfl) (kc 1 155) (fun ρ w hx hs => loadR2 _ _ _ _ _ _ ρ w gr _ _ _ _ _ _ _ _ _ hx hs.1)
            ·exact core_move _ _ _ _ _ _ (by rfl) (by rfl) (ko 16)
            ·exact core_held2 _ _ _ _ _ _ _ _ _ _ (by rfl) (by rfl) (kc 2 156) (kc 3 157) (fun ρ w hx hy _ => idxR _ _ _ _ _ _ _ ρ w gs os i l cap HLT.out hx hy)
            ·exact core_held _ _ _ _ _ _ _ _ (by rfl) (by rfl) (kc 4 158) (fun ρ w hx _ => fieldC0 _ _ _ _ _ _ ρ w gs _ hx)
            ·exact core_held _ _ _ _ _ _ _ _ (by rfl) (by rfl) (kc 5 159) (fun ρ w hx hs => loadC0 _ _ _ _ _ _ ρ w gs _ q y2 _ hx (HC.out _ hs.2))
            ·exact core_pureAs _ (by rfl)
            ·exact core_move _ _ _ _ _ _ (by rfl) (by rfl) (kc 7 161)
            ·exact core_extract _ _ 0 _ _ _ _ _ (by rfl) (by rfl) (kc 8 153) (by rfl)
            ·exact core_extract _ _ 1 _ _ _ _ _ (by rfl) (by rfl) (kc 8 153) (by rfl)
            ·exact core_extract _ _ 2 _ _ _ _ _ (by rfl) (by rfl) (kc 8 153) (by rfl)
            ·exact core_pureAs _ (by rfl)
            ·exact core_pureAs _ (by rfl)
           ·(repeat (refine all_cons ?_ ?_; rotate_left)); exact all_nil
            ·exact fun _ => core_load _ _ _ _ _ gm _ _ _ _ (by rfl) (by rfl) (ko 4) Fm.out
            ·exact sA
            ·exact sA
            ·exact sA
            ·exact sA
            ·exact sA
            ·exact sA
            ·exact fun _ => core_call _ 51 _ _ [.tmp 154, .tmp 160] _ _ _ _ _ _ (by rfl) Try.func51 (by kernel_rfl) (by rfl) (by rfl) (.cons (kc 0 154) (.cons (kc 6 160) .nil)) (HCD.out)
            ·exact sA
            ·exact sA
            ·exact sA
            ·exact sA
            ·exact fun _ => core_alloc _ _ _ _ _ (by rfl) (by rfl) (Nat.le_refl _)
            ·exact fun _ => core_alloc _ _ _ _ _ (by rfl) (by rfl) (Nat.le_refl _)
           intro vs y14 hc
           obtain ⟨vv0, vv1, vv2, vv3, vv4, vv5, vv6, vv7, vv8, vv9, vv10, vv11, vv12, vv13, rfl⟩ := len14 vs hc.lv
           have qq0 := okv hc 0
           have qq1 := okv hc 1
           have qq2 := okv hc 2
           have qq3 := okv hc 3
           have qq4 := okv hc 4
           have qq5 := okv hc 5
           have qq6 := okv hc 6
           have qq7 := okv hc 7
           have qq8 := okv hc 8
           have qq9 := okv hc 9
           have qq10 := okv hc 10
           have qq11 := okv hc 11
           obtain ⟨xx, hx, gd, hv, Ed, Ad⟩ := hc.ok 12 _ rfl rfl
           have qq12 : vv12 = .pointer (some ⟨gd, 0, none⟩) := (Option.some.inj (show some vv12 = some xx from hx)).trans hv
           clear hx hv
           obtain ⟨xx, hx, gu, hv, Eu, Au⟩ := hc.ok 13 _ rfl rfl
           have qq13 : vv13 = .pointer (some ⟨gu, 0, none⟩) := (Option.some.inj (show some vv13 = some xx from hx)).trans hv
           clear hx hv
           have Ddu : gd ≠ gu := fun e => hc.far 12 13 _ _ rfl rfl rfl rfl (by decide) rfl rfl (by show some vv12 = some vv13; rw [qq12, qq13, e])
           have BZ := hc.bel
           clear hc
           have Nr := Fr.out.on BZ
           have No := Fo.out.on BZ
           have Nm := Fm.out.on BZ
           have Drd : gr ≠ gd := by have := Fr.out.lt; omega
           have Dod : go ≠ gd := by have := Fo.out.lt; omega
           have Dmd : gm ≠ gd := by have := Fm.out.lt; omega
           have Dru : gr ≠ gu := by have := Fr.out.lt; omega
           have Dou : go ≠ gu := by have := Fo.out.lt; omega
           have Dmu : gm ≠ gu := by have := Fm.out.lt; omega
           have HSZ14 := BW.out.size
           have NB := bel_tr BW.out BZ
           clear BW BZ Fr Fo Fm
           subst qq0 qq1 qq2 qq3 qq4 qq5 qq6 qq7 qq8 qq9 qq10 qq11 qq12 qq13
           simp only [List.map_cons, List.map_nil, over, Act.put, List.setIfInBounds_toArray, List.set_cons_zero, List.set_cons_succ]
           have OLD := Ad
           replace Nr := put4_far Nr Drd (.int .u64 (wd D 0 : Nat)) (.int .u64 (wd D 1 : Nat)) (.int .u64 (wd D 2 : Nat)) (.int .u64 (wd D 3 : Nat))
           replace No := put4_far No Dod (.int .u64 (wd D 0 : Nat)) (.int .u64 (wd D 1 : Nat)) (.int .u64 (wd D 2 : Nat)) (.int .u64 (wd D 3 : Nat))
           replace Nm := put4_far Nm Dmd (.int .u64 (wd D 0 : Nat)) (.int .u64 (wd D 1 : Nat)) (.int .u64 (wd D 2 : Nat)) (.int .u64 (wd D 3 : Nat))
           replace Ad := put4_at Ad (.int .u64 (wd D 0 : Nat)) (.int .u64 (wd D 1 : Nat)) (.int .u64 (wd D 2 : Nat)) (.int .u64 (wd D 3 : Nat))
           replace Au := put4_far Au Ddu.symm (.int .u64 (wd D 0 : Nat)) (.int .u64 (wd D 1 : Nat)) (.int .u64 (wd D 2 : Nat)) (.int .u64 (wd D 3 : Nat))
           replace NB := put4_below NB (Nat.le_trans HSZ14 Ed) (.int .u64 (wd D 0 : Nat)) (.int .u64 (wd D 1 : Nat)) (.int .u64 (wd D 2 : Nat)) (.int .u64 (wd D 3 : Nat))
           refine store_one (i := 14) _ _ _ _ _ gd _ _ _ _ _ _ _ _ (by kernel_rfl) (by rfl) (by rfl) (by rfl) OLD (⟨Nr, NB⟩) ?_
           clear OLD
           generalize (put4 y14 gd (.int .u64 (wd D 0 : Nat)) (.int .u64 (wd D 1 : Nat)) (.int .u64 (wd D 2 : Nat)) (.int .u64 (wd D 3 : Nat))) = y14_14 at *
           have OLD := Au
           replace Nr := put4_far Nr Dru (.int .u64 (wd u 0 : Nat)) (.int .u64 (wd u 1 : Nat)) (.int .u64 (wd u 2 : Nat)) (.int .u64 (wd u 3 : Nat))
           replace No := put4_far No Dou (.int .u64 (wd u 0 : Nat)) (.int .u64 (wd u 1 : Nat)) (.int .u64 (wd u 2 : Nat)) (.int .u64 (wd u 3 : Nat))
           replace Nm := put4_far Nm Dmu (.int .u64 (wd u 0 : Nat)) (.int .u64 (wd u 1 : Nat)) (.int .u64 (wd u 2 : Nat)) (.int .u64 (wd u 3 : Nat))
           replace Ad := put4_far Ad Ddu (.int .u64 (wd u 0 : Nat)) (.int .u64 (wd u 1 : Nat)) (.int .u64 (wd u 2 : Nat)) (.int .u64 (wd u 3 : Nat))
           replace Au := put4_at Au (.int .u64 (wd u 0 : Nat)) (.int .u64 (wd u 1 : Nat)) (.int .u64 (wd u 2 : Nat)) (.int .u64 (wd u 3 : Nat))
           replace NB := put4_below NB (Nat.le_trans HSZ14 Eu) (.int .u64 (wd u 0 : Nat)) (.int .u64 (wd u 1 : Nat)) (.int .u64 (wd u 2 : Nat)) (.int .u64 (wd u 3 : Nat))
           refine store_one (i := 15) _ _ _ _ _ gu _ _ _ _ _ _ _ _ (by kernel_rfl) (by rfl) (by rfl) (by rfl) OLD (⟨Nr, NB⟩) ?_
           clear OLD
           generalize (put4 y14_14 gu (.int .u64 (wd u 0 : Nat)) (.int .u64 (wd u 1 : Nat)) (.int .u64 (wd u 2 : Nat)) (.int .u64 (wd u 3 : Nat))) = y14_15 at *
           refine assign_one (i := 16) _ 19 _ _ _ (.int .i64 0) (by kernel_rfl) (by rfl) (by rfl) (⟨Nr, NB⟩) ?_
           try simp only [Act.put, List.setIfInBounds_toArray, List.set_cons_zero, List.set_cons_succ]
           refine wpAnyH_done (by kernel_rfl) ?_ _
           refine NoPanic.normal ?_
           have Fr := Lib.hid Nr
           have Fo := Lib.hid No
           have Fm := Lib.hid Nm
           have Fd := Lib.hid Ad
           have Fu := Lib.hid Au
           have BW := Lib.hid NB
           clear NB Nr No Nm Ad Au
           clear Ed
           clear Eu
           clear HSZ14
           have Lr := Fr.out.lt
           have cr0 : y14_15.cell? ⟨gr, 0, none⟩ = some (.int .u64 (wd N 0 : Nat)) := Fr.out.cell 0
           have cr1 : y14_15.cell? ⟨gr, 1, none⟩ = some (.int .u64 (wd N 1 : Nat)) := Fr.out.cell 1
           have cr2 : y14_15.cell? ⟨gr, 2, none⟩ = some (.int .u64 (wd N 2 : Nat)) := Fr.out.cell 2
           have cr3 : y14_15.cell? ⟨gr, 3, none⟩ = some (.int .u64 (wd N 3 : Nat)) := Fr.out.cell 3
           have cr4 : y14_15.cell? ⟨gr, 4, none⟩ = some (.int .u64 (wd Y 0 : Nat)) := Fr.out.cell 4
           have cr5 : y14_15.cell? ⟨gr, 5, none⟩ = some (.int .u64 (wd Y 1 : Nat)) := Fr.out.cell 5
           have cr6 : y14_15.cell? ⟨gr, 6, none⟩ = some (.int .u64 (wd Y 2 : Nat)) := Fr.out.cell 6
           have cr7 : y14_15.cell? ⟨gr, 7, none⟩ = some (.int .u64 (wd Y 3 : Nat)) := Fr.out.cell 7
           have cr8 : y14_15.cell? ⟨gr, 8, none⟩ = some (.slice (some ⟨gs, os, none⟩) l cap) := Fr.out.cell 8
           have Ld := Fd.out.lt
           have cd0 := Fd.out.c0
           have cd1 := Fd.out.c1
           have cd2 := Fd.out.c2
           have cd3 := Fd.out.c3
           go_wp2_with fail
           clear Lr cr0 cr1 cr2 cr3 cr4 cr5 cr6 cr7 cr8 Ld cd0 cd1 cd2 cd3
           refine (HCE2.out _).mono ?_
           rintro e v15 ⟨rfl, z15⟩
           have Nr := Lib.hid (Fr.out.on z15)
           have No := Lib.hid (Fo.out.on z15)
           have Nm := Lib.hid (Fm.out.on z15)
           have Nd := Lib.hid (Fd.out.on z15)
           have Nu := Lib.hid (Fu.out.on z15)
           have NB := Lib.hid (bel_tr BW.out z15)
           clear BW z15 Fr Fo Fm Fd Fu
           have Fr := Nr
           have Fo := No
           have Fm := Nm
           have Fd := Nd
           have Fu := Nu
           have BW := NB
           clear NB Nr No Nm Nd Nu
           go_upto_region 29 with fail
           have Ey : w.heap.size ≤ v15.heap.size := by have := BW.out.size; omega
           have Dry : gr ≠ v15.heap.size := by have := Fr.out.lt; omega
           have Doy : go ≠ v15.heap.size := by have := Fo.out.lt; omega
           have Dmy : gm ≠ v15.heap.size := by have := Fm.out.lt; omega
           have Ddy : gd ≠ v15.heap.size := by have := Fd.out.lt; omega
           have Duy : gu ≠ v15.heap.size := by have := Fu.out.lt; omega
           generalize hW16 : (v15.alloc (.cells #[.int .u64 (wd X2 0 : Nat), .int .u64 (wd X2 1 : Nat), .int .u64 (wd X2 2 : Nat), .int .u64 (wd X2 3 : Nat)] 25)) = W16 at *
           have Ny : At W16 (v15.heap.size) _ _ := at_of hW16 (At.at_ _ _ _ _ (by simp))
           have Nr := at_of hW16 (Fr.out.alloc _)
           have No := at_of hW16 (Fo.out.alloc _)
           have Nm := at_of hW16 (Fm.out.alloc _)
           have Nd := at_of hW16 (Fd.out.alloc _)
           have Nu := at_of hW16 (Fu.out.alloc _)
           have NB := gr_of hW16 (gr_alloc BW.out _)
           clear hW16 BW Fr Fo Fm Fd Fu
           generalize v15.heap.size = gy at *
           have Fr := Lib.hid Nr
           have Fo := Lib.hid No
           have Fm := Lib.hid Nm
           have Fd := Lib.hid Nd
           have Fu := Lib.hid Nu
           have Fy := Lib.hid Ny
           have BW := Lib.hid NB
           clear NB Nr No Nm Nd Nu Ny
           have Ly := Fy.out.lt
           have cy0 := Fy.out.c0
           have cy1 := Fy.out.c1
           have cy2 := Fy.out.c2
           have cy3 := Fy.out.c3
           have Lo := Fo.out.lt
           have co0 := Fo.out.c0
           have co1 := Fo.out.c1
           have co2 := Fo.out.c2
           have co3 := Fo.out.c3
           have Lr := Fr.out.lt
           have cr0 : W16.cell? ⟨gr, 0, none⟩ = some (.int .u64 (wd N 0 : Nat)) := Fr.out.cell 0
           have cr1 : W16.cell? ⟨gr, 1, none⟩ = some (.int .u64 (wd N 1 : Nat)) := Fr.out.cell 1
           have cr2 : W16.cell? ⟨gr, 2, none⟩ = some (.int .u64 (wd N 2 : Nat)) := Fr.out.cell 2
           have cr3 : W16.cell? ⟨gr, 3, none⟩ = some (.int .u64 (wd N 3 : Nat)) := Fr.out.cell 3
           have cr4 : W16.cell? ⟨gr, 4, none⟩ = some (.int .u64 (wd Y 0 : Nat)) := Fr.out.cell 4
           have cr5 : W16.cell? ⟨gr, 5, none⟩ = some (.int .u64 (wd Y 1 : Nat)) := Fr.out.cell 5
           have cr6 : W16.cell? ⟨gr, 6, none⟩ = some (.int .u64 (wd Y 2 : Nat)) := Fr.out.cell 6
           have cr7 : W16.cell? ⟨gr, 7, none⟩ = some (.int .u64 (wd Y 3 : Nat)) := Fr.out.cell 7
           have cr8 : W16.cell? ⟨gr, 8, none⟩ = some (.slice (some ⟨gs, os, none⟩) l cap) := Fr.out.cell 8
           go_wp2_with fail
           clear Ly cy0 cy1 cy2 cy3 Lo co0 co1 co2 co3 Lr cr0 cr1 cr2 cr3 cr4 cr5 cr6 cr7 cr8
           refine (HCS2.out _).mono ?_
           rintro e v17 ⟨rfl, z17⟩
           have Nr := Lib.hid (Fr.out.on z17)
           have No := Lib.hid (Fo.out.on z17)
           have Nm := Lib.hid (Fm.out.on z17)
           have Nd := Lib.hid (Fd.out.on z17)
           have Nu := Lib.hid (Fu.out.on z17)
           have Ny := Lib.hid (Fy.out.on z17)
           have NB := Lib.hid (bel_tr BW.out z17)
           clear BW z17 Fr Fo Fm Fd Fu Fy
           have Fr := Nr
           have Fo := No
           have Fm := Nm
           have Fd := Nd
           have Fu := Nu
           have Fy := Ny
           have BW := NB
           clear NB Nr No Nm Nd Nu Ny
           have Ly := Fy.out.lt
           have cy0 := Fy.out.c0
           have cy1 := Fy.out.c1
           have cy2 := Fy.out.c2
           have cy3 := Fy.out.c3
           have fy0 : v17.frozen? ⟨gy, 0, none⟩ = false := Fy.out.frozen 0
           have fy1 : v17.frozen? ⟨gy, 1, none⟩ = false := Fy.out.frozen 1
           have fy2 : v17.frozen? ⟨gy, 2, none⟩ = false := Fy.out.frozen 2
           have fy3 : v17.frozen? ⟨gy, 3, none⟩ = false := Fy.out.frozen 3
           go_upto_region 30 with fail
           clear Ly cy0 cy1 cy2 cy3 fy0 fy1 fy2 fy3
           generalize hW18 : ((((v17.setCell ⟨gy, 0, none⟩ (.int .u64 (wd Z 0 : Nat))).setCell ⟨gy, 1, none⟩ (.int .u64 (wd Z 1 : Nat))).setCell ⟨gy, 2, none⟩ (.int .u64 (wd Z 2 : Nat))).setCell ⟨gy, 3, none⟩ (.int .u64 (wd Z 3 : Nat))) = W18 at *
           have Nr := at_of hW18 ((Fr.out).far4 Dry _ _ _ _)
           have No := at_of hW18 ((Fo.out).far4 Doy _ _ _ _)
           have Nm := at_of hW18 ((Fm.out).far4 Dmy _ _ _ _)
           have Nd := at_of hW18 ((Fd.out).far4 Ddy _ _ _ _)
           have Nu := at_of hW18 ((Fu.out).far4 Duy _ _ _ _)
           have Ny := at_of hW18 ((Fy.out).put4 _ _ _ _)
           have NB := gr_of hW18 (((((BW.out).setCell Ey _).setCell Ey _).setCell Ey _).setCell Ey _)
           clear hW18 BW Fr Fo Fm Fd Fu Fy
           have Fr := Lib.hid Nr
           have Fo := Lib.hid No
           have Fm := Lib.hid Nm
           have Fd := Lib.hid Nd
           have Fu := Lib.hid Nu
           have Fy := Lib.hid Ny
           have BW := Lib.hid NB
           clear NB Nr No Nm Nd Nu Ny
           by_cases hg : G = 1
           ·have hE := HEG.out
            rw [decide_eq_true hg] at hE
            have HEE := Lib.hid hE; have HGG := Lib.hid hg
            clear hE hg
            try simp only [List.append_eq, List.cons_append, List.nil_append]
            refine wp_region_noPanic ?_
            refine wp_region_held_drew (S := fun w' => At w' gy 25 #[.int .u64 (wd Z 0 : Nat), .int .u64 (wd Z 1 : Nat), .int .u64 (wd Z 2 : Nat), .int .u64 (wd Z 3 : Nat)] ∧ At w' gr 28 #[.int .u64 (wd N 0 : Nat), .int .u64 (wd N 1 : Nat), .int .u64 (wd N 2 : Nat), .int .u64 (wd N 3 : Nat), .int .u64 (wd Y 0 : Nat), .int .u64 (wd Y 1 : Nat), .int .u64 (wd Y 2 : Nat), .int .u64 (wd Y 3 : Nat), .slice (some ⟨gs, os, none⟩) l cap] ∧ At w' go 25 #[.int .u64 (wd 1 0 : Nat), .int .u64 (wd 1 1 : Nat), .int .u64 (wd 1 2 : Nat), .int .u64 (wd 1 3 : Nat)]) (by kernel_rfl) (⟨Fy.out.drew, Fr.out.drew, Fo.out.drew⟩) (fun _ => ?_)
            refine wpAnyH_cores (fuel := 0) (⟨0, 182, [], Kind.val (.agg #[.int .u64 (wd Z 0 : Nat), .int .u64 (wd Z 1 : Nat), .int .u64 (wd Z 2 : Nat), .int .u64 (wd Z 3 : Nat)]), true⟩ :: ⟨1, 183, [0], Kind.val (.pointer (some ⟨gr, 0, none⟩)), true⟩ :: ⟨2, 184, [1], Kind.val (.agg #[.int .u64 (wd N 0 : Nat), .int .u64 (wd N 1 : Nat), .int .u64 (wd N 2 : Nat), .int .u64 (wd N 3 : Nat)]), true⟩ :: ⟨4, 186, [2], Kind.val (.agg #[.int .u64 (wd 1 0 : Nat), .int .u64 (wd 1 1 : Nat), .int .u64 (wd 1 2 : Nat), .int .u64 (wd 1 3 : Nat)]), true⟩ :: ⟨3, 185, [0, 2, 3], Kind.val (.agg #[.int .u64 (wd G 0 : Nat), .int .u64 (wd G 1 : Nat), .int .u64 (wd G 2 : Nat), .int .u64 (wd G 3 : Nat)]), false⟩ :: ⟨5, 187, [3, 4], Kind.val (.bool false), true⟩ :: []) _ _ W18 _ ?_ ?_ ?_ ?_ ?_ ?_ ?_ ?_ ?_ ?_ ?_
            ·rfl
            ·kernel_rfl
            ·exact of_decide_eq_true (by kernel_rfl)
            ·(repeat refine all_cons ⟨_, by rfl, by rfl⟩ ?_); exact all_nil
            ·exact fun _ hb => ⟨Fy.out.on hb, Fr.out.on hb, Fo.out.on hb⟩
            ·exact (Below.refl _ _).drew
            ·kernel_rfl
            ·exact fun _ _ _ _ _ h => h
            ·(repeat (refine all_cons ?_ ?_; rotate_left)); exact all_nil
             ·exact coreG_loadP _ _ _ _ _ _ gy _ _ _ _ (by rfl) (by rfl) (wants_none) (ko 20) (fun _ hs => hs.1)
             ·exact coreG_held _ _ _ _ _ _ _ _ _ (by rfl) (by rfl) (wants_none) (ko 1) (fun ρ w hx _ => fieldR0 _ _ _ _ _ _ ρ w gr hx)
             ·exact coreG_held _ _ _ _ _ _ _ _ _ (by rfl) (by rfl) (wants_none) (kc 1 183) (fun ρ w hx hs => loadR0 _ _ _ _ _ _ ρ w gr _ _ _ _ _ _ _ _ _ hx (hs.2.1))
             ·exact coreG_loadP _ _ _ _ _ _ go _ _ _ _ (by rfl) (by rfl) (wants_none) (ko 3) (fun _ hs => hs.2.2)
             ·exact core_pureAs _ (by rfl)
             ·exact coreG_bin _ _ _ _ _ _ _ _ _ _ _ _ _ (by rfl) (by rfl) (wants_none) (kc 4 185) (kc 3 186) (neq_run true _ _ _ _ _ _ _ _ _ _ _ _ _ _ _ (HEE.out))
            ·(repeat (refine all_cons ?_ ?_; rotate_left)); exact all_nil
             ·exact sA
             ·exact sA
             ·exact sA
             ·exact sA
             ·exact fun _ => coreG_call _ 56 _ _ [.tmp 182, .tmp 184] _ _ _ _ _ _ _ (by rfl) Try.func56 (by kernel_rfl) (by rfl) (by rfl) (wants_none) (.cons (kc 0 182) (.cons (kc 2 184) .nil)) (HCC.out)
             ·exact sA
            intro vs y19 hc
            obtain ⟨vv0, vv1, vv2, vv3, vv4, vv5, rfl⟩ := len6 vs hc.lv
            have qq0 := okv hc 0
            have qq1 := okv hc 1
            have qq2 := okv hc 2
            have qq3 := okv hc 3
            have qq4 := okv hc 4
            have qq5 := okv hc 5
            have BZ := hc.bel
            clear hc
            have Nr := Fr.out.on BZ
            have No := Fo.out.on BZ
            have Nm := Fm.out.on BZ
            have Nd := Fd.out.on BZ
            have Nu := Fu.out.on BZ
            have Ny := Fy.out.on BZ
            have NB := bel_tr BW.out BZ
            clear BW BZ Fr Fo Fm Fd Fu Fy
            subst qq0 qq1 qq2 qq3 qq4 qq5
            simp only [List.map_cons, List.map_nil, over, Act.put, List.setIfInBounds_toArray, List.set_cons_zero, List.set_cons_succ]
            refine wpAnyH_done (by kernel_rfl) ?_ _
            refine NoPanic.normal ?_
            have Fr := Lib.hid Nr
            have Fo := Lib.hid No
            have Fm := Lib.hid Nm
            have Fd := Lib.hid Nd
            have Fu := Lib.hid Nu
            have Fy := Lib.hid Ny
            have BW := Lib.hid NB
            clear NB Nr No Nm Nd Nu Ny
            have hiw := HIW.out
            go_wp2_with fail
            go_roundw
            case measure => (have := HLT.out; simp [intOf]; omega)
            case rel =>
             have hlt := HLT.out
             have hA : ∀ j (hj : j < ps.length), j < i + 1 → witQ N Y (ps[j]).n = true := fun j hj hji => by
              rcases Nat.lt_or_ge j i with h | h
              ·exact HJ.out j hj h
              ·obtain rfl : j = i := by omega
               obtain ⟨_, hq1⟩ := HIL.out
               rw [hq1, HWQ.out]; exact decide_eq_true HGG.out
             first
              | exact ⟨i + 1, by omega, by go_num, Fr.out, Fo.out, Fm.out, BW.out, hA⟩
              | ((repeat apply Exists.intro); exact ⟨⟨i + 1, by omega, by go_num, Fr.out, Fo.out, Fm.out, BW.out, hA⟩, rfl⟩)
           ·have hE := HEG.out
            rw [decide_eq_false hg] at hE
            have HEE := Lib.hid hE; have HGG := Lib.hid hg
            clear hE hg
            try simp only [List.append_eq, List.cons_append, List.nil_append]
            refine wp_region_noPanic ?_
            refine wp_region_held_drew (S := fun w' => At w' gy 25 #[.int .u64 (wd Z 0 : Nat), .int .u64 (wd Z 1 : Nat), .int .u64 (wd Z 2 : Nat), .int .u64 (wd Z 3 : Nat)] ∧ At w' gr 28 #[.int .u64 (wd N 0 : Nat), .int .u64 (wd N 1 : Nat), .int .u64 (wd N 2 : Nat), .int .u64 (wd N 3 : Nat), .int .u64 (wd Y 0 : Nat), .int .u64 (wd Y 1 : Nat), .int .u64 (wd Y 2 : Nat), .int .u64 (wd Y 3 : Nat), .slice (some ⟨gs, os, none⟩) l cap] ∧ At w' go 25 #[.int .u64 (wd 1 0 : Nat), .int .u64 (wd 1 1 : Nat), .int .u64 (wd 1 2 : Nat), .int .u64 (wd 1 3 : Nat)]) (by kernel_rfl) (⟨Fy.out.drew, Fr.out.drew, Fo.out.drew⟩) (fun _ => ?_)
            refine wpAnyH_cores (fuel := 0) (⟨0, 182, [], Kind.val (.agg #[.int .u64 (wd Z 0 : Nat), .int .u64 (wd Z 1 : Nat), .int .u64 (wd Z 2 : Nat), .int .u64 (wd Z 3 : Nat)]), true⟩ :: ⟨1, 183, [0], Kind.val (.pointer (some ⟨gr, 0, none⟩)), true⟩ :: ⟨2, 184, [1], Kind.val (.agg #[.int .u64 (wd N 0 : Nat), .int .u64 (wd N 1 : Nat), .int .u64 (wd N 2 : Nat), .int .u64 (wd N 3 : Nat)]), true⟩ :: ⟨4, 186, [2], Kind.val (.agg #[.int .u64 (wd 1 0 : Nat), .int .u64 (wd 1 1 : Nat), .int .u64 (wd 1 2 : Nat), .int .u64 (wd 1 3 : Nat)]), true⟩ :: ⟨3, 185, [0, 2, 3], Kind.val (.agg #[.int .u64 (wd G 0 : Nat), .int .u64 (wd G 1 : Nat), .int .u64 (wd G 2 : Nat), .int .u64 (wd G 3 : Nat)]), false⟩ :: ⟨5, 187, [3, 4], Kind.val (.bool true), true⟩ :: []) _ _ W18 _ ?_ ?_ ?_ ?_ ?_ ?_ ?_ ?_ ?_ ?_ ?_
            ·rfl
            ·kernel_rfl
            ·exact of_decide_eq_true (by kernel_rfl)
            ·(repeat refine all_cons ⟨_, by rfl, by rfl⟩ ?_); exact all_nil
            ·exact fun _ hb => ⟨Fy.out.on hb, Fr.out.on hb, Fo.out.on hb⟩
            ·exact (Below.refl _ _).drew
            ·kernel_rfl
            ·exact fun _ _ _ _ _ h => h
            ·(repeat (refine all_cons ?_ ?_; rotate_left)); exact all_nil
             ·exact coreG_loadP _ _ _ _ _ _ gy _ _ _ _ (by rfl) (by rfl) (wants_none) (ko 20) (fun _ hs => hs.1)
             ·exact coreG_held _ _ _ _ _ _ _ _ _ (by rfl) (by rfl) (wants_none) (ko 1) (fun ρ w hx _ => fieldR0 _ _ _ _ _ _ ρ w gr hx)
             ·exact coreG_held _ _ _ _ _ _ _ _ _ (by rfl) (by rfl) (wants_none) (kc 1 183) (fun ρ w hx hs => loadR0 _ _ _ _ _ _ ρ w gr _ _ _ _ _ _ _ _ _ hx (hs.2.1))
             ·exact coreG_loadP _ _ _ _ _ _ go _ _ _ _ (by rfl) (by rfl) (wants_none) (ko 3) (fun _ hs => hs.2.2)
             ·exact core_pureAs _ (by rfl)
             ·exact coreG_bin _ _ _ _ _ _ _ _ _ _ _ _ _ (by rfl) (by rfl) (wants_none) (kc 4 185) (kc 3 186) (neq_run false _ _ _ _ _ _ _ _ _ _ _ _ _ _ _ (HEE.out))
            ·(repeat (refine all_cons ?_ ?_; rotate_left)); exact all_nil
             ·exact sA
             ·exact sA
             ·exact sA
             ·exact sA
             ·exact fun _ => coreG_call _ 56 _ _ [.tmp 182, .tmp 184] _ _ _ _ _ _ _ (by rfl) Try.func56 (by kernel_rfl) (by rfl) (by rfl) (wants_none) (.cons (kc 0 182) (.cons (kc 2 184) .nil)) (HCC.out)
             ·exact sA
            intro vs y19 hc
            obtain ⟨vv0, vv1, vv2, vv3, vv4, vv5, rfl⟩ := len6 vs hc.lv
            have qq0 := okv hc 0
            have qq1 := okv hc 1
            have qq2 := okv hc 2
            have qq3 := okv hc 3
            have qq4 := okv hc 4
            have qq5 := okv hc 5
            have BZ := hc.bel
            clear hc
            have Nr := Fr.out.on BZ
            have No := Fo.out.on BZ
            have Nm := Fm.out.on BZ
            have Nd := Fd.out.on BZ
            have Nu := Fu.out.on BZ
            have Ny := Fy.out.on BZ
            have NB := bel_tr BW.out BZ
            clear BW BZ Fr Fo Fm Fd Fu Fy
            subst qq0 qq1 qq2 qq3 qq4 qq5
            simp only [List.map_cons, List.map_nil, over, Act.put, List.setIfInBounds_toArray, List.set_cons_zero, List.set_cons_succ]
            refine wpAnyH_done (by kernel_rfl) ?_ _
            refine NoPanic.normal ?_
            have Fr := Lib.hid Nr
            have Fo := Lib.hid No
            have Fm := Lib.hid Nm
            have Fd := Lib.hid Nd
            have Fu := Lib.hid Nu
            have Fy := Lib.hid Ny
            have BW := Lib.hid NB
            clear NB Nr No Nm Nd Nu Ny
            have HV3 := Lib.hid (show V = false from by rw [HW.out, HQS.out]; exact witB_no HIL.out (by rw [HWQ.out]; exact decide_eq_false HGG.out))
            go_wp2
            go_ret
            exact ⟨by rw [HV3.out]; rfl, BW.out⟩
          ·have hlt2 : ¬ (i : Int) < (l : Int) := by omega
           have HII := Lib.hid (show i = l by omega)
           clear hlt
           have Lr := Fr.out.lt
           have cr0 : wr.cell? ⟨gr, 0, none⟩ = some (.int .u64 (wd N 0 : Nat)) := Fr.out.cell 0
           have cr1 : wr.cell? ⟨gr, 1, none⟩ = some (.int .u64 (wd N 1 : Nat)) := Fr.out.cell 1
           have cr2 : wr.cell? ⟨gr, 2, none⟩ = some (.int .u64 (wd N 2 : Nat)) := Fr.out.cell 2
           have cr3 : wr.cell? ⟨gr, 3, none⟩ = some (.int .u64 (wd N 3 : Nat)) := Fr.out.cell 3
           have cr4 : wr.cell? ⟨gr, 4, none⟩ = some (.int .u64 (wd Y 0 : Nat)) := Fr.out.cell 4
           have cr5 : wr.cell? ⟨gr, 5, none⟩ = some (.int .u64 (wd Y 1 : Nat)) := Fr.out.cell 5
           have cr6 : wr.cell? ⟨gr, 6, none⟩ = some (.int .u64 (wd Y 2 : Nat)) := Fr.out.cell 6
           have cr7 : wr.cell? ⟨gr, 7, none⟩ = some (.int .u64 (wd Y 3 : Nat)) := Fr.out.cell 7
           have cr8 : wr.cell? ⟨gr, 8, none⟩ = some (.slice a l cap) := Fr.out.cell 8
           go_wp2
           go_ret
           exact ⟨by rw [HW.out, HQS.out, witB_all HH1.out HH2.out (by rw [← HM.out, ← HE.out]; exact HH3.out) (fun j hj => HJ.out j hj (by rw [HII.out, ← HL.out]; exact hj))]; rfl, BW.out⟩
        ·rw [decide_eq_false h3] at eqx
         have HH3 := Lib.hid h3; clear h3
         have Lx := Fx.out.lt
         have cx0 := Fx.out.c0
         have cx1 := Fx.out.c1
         have cx2 := Fx.out.c2
         have cx3 := Fx.out.c3
         have Lo := Fo.out.lt
         have co0 := Fo.out.c0
         have co1 := Fo.out.c1
         have co2 := Fo.out.c2
         have co3 := Fo.out.c3
         have HV3 := Lib.hid (show V = false from by rw [HW.out]; have h := HH3.out; rw [HE.out, HM.out] at h; simp [witB, h])
         go_wp2
         go_ret
         exact ⟨by rw [HV3.out]; rfl, BW.out⟩
       ·have hk2 := cmpN_ge0 (Nat.le_of_not_lt h2)
        have HKK := Lib.hid HK2.out
        have HH2 := Lib.hid h2; clear h2 HK2
        generalize cmpN Y N = k2 at *
        refine (HKK.out _).mono ?_
        rintro e v11 ⟨rfl, z11⟩
        have Nr := Lib.hid (Fr.out.on z11)
        have No := Lib.hid (Fo.out.on z11)
        have Nm := Lib.hid (Fm.out.on z11)
        have Nf := Lib.hid (Ff.out.on z11)
        have Na := Lib.hid (Fa.out.on z11)
        have Nb := Lib.hid (Fb.out.on z11)
        have NB := Lib.hid (bel_tr BW.out z11)
        clear BW z11 Fr Fo Fm Ff Fa Fb
        have Fr := Nr
        have Fo := No
        have Fm := Nm
        have Ff := Nf
        have Fa := Na
        have Fb := Nb
        have BW := NB
        clear NB Nr No Nm Nf Na Nb
        have HV3 := Lib.hid (show V = false from by rw [HW.out]; simp [witB, HH2.out])
        go_wp2
        go_ret
        exact ⟨by rw [HV3.out]; rfl, BW.out⟩
      ·have hk := cmpN_le0 (Nat.le_of_not_lt h1)
       have HK := Lib.hid HK1.out
       have HH1 := Lib.hid h1; clear h1 HK1
       generalize cmpN Y 1 = k at *
       go_wp2_with fail
       refine (HK.out _).mono ?_
       rintro e v10 ⟨rfl, z10⟩
       have Nr := Lib.hid (Fr.out.on z10)
       have No := Lib.hid (Fo.out.on z10)
       have Nm := Lib.hid (Fm.out.on z10)
       have Nf := Lib.hid (Ff.out.on z10)
       have Na := Lib.hid (Fa.out.on z10)
       have Nb := Lib.hid (Fb.out.on z10)
       have NB := Lib.hid (bel_tr BW.out z10)
       clear BW z10 Fr Fo Fm Ff Fa Fb
       have Fr := Nr
       have Fo := No
       have Fm := Nm
       have Ff := Nf
       have Fa := Na
       have Fb := Nb
       have BW := NB
       clear NB Nr No Nm Nf Na Nb
       have HV3 := Lib.hid (show V = false from by rw [HW.out]; simp [witB, HH1.out])
       go_wp2
       go_ret
       exact ⟨by rw [HV3.out]; rfl, BW.out⟩
     ·have hk2 := cmpN_le0 (Nat.le_of_not_lt hk)
      have HV4 := Lib.hid (show V = false by rw [HVV.out, HXX.out, decide_eq_false hk, Bool.false_and])
      clear hk
      generalize cmpN Lo N = k0 at *
      refine (HK.out _).mono ?_
      rintro e v9 ⟨rfl, z9⟩
      have Nr := Lib.hid (Fr.out.on z9)
      have No := Lib.hid (Fo.out.on z9)
      have Nm := Lib.hid (Fm.out.on z9)
      have Nf := Lib.hid (Ff.out.on z9)
      have Na := Lib.hid (Fa.out.on z9)
      have Nb := Lib.hid (Fb.out.on z9)
      have NB := Lib.hid (bel_tr BW.out z9)
      clear BW z9 Fr Fo Fm Ff Fa Fb
      have Fr := Nr
      have Fo := No
      have Fm := Nm
      have Ff := Nf
      have Fa := Na
      have Fb := Nb
      have BW := NB
      clear NB Nr No Nm Nf Na Nb
      have HV3 := Lib.hid (show V = false from by exact HV4.out)
      go_wp2
      go_ret
      exact ⟨by rw [HV3.out]; rfl, BW.out⟩
    ·rw [decide_eq_false hz] at eqz
     have HW := Lib.hid (show V = witB N Y qs by rw [HVV.out, decide_eq_true (by rw [HMU.out]; have := HN.out; omega), Bool.true_and])
     clear hz
     have Lb := Fb.out.lt
     have cb0 := Fb.out.c0
     have cb1 := Fb.out.c1
     have cb2 := Fb.out.c2
     have cb3 := Fb.out.c3
     have HK1 := Lib.hid (fun w => rcmp_any Y 1 HY.out (by decide) w)
     have HK2 := Lib.hid (fun w => rcmp_any Y N HY.out HN.out w)
     go_upto_region 19 with fail
     clear Lb cb0 cb1 cb2 cb3
     have Lr := Fr.out.lt
     have cr0 : W8.cell? ⟨gr, 0, none⟩ = some (.int .u64 (wd N 0 : Nat)) := Fr.out.cell 0
     have cr1 : W8.cell? ⟨gr, 1, none⟩ = some (.int .u64 (wd N 1 : Nat)) := Fr.out.cell 1
     have cr2 : W8.cell? ⟨gr, 2, none⟩ = some (.int .u64 (wd N 2 : Nat)) := Fr.out.cell 2
     have cr3 : W8.cell? ⟨gr, 3, none⟩ = some (.int .u64 (wd N 3 : Nat)) := Fr.out.cell 3
     have cr4 : W8.cell? ⟨gr, 4, none⟩ = some (.int .u64 (wd Y 0 : Nat)) := Fr.out.cell 4
     have cr5 : W8.cell? ⟨gr, 5, none⟩ = some (.int .u64 (wd Y 1 : Nat)) := Fr.out.cell 5
     have cr6 : W8.cell? ⟨gr, 6, none⟩ = some (.int .u64 (wd Y 2 : Nat)) := Fr.out.cell 6
     have cr7 : W8.cell? ⟨gr, 7, none⟩ = some (.int .u64 (wd Y 3 : Nat)) := Fr.out.cell 7
     have cr8 : W8.cell? ⟨gr, 8, none⟩ = some (.slice a l cap) := Fr.out.cell 8
     have Lo := Fo.out.lt
     have co0 := Fo.out.c0
     have co1 := Fo.out.c1
     have co2 := Fo.out.c2
     have co3 := Fo.out.c3
     by_cases h1 : 1 < Y
     ·have hk := cmpN_pos0 h1
      have HK := Lib.hid HK1.out
      have HH1 := Lib.hid h1; clear h1 HK1
      generalize cmpN Y 1 = k at *
      go_wp2_with fail
      clear Lr cr0 cr1 cr2 cr3 cr4 cr5 cr6 cr7 cr8 Lo co0 co1 co2 co3
      refine (HK.out _).mono ?_
      rintro e v9 ⟨rfl, z9⟩
      have Nr := Lib.hid (Fr.out.on z9)
      have No := Lib.hid (Fo.out.on z9)
      have Nm := Lib.hid (Fm.out.on z9)
      have Nf := Lib.hid (Ff.out.on z9)
      have Na := Lib.hid (Fa.out.on z9)
      have Nb := Lib.hid (Fb.out.on z9)
      have NB := Lib.hid (bel_tr BW.out z9)
      clear BW z9 Fr Fo Fm Ff Fa Fb
      have Fr := Nr
      have Fo := No
      have Fm := Nm
      have Ff := Nf
      have Fa := Na
      have Fb := Nb
      have BW := NB
      clear NB Nr No Nm Nf Na Nb
      have Lr := Fr.out.lt
      have cr0 : v9.cell? ⟨gr, 0, none⟩ = some (.int .u64 (wd N 0 : Nat)) := Fr.out.cell 0
      have cr1 : v9.cell? ⟨gr, 1, none⟩ = some (.int .u64 (wd N 1 : Nat)) := Fr.out.cell 1
      have cr2 : v9.cell? ⟨gr, 2, none⟩ = some (.int .u64 (wd N 2 : Nat)) := Fr.out.cell 2
      have cr3 : v9.cell? ⟨gr, 3, none⟩ = some (.int .u64 (wd N 3 : Nat)) := Fr.out.cell 3
      have cr4 : v9.cell? ⟨gr, 4, none⟩ = some (.int .u64 (wd Y 0 : Nat)) := Fr.out.cell 4
      have cr5 : v9.cell? ⟨gr, 5, none⟩ = some (.int .u64 (wd Y 1 : Nat)) := Fr.out.cell 5
      have cr6 : v9.cell? ⟨gr, 6, none⟩ = some (.int .u64 (wd Y 2 : Nat)) := Fr.out.cell 6
      have cr7 : v9.cell? ⟨gr, 7, none⟩ = some (.int .u64 (wd Y 3 : Nat)) := Fr.out.cell 7
      have cr8 : v9.cell? ⟨gr, 8, none⟩ = some (.slice a l cap) := Fr.out.cell 8
      go_wp2_with fail
      clear Lr cr0 cr1 cr2 cr3 cr4 cr5 cr6 cr7 cr8
      by_cases h2 : Y < N
      ·have hk2 := cmpN_lt0 h2
       have HKK := Lib.hid HK2.out
       have HH2 := Lib.hid h2
       have HEX := Lib.hid (fun e (he : e < 2 ^ 256) => re_yes Y e N HN.out he HN1.out h2)
       clear h2 HK2
       generalize cmpN Y N = k2 at *
       refine (HKK.out _).mono ?_
       rintro e v10 ⟨rfl, z10⟩
       have Nr := Lib.hid (Fr.out.on z10)
       have No := Lib.hid (Fo.out.on z10)
       have Nm := Lib.hid (Fm.out.on z10)
       have Nf := Lib.hid (Ff.out.on z10)
       have Na := Lib.hid (Fa.out.on z10)
       have Nb := Lib.hid (Fb.out.on z10)
       have NB := Lib.hid (bel_tr BW.out z10)
       clear BW z10 Fr Fo Fm Ff Fa Fb
       have Fr := Nr
       have Fo := No
       have Fm := Nm
       have Ff := Nf
       have Fa := Na
       have Fb := Nb
       have BW := NB
       clear NB Nr No Nm Nf Na Nb
       go_upto_region 21 with fail
       clear hk hk2
       have Lr := Fr.out.lt
       have cr0 : v10.cell? ⟨gr, 0, none⟩ = some (.int .u64 (wd N 0 : Nat)) := Fr.out.cell 0
       have cr1 : v10.cell? ⟨gr, 1, none⟩ = some (.int .u64 (wd N 1 : Nat)) := Fr.out.cell 1
       have cr2 : v10.cell? ⟨gr, 2, none⟩ = some (.int .u64 (wd N 2 : Nat)) := Fr.out.cell 2
       have cr3 : v10.cell? ⟨gr, 3, none⟩ = some (.int .u64 (wd N 3 : Nat)) := Fr.out.cell 3
       have cr4 : v10.cell? ⟨gr, 4, none⟩ = some (.int .u64 (wd Y 0 : Nat)) := Fr.out.cell 4
       have cr5 : v10.cell? ⟨gr, 5, none⟩ = some (.int .u64 (wd Y 1 : Nat)) := Fr.out.cell 5
       have cr6 : v10.cell? ⟨gr, 6, none⟩ = some (.int .u64 (wd Y 2 : Nat)) := Fr.out.cell 6
       have cr7 : v10.cell? ⟨gr, 7, none⟩ = some (.int .u64 (wd Y 3 : Nat)) := Fr.out.cell 7
       have cr8 : v10.cell? ⟨gr, 8, none⟩ = some (.slice a l cap) := Fr.out.cell 8
       have Lm := Fm.out.lt
       have cm0 := Fm.out.c0
       have cm1 := Fm.out.c1
       have cm2 := Fm.out.c2
       have cm3 := Fm.out.c3
       go_wp2_with fail
       clear Lr cr0 cr1 cr2 cr3 cr4 cr5 cr6 cr7 cr8 Lm cm0 cm1 cm2 cm3
       obtain ⟨E, hE⟩ : ∃ E, E = Y ^ M % N := ⟨_, rfl⟩
       have CE := HEX.out M HMB.out
       rw [← hE] at CE
       have HCE := Lib.hid CE; have HE := Lib.hid hE
       clear CE hE
       refine (HCE.out _).mono ?_
       rintro e v11 ⟨rfl, z11⟩
       have Nr := Lib.hid (Fr.out.on z11)
       have No := Lib.hid (Fo.out.on z11)
       have Nm := Lib.hid (Fm.out.on z11)
       have Nf := Lib.hid (Ff.out.on z11)
       have Na := Lib.hid (Fa.out.on z11)
       have Nb := Lib.hid (Fb.out.on z11)
       have NB := Lib.hid (bel_tr BW.out z11)
       clear BW z11 Fr Fo Fm Ff Fa Fb
       have Fr := Nr
       have Fo := No
       have Fm := Nm
       have Ff := Nf
       have Fa := Na
       have Fb := Nb
       have BW := NB
       clear NB Nr No Nm Nf Na Nb
       go_upto_region 22 with fail
       have Drx : gr ≠ v11.heap.size := by have := Fr.out.lt; omega
       have Dox : go ≠ v11.heap.size := by have := Fo.out.lt; omega
       have Dmx : gm ≠ v11.heap.size := by have := Fm.out.lt; omega
       have Dfx : gf ≠ v11.heap.size := by have := Ff.out.lt; omega
       generalize hW12 : (v11.alloc (.cells #[.int .u64 (wd E 0 : Nat), .int .u64 (wd E 1 : Nat), .int .u64 (wd E 2 : Nat), .int .u64 (wd E 3 : Nat)] 25)) = W12 at *
       have Nx : At W12 (v11.heap.size) _ _ := at_of hW12 (At.at_ _ _ _ _ (by simp))
       have Nr := at_of hW12 (Fr.out.alloc _)
       have No := at_of hW12 (Fo.out.alloc _)
       have Nm := at_of hW12 (Fm.out.alloc _)
       have Nf := at_of hW12 (Ff.out.alloc _)
       have Na := at_of hW12 (Fa.out.alloc _)
       have Nb := at_of hW12 (Fb.out.alloc _)
       have NB := gr_of hW12 (gr_alloc BW.out _)
       clear hW12 BW Fr Fo Fm Ff Fa Fb
       generalize v11.heap.size = gx at *
       have Fr := Lib.hid Nr
       have Fo := Lib.hid No
       have Fm := Lib.hid Nm
       have Ff := Lib.hid Nf
       have Fa := Lib.hid Na
       have Fb := Lib.hid Nb
       have Fx := Lib.hid Nx
       have BW := Lib.hid NB
       clear NB Nr No Nm Nf Na Nb Nx
       have eqx := eqN E 1 (by rw [HE.out]; exact Nat.lt_trans (Nat.mod_lt _ (by have := HN1.out; omega)) HN.out) (by decide)
       by_cases h3 : E = 1
       ·rw [decide_eq_true h3] at eqx
        have HH3 := Lib.hid h3; clear h3
        have Lx := Fx.out.lt
        have cx0 := Fx.out.c0
        have cx1 := Fx.out.c1
        have cx2 := Fx.out.c2
        have cx3 := Fx.out.c3
        have Lo := Fo.out.lt
        have co0 := Fo.out.c0
        have co1 := Fo.out.c1
        have co2 := Fo.out.c2
        have co3 := Fo.out.c3
        go_upto_region 24 with fail
        clear Lx cx0 cx1 cx2 cx3 Lo co0 co1 co2 co3
        clear eqx
        go_wp2_with fail
        go_loopw [16] (fun s wr => ∃ i : Nat, i ≤ l ∧ s = .int .i64 (i : Nat) ∧ Hid (At wr gr 28 #[.int .u64 (wd N 0 : Nat), .int .u64 (wd N 1 : Nat), .int .u64 (wd N 2 : Nat), .int .u64 (wd N 3 : Nat), .int .u64 (wd Y 0 : Nat), .int .u64 (wd Y 1 : Nat), .int .u64 (wd Y 2 : Nat), .int .u64 (wd Y 3 : Nat), .slice a l cap] ∧ At wr go 25 #[.int .u64 (wd 1 0 : Nat), .int .u64 (wd 1 1 : Nat), .int .u64 (wd 1 2 : Nat), .int .u64 (wd 1 3 : Nat)] ∧ At wr gm 25 #[.int .u64 (wd M 0 : Nat), .int .u64 (wd M 1 : Nat), .int .u64 (wd M 2 : Nat), .int .u64 (wd M 3 : Nat)] ∧ Below w.heap.size w wr ∧ (∀ j (hj : j < ps.length), j < i → witQ N Y (ps[j]).n = true))) (fun s _ => l - (intOf s).toNat)
        case atStart => exact ⟨0, by omega, rfl, Fr.out, Fo.out, Fm.out, BW.out, fun j _ h => absurd h (Nat.not_lt_zero _)⟩
        case round =>
         obtain ⟨i, hi, rfl, hM⟩ := hrel
         clear BW Fr Fo Fm Ff Fa Fb Fx
         have Fr := Lib.hid hM.out.1
         have Fo := Lib.hid hM.out.2.1
         have Fm := Lib.hid hM.out.2.2.1
         have BW := Lib.hid hM.out.2.2.2.1
         have HJ := Lib.hid hM.out.2.2.2.2
         clear hM
         by_cases hlt : i < l
         ·have hlt2 : (i : Int) < (l : Int) := by omega
          have hil : i < ps.length := by rw [HL.out]; exact hlt
          obtain ⟨gs, os, a2, cap2, q, y2, l2, ha, hq1, hq2, hq3, hqb, hyb, hs2, hc9⟩ := HS.out.c9 hil
          have hq0 : q ≠ 0 := by rw [← hq1]; exact HQ0.out _ (List.getElem_mem hil)
          have CD := fun w => rdiv_any M q HMB.out hqb hq0 w
          obtain ⟨D, hD⟩ : ∃ D, D = M / q := ⟨_, rfl⟩
          obtain ⟨u, hu⟩ : ∃ u, u = M % q := ⟨_, rfl⟩
          rw [← hD, ← hu] at CD
          have CE2 := HEX.out D (by rw [hD]; exact Nat.lt_of_le_of_lt (Nat.div_le_self _ _) HMB.out)
          obtain ⟨X2, hX2⟩ : ∃ X2, X2 = Y ^ D % N := ⟨_, rfl⟩
          have hN1 := HN1.out
          have hX2N : X2 < N := by rw [hX2]; exact Nat.mod_lt _ (by omega)
          have CS2 := rs_yes X2 1 N HN.out hN1 hX2N hN1
          obtain ⟨Z, hZ⟩ : ∃ Z, Z = (X2 + N - 1) % N := ⟨_, rfl⟩
          rw [← hX2] at CE2
          rw [← hZ] at CS2
          have hZN : Z < N := by rw [hZ]; exact Nat.mod_lt _ (by omega)
          have CC := fun w => rcommon_any (fun X Y hX hY h0 => ⟨X / Y, X % Y, Nat.mod_lt _ (by omega), by rw [Nat.mul_comm]; exact (Nat.div_add_mod X Y).symm, fun w => rdiv_any X Y hX hY h0 w⟩) Z N (Nat.lt_trans hZN HN.out) HN.out w
          obtain ⟨G, hG⟩ : ∃ G, G = Nat.gcd Z N := ⟨_, rfl⟩
          rw [← hG] at CC
          have hGN : G < 2 ^ 256 := Nat.lt_of_le_of_lt (by rw [hG]; exact Nat.gcd_le_right _ (by omega)) HN.out
          have hWQ : witQ N Y q = decide (G = 1) := by rw [hG, hZ, hX2, hD, HM.out]; rfl
          have HCD := Lib.hid CD; have HCE2 := Lib.hid CE2; have HCS2 := Lib.hid CS2; have HCC := Lib.hid CC; have HWQ := Lib.hid hWQ; have HIL := Lib.hid (show ∃ h : i < ps.length, (ps[i]).n = q from ⟨hil, hq1⟩); have HLT := Lib.hid hlt; have HEG := Lib.hid (eqN G 1 hGN (by decide)); have HC := Lib.hid hc9
          have HIW := Lib.hid (show (i : Int) + 1 ≤ 9223372036854775807 by have := HLC.out; omega)
          subst ha
          clear CD CE2 CS2 CC hWQ hlt hGN hG hZN hZ hX2N hX2 hN1 hD hu hq0 hs2 hyb hqb hq3 hq2 hq1 hil hc9
          have Lr := Fr.out.lt
          have cr0 : wr.cell? ⟨gr, 0, none⟩ = some (.int .u64 (wd N 0 : Nat)) := Fr.out.cell 0
          have cr1 : wr.cell? ⟨gr, 1, none⟩ = some (.int .u64 (wd N 1 : Nat)) := Fr.out.cell 1
          have cr2 : wr.cell? ⟨gr, 2, none⟩ = some (.int .u64 (wd N 2 : Nat)) := Fr.out.cell 2
          have cr3 : wr.cell? ⟨gr, 3, none⟩ = some (.int .u64 (wd N 3 : Nat)) := Fr.out.cell 3
          have cr4 : wr.cell? ⟨gr, 4, none⟩ = some (.int .u64 (wd Y 0 : Nat)) := Fr.out.cell 4
          have cr5 : wr.cell? ⟨gr, 5, none⟩ = some (.int .u64 (wd Y 1 : Nat)) := Fr.out.cell 5
          have cr6 : wr.cell? ⟨gr, 6, none⟩ = some (.int .u64 (wd Y 2 : Nat)) := Fr.out.cell 6
          have cr7 : wr.cell? ⟨gr, 7, none⟩ = some (.int .u64 (wd Y 3 : Nat)) := Fr.out.cell 7
          have cr8 : wr.cell? ⟨gr, 8, none⟩ = some (.slice (some ⟨gs, os, none⟩) l cap) := Fr.out.cell 8
          go_upto_region 27 with fail
          clear Lr cr0 cr1 cr2 cr3 cr4 cr5 cr6 cr7 cr8
          clear hlt2
          try simp only [List.append_eq, List.cons_append, List.nil_append]
          refine wp_region_noPanic ?_
          refine wp_region_held_drew (S := fun w' => At w' gr 28 #[.int .u64 (wd N 0 : Nat), .int .u64 (wd N 1 : Nat), .int .u64 (wd N 2 : Nat), .int .u64 (wd N 3 : Nat), .int .u64 (wd Y 0 : Nat), .int .u64 (wd Y 1 : Nat), .int .u64 (wd Y 2 : Nat), .int .u64 (wd Y 3 : Nat), .slice (some ⟨gs, os, none⟩) l cap] ∧ Below w.heap.size w w') (by kernel_rfl) (⟨Fr.out.drew, BW.out.drew⟩) (fun _ => ?_)
          refine wpAnyH_cores (fuel := 3) (⟨0, 154, [], Kind.val (.agg #[.int .u64 (wd M 0 : Nat), .int .u64 (wd M 1 : Nat), .int .u64 (wd M 2 : Nat), .int .u64 (wd M 3 : Nat)]), false⟩ :: ⟨1, 155, [], Kind.val (.pointer (some ⟨gr, 8, none⟩)), true⟩ :: ⟨2, 156, [1], Kind.val (.slice (some ⟨gs, os, none⟩) l cap), true⟩ :: ⟨3, 157, [], Kind.val (.int .i64 (i : Nat)), true⟩ :: ⟨4, 158, [2, 3], Kind.val (.pointer (some ⟨gs, os + i * 9, none⟩)), true⟩ :: ⟨5, 159, [4], Kind.val (.pointer (some ⟨gs, os + i * 9, none⟩)), true⟩ :: ⟨6, 160, [5], Kind.val (.agg #[.int .u64 (wd q 0 : Nat), .int .u64 (wd q 1 : Nat), .int .u64 (wd q 2 : Nat), .int .u64 (wd q 3 : Nat)]), true⟩ :: ⟨7, 161, [0, 6], Kind.val (.tuple #[.agg #[.int .u64 (wd D 0 : Nat), .int .u64 (wd D 1 : Nat), .int .u64 (wd D 2 : Nat), .int .u64 (wd D 3 : Nat)], .agg #[.int .u64 (wd u 0 : Nat), .int .u64 (wd u 1 : Nat), .int .u64 (wd u 2 : Nat), .int .u64 (wd u 3 : Nat)], .int .i64 0]), false⟩ :: ⟨8, 153, [7], Kind.val (.tuple #[.agg #[.int .u64 (wd D 0 : Nat), .int .u64 (wd D 1 : Nat), .int .u64 (wd D 2 : Nat), .int .u64 (wd D 3 : Nat)], .agg #[.int .u64 (wd u 0 : Nat), .int .u64 (wd u 1 : Nat), .int .u64 (wd u 2 : Nat), .int .u64 (wd u 3 : Nat)], .int .i64 0]), true⟩ :: ⟨9, 162, [8], Kind.val (.agg #[.int .u64 (wd D 0 : Nat), .int .u64 (wd D 1 : Nat), .int .u64 (wd D 2 : Nat), .int .u64 (wd D 3 : Nat)]), true⟩ :: ⟨10, 163, [8], Kind.val (.agg #[.int .u64 (wd u 0 : Nat), .int .u64 (wd u 1 : Nat), .int .u64 (wd u 2 : Nat), .int .u64 (wd u 3 : Nat)]), true⟩ :: ⟨11, 164, [8], Kind.val (.int .i64 0), true⟩ :: ⟨12, 17, [], Kind.cell wr.heap.size 25 #[.int .u64 0, .int .u64 0, .int .u64 0, .int .u64 0], false⟩ :: ⟨13, 18, [], Kind.cell wr.heap.size 25 #[.int .u64 0, .int .u64 0, .int .u64 0, .int .u64 0], false⟩ :: []) _ _ wr _ ?_ ?_ ?_ ?_ ?_ ?_ ?_ ?_ ?_ ?_ ?_
          ·rfl
          ·kernel_rfl
          ·exact of_decide_eq_true rfl
          ·(repeat refine all_cons ⟨_, rfl, rfl⟩ ?_); exact all_nil
          ·exact fun _ hb => ⟨Fr.out.on hb, bel_tr BW.out hb⟩
          ·exact (Below.refl _ _).drew
          ·kernel_rfl
          ·exact fun _ _ _ _ _ h => h
          ·(repeat (refine all_cons ?_ ?_; rotate_left)); exact all_nil
           ·exact core_pureAs _ (by rfl)
           ·exact core_held _ _ _ _ _ _ _ _ (by rfl) (by rfl) (ko 1) (fun ρ w hx _ => fieldR2 _ _ _ _ _ _ ρ w gr hx)
           ·exact core_held _ _ _ _ _ _ _ _ (by rfl) (by rfl) (kc 1 155) (fun ρ w hx hs => loadR2 _ _ _ _ _ _ ρ w gr _ _ _ _ _ _ _ _ _ hx hs.1)
           ·exact core_move _ _ _ _ _ _ (by rfl) (by rfl) (ko 16)
           ·exact core_held2 _ _ _ _ _ _ _ _ _ _ (by rfl) (by rfl) (kc 2 156) (kc 3 157) (fun ρ w hx hy _ => idxR _ _ _ _ _ _ _ ρ w gs os i l cap HLT.out hx hy)
           ·exact core_held _ _ _ _ _ _ _ _ (by rfl) (by rfl) (kc 4 158) (fun ρ w hx _ => fieldC0 _ _ _ _ _ _ ρ w gs _ hx)
           ·exact core_held _ _ _ _ _ _ _ _ (by rfl) (by rfl) (kc 5 159) (fun ρ w hx hs => loadC0 _ _ _ _ _ _ ρ w gs _ q y2 _ hx (HC.out _ hs.2))
           ·exact core_pureAs _ (by rfl)
           ·exact core_move _ _ _ _ _ _ (by rfl) (by rfl) (kc 7 161)
           ·exact core_extract _ _ 0 _ _ _ _ _ (by rfl) (by rfl) (kc 8 153) (by rfl)
           ·exact core_extract _ _ 1 _ _ _ _ _ (by rfl) (by rfl) (kc 8 153) (by rfl)
           ·exact core_extract _ _ 2 _ _ _ _ _ (by rfl) (by rfl) (kc 8 153) (by rfl)
           ·exact core_pureAs _ (by rfl)
           ·exact core_pureAs _ (by rfl)
          ·(repeat (refine all_cons ?_ ?_; rotate_left)); exact all_nil
           ·exact fun _ => core_load _ _ _ _ _ gm _ _ _ _ (by rfl) (by rfl) (ko 4) Fm.out
           ·exact sA
           ·exact sA
           ·exact sA
           ·exact sA
           ·exact sA
           ·exact sA
           ·exact fun _ => core_call _ 51 _ _ [.tmp 154, .tmp 160] _ _ _ _ _ _ (by rfl) Try.func51 (by kernel_rfl) (by rfl) (by rfl) (.cons (kc 0 154) (.cons (kc 6 160) .nil)) (HCD.out)
           ·exact sA
           ·exact sA
           ·exact sA
           ·exact sA
           ·exact fun _ => core_alloc _ _ _ _ _ (by rfl) (by rfl) (Nat.le_refl _)
           ·exact fun _ => core_alloc _ _ _ _ _ (by rfl) (by rfl) (Nat.le_refl _)
          intro vs y13 hc
          obtain ⟨vv0, vv1, vv2, vv3, vv4, vv5, vv6, vv7, vv8, vv9, vv10, vv11, vv12, vv13, rfl⟩ := len14 vs hc.lv
          have qq0 := okv hc 0
          have qq1 := okv hc 1
          have qq2 := okv hc 2
          have qq3 := okv hc 3
          have qq4 := okv hc 4
          have qq5 := okv hc 5
          have qq6 := okv hc 6
          have qq7 := okv hc 7
          have qq8 := okv hc 8
          have qq9 := okv hc 9
          have qq10 := okv hc 10
          have qq11 := okv hc 11
          obtain ⟨xx, hx, gd, hv, Ed, Ad⟩ := hc.ok 12 _ rfl rfl
          have qq12 : vv12 = .pointer (some ⟨gd, 0, none⟩) := (Option.some.inj (show some vv12 = some xx from hx)).trans hv
          clear hx hv
          obtain ⟨xx, hx, gu, hv, Eu, Au⟩ := hc.ok 13 _ rfl rfl
          have qq13 : vv13 = .pointer (some ⟨gu, 0, none⟩) := (Option.some.inj (show some vv13 = some xx from hx)).trans hv
          clear hx hv
          have Ddu : gd ≠ gu := fun e => hc.far 12 13 _ _ rfl rfl rfl rfl (by decide) rfl rfl (by show some vv12 = some vv13; rw [qq12, qq13, e])
          have BZ := hc.bel
          clear hc
          have Nr := Fr.out.on BZ
          have No := Fo.out.on BZ
          have Nm := Fm.out.on BZ
          have Drd : gr ≠ gd := by have := Fr.out.lt; omega
          have Dod : go ≠ gd := by have := Fo.out.lt; omega
          have Dmd : gm ≠ gd := by have := Fm.out.lt; omega
          have Dru : gr ≠ gu := by have := Fr.out.lt; omega
          have Dou : go ≠ gu := by have := Fo.out.lt; omega
          have Dmu : gm ≠ gu := by have := Fm.out.lt; omega
          have HSZ13 := BW.out.size
          have NB := bel_tr BW.out BZ
          clear BW BZ Fr Fo Fm
          subst qq0 qq1 qq2 qq3 qq4 qq5 qq6 qq7 qq8 qq9 qq10 qq11 qq12 qq13
          simp only [List.map_cons, List.map_nil, over, Act.put, List.setIfInBounds_toArray, List.set_cons_zero, List.set_cons_succ]
          have OLD := Ad
          replace Nr := put4_far Nr Drd (.int .u64 (wd D 0 : Nat)) (.int .u64 (wd D 1 : Nat)) (.int .u64 (wd D 2 : Nat)) (.int .u64 (wd D 3 : Nat))
          replace No := put4_far No Dod (.int .u64 (wd D 0 : Nat)) (.int .u64 (wd D 1 : Nat)) (.int .u64 (wd D 2 : Nat)) (.int .u64 (wd D 3 : Nat))
          replace Nm := put4_far Nm Dmd (.int .u64 (wd D 0 : Nat)) (.int .u64 (wd D 1 : Nat)) (.int .u64 (wd D 2 : Nat)) (.int .u64 (wd D 3 : Nat))
          replace Ad := put4_at Ad (.int .u64 (wd D 0 : Nat)) (.int .u64 (wd D 1 : Nat)) (.int .u64 (wd D 2 : Nat)) (.int .u64 (wd D 3 : Nat))
          replace Au := put4_far Au Ddu.symm (.int .u64 (wd D 0 : Nat)) (.int .u64 (wd D 1 : Nat)) (.int .u64 (wd D 2 : Nat)) (.int .u64 (wd D 3 : Nat))
          replace NB := put4_below NB (Nat.le_trans HSZ13 Ed) (.int .u64 (wd D 0 : Nat)) (.int .u64 (wd D 1 : Nat)) (.int .u64 (wd D 2 : Nat)) (.int .u64 (wd D 3 : Nat))
          refine store_one (i := 14) _ _ _ _ _ gd _ _ _ _ _ _ _ _ (by kernel_rfl) (by rfl) (by rfl) (by rfl) OLD (⟨Nr, NB⟩) ?_
          clear OLD
          generalize (put4 y13 gd (.int .u64 (wd D 0 : Nat)) (.int .u64 (wd D 1 : Nat)) (.int .u64 (wd D 2 : Nat)) (.int .u64 (wd D 3 : Nat))) = y13_14 at *
          have OLD := Au
          replace Nr := put4_far Nr Dru (.int .u64 (wd u 0 : Nat)) (.int .u64 (wd u 1 : Nat)) (.int .u64 (wd u 2 : Nat)) (.int .u64 (wd u 3 : Nat))
          replace No := put4_far No Dou (.int .u64 (wd u 0 : Nat)) (.int .u64 (wd u 1 : Nat)) (.int .u64 (wd u 2 : Nat)) (.int .u64 (wd u 3 : Nat))
          replace Nm := put4_far Nm Dmu (.int .u64 (wd u 0 : Nat)) (.int .u64 (wd u 1 : Nat)) (.int .u64 (wd u 2 : Nat)) (.int .u64 (wd u 3 : Nat))
          replace Ad := put4_far Ad Ddu (.int .u64 (wd u 0 : Nat)) (.int .u64 (wd u 1 : Nat)) (.int .u64 (wd u 2 : Nat)) (.int .u64 (wd u 3 : Nat))
          replace Au := put4_at Au (.int .u64 (wd u 0 : Nat)) (.int .u64 (wd u 1 : Nat)) (.int .u64 (wd u 2 : Nat)) (.int .u64 (wd u 3 : Nat))
          replace NB := put4_below NB (Nat.le_trans HSZ13 Eu) (.int .u64 (wd u 0 : Nat)) (.int .u64 (wd u 1 : Nat)) (.int .u64 (wd u 2 : Nat)) (.int .u64 (wd u 3 : Nat))
          refine store_one (i := 15) _ _ _ _ _ gu _ _ _ _ _ _ _ _ (by kernel_rfl) (by rfl) (by rfl) (by rfl) OLD (⟨Nr, NB⟩) ?_
          clear OLD
          generalize (put4 y13_14 gu (.int .u64 (wd u 0 : Nat)) (.int .u64 (wd u 1 : Nat)) (.int .u64 (wd u 2 : Nat)) (.int .u64 (wd u 3 : Nat))) = y13_15 at *
          refine assign_one (i := 16) _ 19 _ _ _ (.int .i64 0) (by kernel_rfl) (by rfl) (by rfl) (⟨Nr, NB⟩) ?_
          try simp only [Act.put, List.setIfInBounds_toArray, List.set_cons_zero, List.set_cons_succ]
          refine wpAnyH_done (by kernel_rfl) ?_ _
          refine NoPanic.normal ?_
          have Fr := Lib.hid Nr
          have Fo := Lib.hid No
          have Fm := Lib.hid Nm
          have Fd := Lib.hid Ad
          have Fu := Lib.hid Au
          have BW := Lib.hid NB
          clear NB Nr No Nm Ad Au
          clear Ed
          clear Eu
          clear HSZ13
          have Lr := Fr.out.lt
          have cr0 : y13_15.cell? ⟨gr, 0, none⟩ = some (.int .u64 (wd N 0 : Nat)) := Fr.out.cell 0
          have cr1 : y13_15.cell? ⟨gr, 1, none⟩ = some (.int .u64 (wd N 1 : Nat)) := Fr.out.cell 1
          have cr2 : y13_15.cell? ⟨gr, 2, none⟩ = some (.int .u64 (wd N 2 : Nat)) := Fr.out.cell 2
          have cr3 : y13_15.cell? ⟨gr, 3, none⟩ = some (.int .u64 (wd N 3 : Nat)) := Fr.out.cell 3
          have cr4 : y13_15.cell? ⟨gr, 4, none⟩ = some (.int .u64 (wd Y 0 : Nat)) := Fr.out.cell 4
          have cr5 : y13_15.cell? ⟨gr, 5, none⟩ = some (.int .u64 (wd Y 1 : Nat)) := Fr.out.cell 5
          have cr6 : y13_15.cell? ⟨gr, 6, none⟩ = some (.int .u64 (wd Y 2 : Nat)) := Fr.out.cell 6
          have cr7 : y13_15.cell? ⟨gr, 7, none⟩ = some (.int .u64 (wd Y 3 : Nat)) := Fr.out.cell 7
          have cr8 : y13_15.cell? ⟨gr, 8, none⟩ = some (.slice (some ⟨gs, os, none⟩) l cap) := Fr.out.cell 8
          have Ld := Fd.out.lt
          have cd0 := Fd.out.c0
          have cd1 := Fd.out.c1
          have cd2 := Fd.out.c2
          have cd3 := Fd.out.c3
          go_wp2_with fail
          clear Lr cr0 cr1 cr2 cr3 cr4 cr5 cr6 cr7 cr8 Ld cd0 cd1 cd2 cd3
          refine (HCE2.out _).mono ?_
          rintro e v14 ⟨rfl, z14⟩
          have Nr := Lib.hid (Fr.out.on z14)
          have No := Lib.hid (Fo.out.on z14)
          have Nm := Lib.hid (Fm.out.on z14)
          have Nd := Lib.hid (Fd.out.on z14)
          have Nu := Lib.hid (Fu.out.on z14)
          have NB := Lib.hid (bel_tr BW.out z14)
          clear BW z14 Fr Fo Fm Fd Fu
          have Fr := Nr
          have Fo := No
          have Fm := Nm
          have Fd := Nd
          have Fu := Nu
          have BW := NB
          clear NB Nr No Nm Nd Nu
          go_upto_region 29 with fail
          have Ey : w.heap.size ≤ v14.heap.size := by have := BW.out.size; omega
          have Dry : gr ≠ v14.heap.size := by have := Fr.out.lt; omega
          have Doy : go ≠ v14.heap.size := by have := Fo.out.lt; omega
          have Dmy : gm ≠ v14.heap.size := by have := Fm.out.lt; omega
          have Ddy : gd ≠ v14.heap.size := by have := Fd.out.lt; omega
          have Duy : gu ≠ v14.heap.size := by have := Fu.out.lt; omega
          generalize hW15 : (v14.alloc (.cells #[.int .u64 (wd X2 0 : Nat), .int .u64 (wd X2 1 : Nat), .int .u64 (wd X2 2 : Nat), .int .u64 (wd X2 3 : Nat)] 25)) = W15 at *
          have Ny : At W15 (v14.heap.size) _ _ := at_of hW15 (At.at_ _ _ _ _ (by simp))
          have Nr := at_of hW15 (Fr.out.alloc _)
          have No := at_of hW15 (Fo.out.alloc _)
          have Nm := at_of hW15 (Fm.out.alloc _)
          have Nd := at_of hW15 (Fd.out.alloc _)
          have Nu := at_of hW15 (Fu.out.alloc _)
          have NB := gr_of hW15 (gr_alloc BW.out _)
          clear hW15 BW Fr Fo Fm Fd Fu
          generalize v14.heap.size = gy at *
          have Fr := Lib.hid Nr
          have Fo := Lib.hid No
          have Fm := Lib.hid Nm
          have Fd := Lib.hid Nd
          have Fu := Lib.hid Nu
          have Fy := Lib.hid Ny
          have BW := Lib.hid NB
          clear NB Nr No Nm Nd Nu Ny
          have Ly := Fy.out.lt
          have cy0 := Fy.out.c0
          have cy1 := Fy.out.c1
          have cy2 := Fy.out.c2
          have cy3 := Fy.out.c3
          have Lo := Fo.out.lt
          have co0 := Fo.out.c0
          have co1 := Fo.out.c1
          have co2 := Fo.out.c2
          have co3 := Fo.out.c3
          have Lr := Fr.out.lt
          have cr0 : W15.cell? ⟨gr, 0, none⟩ = some (.int .u64 (wd N 0 : Nat)) := Fr.out.cell 0
          have cr1 : W15.cell? ⟨gr, 1, none⟩ = some (.int .u64 (wd N 1 : Nat)) := Fr.out.cell 1
          have cr2 : W15.cell? ⟨gr, 2, none⟩ = some (.int .u64 (wd N 2 : Nat)) := Fr.out.cell 2
          have cr3 : W15.cell? ⟨gr, 3, none⟩ = some (.int .u64 (wd N 3 : Nat)) := Fr.out.cell 3
          have cr4 : W15.cell? ⟨gr, 4, none⟩ = some (.int .u64 (wd Y 0 : Nat)) := Fr.out.cell 4
          have cr5 : W15.cell? ⟨gr, 5, none⟩ = some (.int .u64 (wd Y 1 : Nat)) := Fr.out.cell 5
          have cr6 : W15.cell? ⟨gr, 6, none⟩ = some (.int .u64 (wd Y 2 : Nat)) := Fr.out.cell 6
          have cr7 : W15.cell? ⟨gr, 7, none⟩ = some (.int .u64 (wd Y 3 : Nat)) := Fr.out.cell 7
          have cr8 : W15.cell? ⟨gr, 8, none⟩ = some (.slice (some ⟨gs, os, none⟩) l cap) := Fr.out.cell 8
          go_wp2_with fail
          clear Ly cy0 cy1 cy2 cy3 Lo co0 co1 co2 co3 Lr cr0 cr1 cr2 cr3 cr4 cr5 cr6 cr7 cr8
          refine (HCS2.out _).mono ?_
          rintro e v16 ⟨rfl, z16⟩
          have Nr := Lib.hid (Fr.out.on z16)
          have No := Lib.hid (Fo.out.on z16)
          have Nm := Lib.hid (Fm.out.on z16)
          have Nd := Lib.hid (Fd.out.on z16)
          have Nu := Lib.hid (Fu.out.on z16)
          have Ny := Lib.hid (Fy.out.on z16)
          have NB := Lib.hid (bel_tr BW.out z16)
          clear BW z16 Fr Fo Fm Fd Fu Fy
          have Fr := Nr
          have Fo := No
          have Fm := Nm
          have Fd := Nd
          have Fu := Nu
          have Fy := Ny
          have BW := NB
          clear NB Nr No Nm Nd Nu Ny
          have Ly := Fy.out.lt
          have cy0 := Fy.out.c0
          have cy1 := Fy.out.c1
          have cy2 := Fy.out.c2
          have cy3 := Fy.out.c3
          have fy0 : v16.frozen? ⟨gy, 0, none⟩ = false := Fy.out.frozen 0
          have fy1 : v16.frozen? ⟨gy, 1, none⟩ = false := Fy.out.frozen 1
          have fy2 : v16.frozen? ⟨gy, 2, none⟩ = false := Fy.out.frozen 2
          have fy3 : v16.frozen? ⟨gy, 3, none⟩ = false := Fy.out.frozen 3
          go_upto_region 30 with fail
          clear Ly cy0 cy1 cy2 cy3 fy0 fy1 fy2 fy3
          generalize hW17 : ((((v16.setCell ⟨gy, 0, none⟩ (.int .u64 (wd Z 0 : Nat))).setCell ⟨gy, 1, none⟩ (.int .u64 (wd Z 1 : Nat))).setCell ⟨gy, 2, none⟩ (.int .u64 (wd Z 2 : Nat))).setCell ⟨gy, 3, none⟩ (.int .u64 (wd Z 3 : Nat))) = W17 at *
          have Nr := at_of hW17 ((Fr.out).far4 Dry _ _ _ _)
          have No := at_of hW17 ((Fo.out).far4 Doy _ _ _ _)
          have Nm := at_of hW17 ((Fm.out).far4 Dmy _ _ _ _)
          have Nd := at_of hW17 ((Fd.out).far4 Ddy _ _ _ _)
          have Nu := at_of hW17 ((Fu.out).far4 Duy _ _ _ _)
          have Ny := at_of hW17 ((Fy.out).put4 _ _ _ _)
          have NB := gr_of hW17 (((((BW.out).setCell Ey _).setCell Ey _).setCell Ey _).setCell Ey _)
          clear hW17 BW Fr Fo Fm Fd Fu Fy
          have Fr := Lib.hid Nr
          have Fo := Lib.hid No
          have Fm := Lib.hid Nm
          have Fd := Lib.hid Nd
          have Fu := Lib.hid Nu
          have Fy := Lib.hid Ny
          have BW := Lib.hid NB
          clear NB Nr No Nm Nd Nu Ny
          by_cases hg : G = 1
          ·have hE := HEG.out
           rw [decide_eq_true hg] at hE
           have HEE := Lib.hid hE; have HGG := Lib.hid hg
           clear hE hg
           try simp only [List.append_eq, List.cons_append, List.nil_append]
           refine wp_region_noPanic ?_
           refine wp_region_held_drew (S := fun w' => At w' gy 25 #[.int .u64 (wd Z 0 : Nat), .int .u64 (wd Z 1 : Nat), .int .u64 (wd Z 2 : Nat), .int .u64 (wd Z 3 : Nat)] ∧ At w' gr 28 #[.int .u64 (wd N 0 : Nat), .int .u64 (wd N 1 : Nat), .int .u64 (wd N 2 : Nat), .int .u64 (wd N 3 : Nat), .int .u64 (wd Y 0 : Nat), .int .u64 (wd Y 1 : Nat), .int .u64 (wd Y 2 : Nat), .int .u64 (wd Y 3 : Nat), .slice (some ⟨gs, os, none⟩) l cap] ∧ At w' go 25 #[.int .u64 (wd 1 0 : Nat), .int .u64 (wd 1 1 : Nat), .int .u64 (wd 1 2 : Nat), .int .u64 (wd 1 3 : Nat)]) (by kernel_rfl) (⟨Fy.out.drew, Fr.out.drew, Fo.out.drew⟩) (fun _ => ?_)
           refine wpAnyH_cores (fuel := 0) (⟨0, 182, [], Kind.val (.agg #[.int .u64 (wd Z 0 : Nat), .int .u64 (wd Z 1 : Nat), .int .u64 (wd Z 2 : Nat), .int .u64 (wd Z 3 : Nat)]), true⟩ :: ⟨1, 183, [0], Kind.val (.pointer (some ⟨gr, 0, none⟩)), true⟩ :: ⟨2, 184, [1], Kind.val (.agg #[.int .u64 (wd N 0 : Nat), .int .u64 (wd N 1 : Nat), .int .u64 (wd N 2 : Nat), .int .u64 (wd N 3 : Nat)]), true⟩ :: ⟨4, 186, [2], Kind.val (.agg #[.int .u64 (wd 1 0 : Nat), .int .u64 (wd 1 1 : Nat), .int .u64 (wd 1 2 : Nat), .int .u64 (wd 1 3 : Nat)]), true⟩ :: ⟨3, 185, [0, 2, 3], Kind.val (.agg #[.int .u64 (wd G 0 : Nat), .int .u64 (wd G 1 : Nat), .int .u64 (wd G 2 : Nat), .int .u64 (wd G 3 : Nat)]), false⟩ :: ⟨5, 187, [3, 4], Kind.val (.bool false), true⟩ :: []) _ _ W17 _ ?_ ?_ ?_ ?_ ?_ ?_ ?_ ?_ ?_ ?_ ?_
           ·rfl
           ·kernel_rfl
           ·exact of_decide_eq_true (by kernel_rfl)
           ·(repeat refine all_cons ⟨_, by rfl, by rfl⟩ ?_); exact all_nil
           ·exact fun _ hb => ⟨Fy.out.on hb, Fr.out.on hb, Fo.out.on hb⟩
           ·exact (Below.refl _ _).drew
           ·kernel_rfl
           ·exact fun _ _ _ _ _ h => h
           ·(repeat (refine all_cons ?_ ?_; rotate_left)); exact all_nil
            ·exact coreG_loadP _ _ _ _ _ _ gy _ _ _ _ (by rfl) (by rfl) (wants_none) (ko 20) (fun _ hs => hs.1)
            ·exact coreG_held _ _ _ _ _ _ _ _ _ (by rfl) (by rfl) (wants_none) (ko 1) (fun ρ w hx _ => fieldR0 _ _ _ _ _ _ ρ w gr hx)
            ·exact coreG_held _ _ _ _ _ _ _ _ _ (by rfl) (by rfl) (wants_none) (kc 1 183) (fun ρ w hx hs => loadR0 _ _ _ _ _ _ ρ w gr _ _ _ _ _ _ _ _ _ hx (hs.2.1))
            ·exact coreG_loadP _ _ _ _ _ _ go _ _ _ _ (by rfl) (by rfl) (wants_none) (ko 3) (fun _ hs => hs.2.2)
            ·exact core_pureAs _ (by rfl)
            ·exact coreG_bin _ _ _ _ _ _ _ _ _ _ _ _ _ (by rfl) (by rfl) (wants_none) (kc 4 185) (kc 3 186) (neq_run true _ _ _ _ _ _ _ _ _ _ _ _ _ _ _ (HEE.out))
           ·(repeat (refine all_cons ?_ ?_; rotate_left)); exact all_nil
            ·exact sA
            ·exact sA
            ·exact sA
            ·exact sA
            ·exact fun _ => coreG_call _ 56 _ _ [.tmp 182, .tmp 184] _ _ _ _ _ _ _ (by rfl) Try.func56 (by kernel_rfl) (by rfl) (by rfl) (wants_none) (.cons (kc 0 182) (.cons (kc 2 184) .nil)) (HCC.out)
            ·exact sA
           intro vs y18 hc
           obtain ⟨vv0, vv1, vv2, vv3, vv4, vv5, rfl⟩ := len6 vs hc.lv
           have qq0 := okv hc 0
           have qq1 := okv hc 1
           have qq2 := okv hc 2
           have qq3 := okv hc 3
           have qq4 := okv hc 4
           have qq5 := okv hc 5
           have BZ := hc.bel
           clear hc
           have Nr := Fr.out.on BZ
           have No := Fo.out.on BZ
           have Nm := Fm.out.on BZ
           have Nd := Fd.out.on BZ
           have Nu := Fu.out.on BZ
           have Ny := Fy.out.on BZ
           have NB := bel_tr BW.out BZ
           clear BW BZ Fr Fo Fm Fd Fu Fy
           subst qq0 qq1 qq2 qq3 qq4 qq5
           simp only [List.map_cons, List.map_nil, over, Act.put, List.setIfInBounds_toArray, List.set_cons_zero, List.set_cons_succ]
           refine wpAnyH_done (by kernel_rfl) ?_ _
           refine NoPanic.normal ?_
           have Fr := Lib.hid Nr
           have Fo := Lib.hid No
           have Fm := Lib.hid Nm
           have Fd := Lib.hid Nd
           have Fu := Lib.hid Nu
           have Fy := Lib.hid Ny
           have BW := Lib.hid NB
           clear NB Nr No Nm Nd Nu Ny
           have hiw := HIW.out
           go_wp2_with fail
           go_roundw
           case measure => (have := HLT.out; simp [intOf]; omega)
           case rel =>
            have hlt := HLT.out
            have hA : ∀ j (hj : j < ps.length), j < i + 1 → witQ N Y (ps[j]).n = true := fun j hj hji => by
             rcases Nat.lt_or_ge j i with h | h
             ·exact HJ.out j hj h
             ·obtain rfl : j = i := by omega
              obtain ⟨_, hq1⟩ := HIL.out
              rw [hq1, HWQ.out]; exact decide_eq_true HGG.out
            first
             | exact ⟨i + 1, by omega, by go_num, Fr.out, Fo.out, Fm.out, BW.out, hA⟩
             | ((repeat apply Exists.intro); exact ⟨⟨i + 1, by omega, by go_num, Fr.out, Fo.out, Fm.out, BW.out, hA⟩, rfl⟩)
          ·have hE := HEG.out
           rw [decide_eq_false hg] at hE
           have HEE := Lib.hid hE; have HGG := Lib.hid hg
           clear hE hg
           try simp only [List.append_eq, List.cons_append, List.nil_append]
           refine wp_region_noPanic ?_
           refine wp_region_held_drew (S := fun w' => At w' gy 25 #[.int .u64 (wd Z 0 : Nat), .int .u64 (wd Z 1 : Nat), .int .u64 (wd Z 2 : Nat), .int .u64 (wd Z 3 : Nat)] ∧ At w' gr 28 #[.int .u64 (wd N 0 : Nat), .int .u64 (wd N 1 : Nat), .int .u64 (wd N 2 : Nat), .int .u64 (wd N 3 : Nat), .int .u64 (wd Y 0 : Nat), .int .u64 (wd Y 1 : Nat), .int .u64 (wd Y 2 : Nat), .int .u64 (wd Y 3 : Nat), .slice (some ⟨gs, os, none⟩) l cap] ∧ At w' go 25 #[.int .u64 (wd 1 0 : Nat), .int .u64 (wd 1 1 : Nat), .int .u64 (wd 1 2 : Nat), .int .u64 (wd 1 3 : Nat)]) (by kernel_rfl) (⟨Fy.out.drew, Fr.out.drew, Fo.out.drew⟩) (fun _ => ?_)
           refine wpAnyH_cores (fuel := 0) (⟨0, 182, [], Kind.val (.agg #[.int .u64 (wd Z 0 : Nat), .int .u64 (wd Z 1 : Nat), .int .u64 (wd Z 2 : Nat), .int .u64 (wd Z 3 : Nat)]), true⟩ :: ⟨1, 183, [0], Kind.val (.pointer (some ⟨gr, 0, none⟩)), true⟩ :: ⟨2, 184, [1], Kind.val (.agg #[.int .u64 (wd N 0 : Nat), .int .u64 (wd N 1 : Nat), .int .u64 (wd N 2 : Nat), .int .u64 (wd N 3 : Nat)]), true⟩ :: ⟨4, 186, [2], Kind.val (.agg #[.int .u64 (wd 1 0 : Nat), .int .u64 (wd 1 1 : Nat), .int .u64 (wd 1 2 : Nat), .int .u64 (wd 1 3 : Nat)]), true⟩ :: ⟨3, 185, [0, 2, 3], Kind.val (.agg #[.int .u64 (wd G 0 : Nat), .int .u64 (wd G 1 : Nat), .int .u64 (wd G 2 : Nat), .int .u64 (wd G 3 : Nat)]), false⟩ :: ⟨5, 187, [3, 4], Kind.val (.bool true), true⟩ :: []) _ _ W17 _ ?_ ?_ ?_ ?_ ?_ ?_ ?_ ?_ ?_ ?_ ?_
           ·rfl
           ·kernel_rfl
           ·exact of_decide_eq_true (by kernel_rfl)
           ·(repeat refine all_cons ⟨_, by rfl, by rfl⟩ ?_); exact all_nil
           ·exact fun _ hb => ⟨Fy.out.on hb, Fr.out.on hb, Fo.out.on hb⟩
           ·exact (Below.refl _ _).drew
           ·kernel_rfl
           ·exact fun _ _ _ _ _ h => h
           ·(repeat (refine all_cons ?_ ?_; rotate_left)); exact all_nil
            ·exact coreG_loadP _ _ _ _ _ _ gy _ _ _ _ (by rfl) (by rfl) (wants_none) (ko 20) (fun _ hs => hs.1)
            ·exact coreG_held _ _ _ _ _ _ _ _ _ (by rfl) (by rfl) (wants_none) (ko 1) (fun ρ w hx _ => fieldR0 _ _ _ _ _ _ ρ w gr hx)
            ·exact coreG_held _ _ _ _ _ _ _ _ _ (by rfl) (by rfl) (wants_none) (kc 1 183) (fun ρ w hx hs => loadR0 _ _ _ _ _ _ ρ w gr _ _ _ _ _ _ _ _ _ hx (hs.2.1))
            ·exact coreG_loadP _ _ _ _ _ _ go _ _ _ _ (by rfl) (by rfl) (wants_none) (ko 3) (fun _ hs => hs.2.2)
            ·exact core_pureAs _ (by rfl)
            ·exact coreG_bin _ _ _ _ _ _ _ _ _ _ _ _ _ (by rfl) (by rfl) (wants_none) (kc 4 185) (kc 3 186) (neq_run false _ _ _ _ _ _ _ _ _ _ _ _ _ _ _ (HEE.out))
           ·(repeat (refine all_cons ?_ ?_; rotate_left)); exact all_nil
            ·exact sA
            ·exact sA
            ·exact sA
            ·exact sA
            ·exact fun _ => coreG_call _ 56 _ _ [.tmp 182, .tmp 184] _ _ _ _ _ _ _ (by rfl) Try.func56 (by kernel_rfl) (by rfl) (by rfl) (wants_none) (.cons (kc 0 182) (.cons (kc 2 184) .nil)) (HCC.out)
            ·exact sA
           intro vs y18 hc
           obtain ⟨vv0, vv1, vv2, vv3, vv4, vv5, rfl⟩ := len6 vs hc.lv
           have qq0 := okv hc 0
           have qq1 := okv hc 1
           have qq2 := okv hc 2
           have qq3 := okv hc 3
           have qq4 := okv hc 4
           have qq5 := okv hc 5
           have BZ := hc.bel
           clear hc
           have Nr := Fr.out.on BZ
           have No := Fo.out.on BZ
           have Nm := Fm.out.on BZ
           have Nd := Fd.out.on BZ
           have Nu := Fu.out.on BZ
           have Ny := Fy.out.on BZ
           have NB := bel_tr BW.out BZ
           clear BW BZ Fr Fo Fm Fd Fu Fy
           subst qq0 qq1 qq2 qq3 qq4 qq5
           simp only [List.map_cons, List.map_nil, over, Act.put, List.setIfInBounds_toArray, List.set_cons_zero, List.set_cons_succ]
           refine wpAnyH_done (by kernel_rfl) ?_ _
           refine NoPanic.normal ?_
           have Fr := Lib.hid Nr
           have Fo := Lib.hid No
           have Fm := Lib.hid Nm
           have Fd := Lib.hid Nd
           have Fu := Lib.hid Nu
           have Fy := Lib.hid Ny
           have BW := Lib.hid NB
           clear NB Nr No Nm Nd Nu Ny
           have HV3 := Lib.hid (show V = false from by rw [HW.out, HQS.out]; exact witB_no HIL.out (by rw [HWQ.out]; exact decide_eq_false HGG.out))
           go_wp2
           go_ret
           exact ⟨by rw [HV3.out]; rfl, BW.out⟩
         ·have hlt2 : ¬ (i : Int) < (l : Int) := by omega
          have HII := Lib.hid (show i = l by omega)
          clear hlt
          have Lr := Fr.out.lt
          have cr0 : wr.cell? ⟨gr, 0, none⟩ = some (.int .u64 (wd N 0 : Nat)) := Fr.out.cell 0
          have cr1 : wr.cell? ⟨gr, 1, none⟩ = some (.int .u64 (wd N 1 : Nat)) := Fr.out.cell 1
          have cr2 : wr.cell? ⟨gr, 2, none⟩ = some (.int .u64 (wd N 2 : Nat)) := Fr.out.cell 2
          have cr3 : wr.cell? ⟨gr, 3, none⟩ = some (.int .u64 (wd N 3 : Nat)) := Fr.out.cell 3
          have cr4 : wr.cell? ⟨gr, 4, none⟩ = some (.int .u64 (wd Y 0 : Nat)) := Fr.out.cell 4
          have cr5 : wr.cell? ⟨gr, 5, none⟩ = some (.int .u64 (wd Y 1 : Nat)) := Fr.out.cell 5
          have cr6 : wr.cell? ⟨gr, 6, none⟩ = some (.int .u64 (wd Y 2 : Nat)) := Fr.out.cell 6
          have cr7 : wr.cell? ⟨gr, 7, none⟩ = some (.int .u64 (wd Y 3 : Nat)) := Fr.out.cell 7
          have cr8 : wr.cell? ⟨gr, 8, none⟩ = some (.slice a l cap) := Fr.out.cell 8
          go_wp2
          go_ret
          exact ⟨by rw [HW.out, HQS.out, witB_all HH1.out HH2.out (by rw [← HM.out, ← HE.out]; exact HH3.out) (fun j hj => HJ.out j hj (by rw [HII.out, ← HL.out]; exact hj))]; rfl, BW.out⟩
       ·rw [decide_eq_false h3] at eqx
        have HH3 := Lib.hid h3; clear h3
        have Lx := Fx.out.lt
        have cx0 := Fx.out.c0
        have cx1 := Fx.out.c1
        have cx2 := Fx.out.c2
        have cx3 := Fx.out.c3
        have Lo := Fo.out.lt
        have co0 := Fo.out.c0
        have co1 := Fo.out.c1
        have co2 := Fo.out.c2
        have co3 := Fo.out.c3
        have HV3 := Lib.hid (show V = false from by rw [HW.out]; have h := HH3.out; rw [HE.out, HM.out] at h; simp [witB, h])
        go_wp2
        go_ret
        exact ⟨by rw [HV3.out]; rfl, BW.out⟩
      ·have hk2 := cmpN_ge0 (Nat.le_of_not_lt h2)
       have HKK := Lib.hid HK2.out
       have HH2 := Lib.hid h2; clear h2 HK2
       generalize cmpN Y N = k2 at *
       refine (HKK.out _).mono ?_
       rintro e v10 ⟨rfl, z10⟩
       have Nr := Lib.hid (Fr.out.on z10)
       have No := Lib.hid (Fo.out.on z10)
       have Nm := Lib.hid (Fm.out.on z10)
       have Nf := Lib.hid (Ff.out.on z10)
       have Na := Lib.hid (Fa.out.on z10)
       have Nb := Lib.hid (Fb.out.on z10)
       have NB := Lib.hid (bel_tr BW.out z10)
       clear BW z10 Fr Fo Fm Ff Fa Fb
       have Fr := Nr
       have Fo := No
       have Fm := Nm
       have Ff := Nf
       have Fa := Na
       have Fb := Nb
       have BW := NB
       clear NB Nr No Nm Nf Na Nb
       have HV3 := Lib.hid (show V = false from by rw [HW.out]; simp [witB, HH2.out])
       go_wp2
       go_ret
       exact ⟨by rw [HV3.out]; rfl, BW.out⟩
     ·have hk := cmpN_le0 (Nat.le_of_not_lt h1)
      have HK := Lib.hid HK1.out
      have HH1 := Lib.hid h1; clear h1 HK1
      generalize cmpN Y 1 = k at *
      go_wp2_with fail
      refine (HK.out _).mono ?_
      rintro e v9 ⟨rfl, z9⟩
      have Nr := Lib.hid (Fr.out.on z9)
      have No := Lib.hid (Fo.out.on z9)
      have Nm := Lib.hid (Fm.out.on z9)
      have Nf := Lib.hid (Ff.out.on z9)
      have Na := Lib.hid (Fa.out.on z9)
      have Nb := Lib.hid (Fb.out.on z9)
      have NB := Lib.hid (bel_tr BW.out z9)
      clear BW z9 Fr Fo Fm Ff Fa Fb
      have Fr := Nr
      have Fo := No
      have Fm := Nm
      have Ff := Nf
      have Fa := Na
      have Fb := Nb
      have BW := NB
      clear NB Nr No Nm Nf Na Nb
      have HV3 := Lib.hid (show V = false from by rw [HW.out]; simp [witB, HH1.out])
      go_wp2
      go_ret
      exact ⟨by rw [HV3.out]; rfl, BW.out⟩

theorem rholds_any : ∀ (k : Nat) (r : Rsn), r.cnt ≤ k → RH r
 | 0, r, h => by have := Pr.cnt_pos r; omega
 | k + 1, r, h => rholds_step r fun p hp => rholds_any k p (by have := Pr.cnt_part hp; omega)
end Go.Proofs.Ytnphoelbbgmehaa
