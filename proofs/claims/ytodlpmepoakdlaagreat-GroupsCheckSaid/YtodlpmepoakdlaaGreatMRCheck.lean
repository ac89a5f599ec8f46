import Derived.Deep.Cut
import Derived.Test.YtodlpmepoakdlaaGreatMRHolds
import Derived.Test.YtodlpmepoakdlaaGreatMSmall
namespace Go.Proofs.YtodlpmepoakdlaaGreat
set_option maxRecDepth 100000
set_option maxHeartbeats 8000000
open Go.RowKit
set_option linter.unusedSimpArgs false
set_option linter.unusedVariables false
attribute [local go_sem ↓] Go.wp_at_zero Go.wp_at_succ

theorem rcheck_any (r : Pr.Rsn) (a : Option Addr) (cap : Nat) (hN : r.n < 2 ^ 256) (hY : r.w < 2 ^ 256) (w : World) (hs : Sl w a cap r.ps) :
  Calls Tryz.prog 31 #[rv r.n r.w (.slice a r.ps.length cap)] w fun e w' => e = .returned (.bool r.holds) ∧ Below w.heap.size w w' := by
 have CM := fun (u : World) (hb : Below w.heap.size w u) => many_any w _ r.ps (Nat.le_refl _) a cap 1 u (by decide) hs hb
 have CH := fun (u : World) (hb : Below w.heap.size w u) => rholds_any r.cnt r (Nat.le_refl _) a cap u hN hY (hs.on hb)
 obtain ⟨N, hNe⟩ : ∃ N, N = r.n := ⟨_, rfl⟩
 obtain ⟨Y, hYe⟩ : ∃ Y, Y = r.w := ⟨_, rfl⟩
 obtain ⟨l, hl⟩ : ∃ l, r.ps.length = l := ⟨_, rfl⟩
 obtain ⟨V, hV⟩ : ∃ V, V = r.holds := ⟨_, rfl⟩
 obtain ⟨b, hb⟩ : ∃ b, b = r.ok := ⟨_, rfl⟩
 obtain ⟨c, hc⟩ : ∃ c, c = min 33 (1 + Pr.cnts r.ps) := ⟨_, rfl⟩
 have hv : V = (decide ((c : Int) ≤ 32) && b) := by
  rw [hV, hb]
  have h1 := Jen r
  simp only [Pr.Rsn.holds]
  congr 1
  rw [decide_eq_decide]
  omega
 have hcb : c ≤ 33 := by omega
 rw [← hNe, ← hYe, hl, ← hV]
 rw [hl, ← hc] at CM
 rw [← hNe, ← hYe, hl, ← hb] at CH
 have HCM := Jfg CM; have HCH := Jfg CH; have HV := Jfg hv
 clear CM CH hN hY hs hNe hYe hl hV hb hc hv
 go_enter Tryz.func31, Tryz.ntmps31
 have BW := Jfg (Below.refl w.heap.size w)
 go_upto_region 1 with fail
 generalize hW1 : (w.alloc (.cells #[.int .u64 (wd N 0), .int .u64 (wd N 1), .int .u64 (wd N 2), .int .u64 (wd N 3), .int .u64 (wd Y 0), .int .u64 (wd Y 1), .int .u64 (wd Y 2), .int .u64 (wd Y 3), .slice a l cap] 29)) = W1 at *
 have Nr : At W1 (w.heap.size) _ _ := Jb hW1 (At.at_ _ _ _ _ (by simp))
 have NB := gr_of hW1 (gr_alloc BW.out _)
 clear hW1 BW 
 obtain ⟨gr, hg0⟩ : ∃ g, g = w.heap.size := ⟨_, rfl⟩
 rw [← hg0] at Nr ⊢
 have Er : w.heap.size ≤ gr := by omega
 clear hg0
 have Fr := Jfg Nr
 have BW := Jfg NB
 clear NB Nr
 have Lr := Fr.out.lt
 obtain ⟨cr0, cr1, cr2, cr3, cr4, cr5, cr6, cr7, cr8⟩ := Jah Fr.out
 go_wp2_with fail
 clear Lr cr0 cr1 cr2 cr3 cr4 cr5 cr6 cr7 cr8
 refine (HCM.out _ BW.out).mono ?_
 rintro e v2 ⟨rfl, z2⟩
 have Nr := Jfg (Fr.out.on z2)
 have NB := Jfg (bel_tr BW.out z2)
 clear BW z2 Fr
 have Fr := Nr
 have BW := NB
 clear NB Nr
 by_cases hk : (c : Int) ≤ 32
 ·have HVV := Jfg (show V = b by rw [HV.out, decide_eq_true hk, Bool.true_and])
  have Lr := Fr.out.lt
  obtain ⟨cr0, cr1, cr2, cr3, cr4, cr5, cr6, cr7, cr8⟩ := Jah Fr.out
  go_wp2_with fail
  clear Lr cr0 cr1 cr2 cr3 cr4 cr5 cr6 cr7 cr8
  refine (HCH.out _ BW.out).mono ?_
  rintro e v3 ⟨rfl, z3⟩
  have Nr := Jfg (Fr.out.on z3)
  have NB := Jfg (bel_tr BW.out z3)
  clear BW z3 Fr
  have Fr := Nr
  have BW := NB
  clear NB Nr
  go_wp2
  go_ret
  exact ⟨by rw [HVV.out]; cases b <;> rfl, BW.out⟩
 ·have HVV := Jfg (show V = false by rw [HV.out, decide_eq_false hk, Bool.false_and])
  go_wp2
  go_ret
  exact ⟨by rw [HVV.out]; rfl, BW.out⟩
end Go.Proofs.YtodlpmepoakdlaaGreat
