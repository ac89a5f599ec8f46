import Derived.Deep.Cut
import Derived.Test.YtodlpmepoakdlaaGreatMReach
import Derived.Test.YtodlpmepoakdlaaGreatMSmall
namespace Go.Proofs.YtodlpmepoakdlaaGreat
set_option maxRecDepth 100000
set_option maxHeartbeats 8000000
open Go.RowKit
set_option linter.unusedSimpArgs false
set_option linter.unusedVariables false
attribute [local go_sem ↓] Go.wp_at_zero Go.wp_at_succ

noncomputable def showB (N Y : Nat) (ps : List Pr.Rsn) : Bool := if N < 4294967296 then Pr.priB N && (decide (Y = 0) && ps.isEmpty) else Pr.great N Y (ps.map Pr.Rsn.n)
theorem great_eq (N Y : Nat) (qs : List Nat) : Pr.great N Y qs = (Vh N qs && Jcl N Y qs) := by
 simp only [Pr.great, Vh, Jcl, Bool.and_assoc]
 rfl
theorem Jbj {N : Nat} (h : N < 18446744073709551616) : wd N 0 = N := by simp [wd, Nat.mod_eq_of_lt h]
theorem len_empty (ps : List Pr.Rsn) : ps.isEmpty = decide (ps.length = 0) := by cases ps <;> simp

theorem shows_any (N Y : Nat) (a : Option Addr) (cap : Nat) (ps : List Pr.Rsn) (hN : N < 2 ^ 256) (hY : Y < 2 ^ 256) (hp : ∀ p ∈ ps, Pr.Pri p.n)
  (w : World) (hs : Sl w a cap ps) : Calls Tryz.prog 51 #[rv N Y (.slice a ps.length cap)] w fun e w' => e = .returned (.bool (showB N Y ps)) ∧ Below w.heap.size w w' := by
 have HRE := Jfg (fun (h : 1 < N) (w' : World) (hb : Below w.heap.size w w') => reaches_any N Y (N - 1) a cap ps hN h rfl hp w' (hs.on hb))
 have HWI := Jfg (fun (h : 1 < N) (w' : World) (hb : Below w.heap.size w w') => witnessed_any N Y (N - 1) a cap ps hN h hY rfl (fun p hm => by have := (hp p hm).1; omega) w' (hs.on hb))
 obtain ⟨l, hl⟩ : ∃ l, ps.length = l := ⟨_, rfl⟩
 obtain ⟨V, hV⟩ : ∃ V, V = showB N Y ps := ⟨_, rfl⟩
 rw [← hV, hl]
 have hlc : l ≤ 9223372036854775807 := by rw [← hl]; exact Nat.le_trans hs.1 hs.2.1
 rw [hl] at HRE HWI
 have HO := Jfg (fun w => Vc 1 (by decide) w)
 obtain ⟨B, hB⟩ : ∃ B, B = 4294967296 := ⟨_, rfl⟩
 have hob : ∀ w, Calls Tryz.prog 12 #[.int .u64 4294967296] w fun e w' => e = .returned (num B) ∧ Below w.heap.size w w' := fun w => by rw [hB]; exact Vc 4294967296 (by decide) w
 have HOB := Jfg hob
 have HK := Jfg (fun w => Uo N B hN (by rw [hB]; decide) w)
 have HN := Jfg hN; have HY := Jfg hY; have HL := Jfg hl; have HV := Jfg hV; have HLC := Jfg hlc; have HB := Jfg hB
 clear hN hY hp hs hl hV hlc hob hB
 go_enter Tryz.func51, Tryz.ntmps51
 have BW := Jfg (Below.refl w.heap.size w)
 go_upto_region 1 with fail
 generalize hW1 : (w.alloc (.cells #[.int .u64 (wd N 0), .int .u64 (wd N 1), .int .u64 (wd N 2), .int .u64 (wd N 3), .int .u64 (wd Y 0), .int .u64 (wd Y 1), .int .u64 (wd Y 2), .int .u64 (wd Y 3), .slice a l cap] 29)) = W1 at *
 have Nr : At W1 (w.heap.size) _ _ := Jb hW1 (At.at_ _ _ _ _ (by simp))
 have NB := gr_of hW1 (gr_alloc BW.out _)
 clear hW1 BW 
 obtain ⟨gr, hg0⟩ : ∃ g, g = w.heap.size := ⟨_, rfl⟩
 rw [← hg0] at Nr ⊢
 have Er : w.heap.size ≤ gr := by omega
 clear hg0
 have Fr := Jfg Nr
 have BW := Jfg NB
 clear NB Nr
 by_cases hlt : N < B
 ·have hk2 : Uu N B < 0 := by rw [Xo hlt]; decide
  have hNs : N < 4294967296 := by rw [← HB.out]; exact hlt
  have hvv : V = (Pr.priB N && (decide (Y = 0) && decide (l = 0))) := by rw [HV.out, showB, if_pos hNs, len_empty, HL.out]
  have hsm := small_any (wd N 0) (Kw _ _)
  rw [Jbj (show N < 18446744073709551616 by omega), Wo hNs] at hsm
  obtain ⟨b, hb⟩ : ∃ b, b = Pr.priB N := ⟨_, rfl⟩
  rw [← hb] at hsm hvv
  have hsm2 : ∀ w, Calls Tryz.prog 67 #[.int .u64 (wd N 0)] w fun e w' => e = .returned (.bool b) ∧ Below w.heap.size w w' := fun w => by rw [Jbj (show N < 18446744073709551616 by omega)]; exact hsm w
  have HK2 := Jfg hk2; have HVV := Jfg hvv; have HSM := Jfg hsm2
  clear hlt hk2 hNs hvv hsm hsm2 hb HV HRE HWI
  generalize Uu N B = k at *
  try simp only [List.append_eq, List.cons_append, List.nil_append]
  refine wp_region_noPanic ?_
  refine wp_region_held_drew (S := fun w' => At w' gr 29 #[.int .u64 (wd N 0), .int .u64 (wd N 1), .int .u64 (wd N 2), .int .u64 (wd N 3), .int .u64 (wd Y 0), .int .u64 (wd Y 1), .int .u64 (wd Y 2), .int .u64 (wd Y 3), .slice a l cap]) (by kernel_rfl) (Fr.out.drew) (fun _ => ?_)
  refine Jo (fuel := 0) (⟨0, 5, [], Kind.val (.pointer (some ⟨gr, 0, none⟩)), true⟩ :: ⟨1, 6, [0], Kind.val (num N), true⟩ :: ⟨2, 7, [1], Kind.val (num B), false⟩ :: ⟨3, 8, [1, 2], Kind.val (.int .i64 k), false⟩ :: ⟨4, 9, [3], Kind.val (.bool true), true⟩ :: []) _ _ W1 _ ?_ ?_ ?_ ?_ ?_ ?_ ?_ ?_ ?_ ?_ ?_
  ·rfl
  ·kernel_rfl
  ·exact of_decide_eq_true (by kernel_rfl)
  ·(repeat refine all_cons ⟨_, by rfl, by rfl⟩ ?_); exact Je
  ·exact fun _ hb => Fr.out.on hb
  ·exact (Below.refl _ _).drew
  ·kernel_rfl
  ·exact fun _ _ _ _ _ h => h
  ·(repeat (refine all_cons ?_ ?_; rotate_left)); exact Je
   ·exact Kg _ _ _ _ _ _ _ _ _ (by rfl) (by rfl) (Jc) (ko 1) (fun ρ w hx _ => Wy _ _ _ _ _ _ ρ w gr hx)
   ·exact Kg _ _ _ _ _ _ _ _ _ (by rfl) (by rfl) (Jc) (kc 0 5) (fun ρ w hx hs => Jas _ _ _ _ _ _ ρ w gr _ _ _ _ _ _ _ _ _ hx (hs))
   ·exact Ji _ (by rfl)
   ·exact Ji _ (by rfl)
   ·exact Jv _ _ _ _ _ _ _ _ _ _ _ _ _ (by rfl) (by rfl) (Jc) (kc 3 8) (Jd _) ((fun ρ w hx hy => by simp only [execOp, hx, hy]; simp [go_sem, HK2.out]))
  ·(repeat (refine all_cons ?_ ?_; rotate_left)); exact Je
   all_goals try exact sA
   ·exact fun _ => Jh _ 12 _ _ [.const (.int .u64 4294967296)] _ _ _ _ _ _ _ (by rfl) Tryz.func12 (by kernel_rfl) (by rfl) (by rfl) (Jc) (.cons (Jd _) .nil) (HOB.out)
   ·exact fun _ => Jh _ 13 _ _ [.tmp 6, .tmp 7] _ _ _ _ _ _ _ (by rfl) Tryz.func13 (by kernel_rfl) (by rfl) (by rfl) (Jc) (.cons (kc 1 6) (.cons (kc 2 7) .nil)) (HK.out)
  intro vs y2 hc
  obtain ⟨vv0, vv1, vv2, vv3, vv4, rfl⟩ := len5 vs hc.lv
  have qq0 := okv hc 0
  have qq1 := okv hc 1
  have qq2 := okv hc 2
  have qq3 := okv hc 3
  have qq4 := okv hc 4
  have BZ := hc.bel
  clear hc
  have Nr := Fr.out.on BZ
  have NB := bel_tr BW.out BZ
  clear BW BZ Fr
  subst qq0 qq1 qq2 qq3 qq4
  simp only [List.map_cons, List.map_nil, over, Act.put, List.setIfInBounds_toArray, List.set_cons_zero, List.set_cons_succ]
  refine wpAnyH_done (by kernel_rfl) ?_ _
  refine NoPanic.normal ?_
  have Fr := Jfg Nr
  have BW := Jfg NB
  clear NB Nr
  have Lr := Fr.out.lt
  obtain ⟨cr0, cr1, cr2, cr3, cr4, cr5, cr6, cr7, cr8⟩ := Jah Fr.out
  go_wp2_with fail
  clear Lr cr0 cr1 cr2 cr3 cr4 cr5 cr6 cr7 cr8
  refine (HSM.out _).mono ?_
  rintro e v3 ⟨rfl, z3⟩
  have Nr := Jfg (Fr.out.on z3)
  have NB := Jfg (bel_tr BW.out z3)
  clear BW z3 Fr
  have Fr := Nr
  have BW := NB
  clear NB Nr
  have eqz := eqZ Y HY.out
  have hvv := HVV.out
  cases b
  ·clear eqz hvv
   have Lr := Fr.out.lt
   obtain ⟨cr0, cr1, cr2, cr3, cr4, cr5, cr6, cr7, cr8⟩ := Jah Fr.out
   go_wp2
   go_ret
   exact ⟨by rw [HVV.out]; rfl, BW.out⟩
  ·clear hvv
   by_cases hy : Y = 0
   ·rw [decide_eq_true hy] at eqz
    have HYY := Jfg hy
    clear hy
    by_cases hl : (l : Int) = 0
    ·have HLL := Jfg (show l = 0 by omega)
     have Lr := Fr.out.lt
     obtain ⟨cr0, cr1, cr2, cr3, cr4, cr5, cr6, cr7, cr8⟩ := Jah Fr.out
     go_wp2
     go_ret
     exact ⟨by rw [HVV.out]; simp [HYY.out, HLL.out], BW.out⟩
    ·have HLL := Jfg (show ¬ l = 0 by omega)
     have Lr := Fr.out.lt
     obtain ⟨cr0, cr1, cr2, cr3, cr4, cr5, cr6, cr7, cr8⟩ := Jah Fr.out
     go_wp2
     go_ret
     exact ⟨by rw [HVV.out]; simp [HYY.out, HLL.out], BW.out⟩
   ·rw [decide_eq_false hy] at eqz
    have HYY := Jfg hy
    clear hy
    have Lr := Fr.out.lt
    obtain ⟨cr0, cr1, cr2, cr3, cr4, cr5, cr6, cr7, cr8⟩ := Jah Fr.out
    go_wp2
    go_ret
    exact ⟨by rw [HVV.out]; simp [HYY.out], BW.out⟩
 ·have hk2 : ¬ Uu N B < 0 := by have := Jbu (Nat.le_of_not_lt hlt); omega
  have hNs : ¬ N < 4294967296 := by rw [← HB.out]; exact hlt
  have hvv : V = (Vh N (ps.map Pr.Rsn.n) && Jcl N Y (ps.map Pr.Rsn.n)) := by rw [HV.out, showB, if_neg hNs, great_eq]
  have hRE := HRE.out (by omega)
  have hWI := HWI.out (by omega)
  obtain ⟨S, c, hS, hc, he, CS⟩ := Jaj N 1 HN.out (by decide)
  have hc0 : c = 0 := by omega
  have hSN : S = N - 1 := by omega
  subst hc0
  rw [← hSN] at hRE hWI
  generalize Vh N (ps.map Pr.Rsn.n) = b1 at *
  generalize Jcl N Y (ps.map Pr.Rsn.n) = b2 at *
  have HK2 := Jfg hk2; have HVV := Jfg hvv; have HCS := Jfg CS; have HR1 := Jfg hRE; have HW1 := Jfg hWI
  clear hlt hk2 hNs hvv hS hc he CS hRE hWI hSN HV HRE HWI
  generalize Uu N B = k at *
  try simp only [List.append_eq, List.cons_append, List.nil_append]
  refine wp_region_noPanic ?_
  refine wp_region_held_drew (S := fun w' => At w' gr 29 #[.int .u64 (wd N 0), .int .u64 (wd N 1), .int .u64 (wd N 2), .int .u64 (wd N 3), .int .u64 (wd Y 0), .int .u64 (wd Y 1), .int .u64 (wd Y 2), .int .u64 (wd Y 3), .slice a l cap]) (by kernel_rfl) (Fr.out.drew) (fun _ => ?_)
  refine Jo (fuel := 0) (⟨0, 5, [], Kind.val (.pointer (some ⟨gr, 0, none⟩)), true⟩ :: ⟨1, 6, [0], Kind.val (num N), true⟩ :: ⟨2, 7, [1], Kind.val (num B), false⟩ :: ⟨3, 8, [1, 2], Kind.val (.int .i64 k), false⟩ :: ⟨4, 9, [3], Kind.val (.bool false), true⟩ :: []) _ _ W1 _ ?_ ?_ ?_ ?_ ?_ ?_ ?_ ?_ ?_ ?_ ?_
  ·rfl
  ·kernel_rfl
  ·exact of_decide_eq_true (by kernel_rfl)
  ·(repeat refine all_cons ⟨_, by rfl, by rfl⟩ ?_); exact Je
  ·exact fun _ hb => Fr.out.on hb
  ·exact (Below.refl _ _).drew
  ·kernel_rfl
  ·exact fun _ _ _ _ _ h => h
  ·(repeat (refine all_cons ?_ ?_; rotate_left)); exact Je
   ·exact Kg _ _ _ _ _ _ _ _ _ (by rfl) (by rfl) (Jc) (ko 1) (fun ρ w hx _ => Wy _ _ _ _ _ _ ρ w gr hx)
   ·exact Kg _ _ _ _ _ _ _ _ _ (by rfl) (by rfl) (Jc) (kc 0 5) (fun ρ w hx hs => Jas _ _ _ _ _ _ ρ w gr _ _ _ _ _ _ _ _ _ hx (hs))
   ·exact Ji _ (by rfl)
   ·exact Ji _ (by rfl)
   ·exact Jv _ _ _ _ _ _ _ _ _ _ _ _ _ (by rfl) (by rfl) (Jc) (kc 3 8) (Jd _) ((fun ρ w hx hy => by simp only [execOp, hx, hy]; simp [go_sem, HK2.out]))
  ·(repeat (refine all_cons ?_ ?_; rotate_left)); exact Je
   all_goals try exact sA
   ·exact fun _ => Jh _ 12 _ _ [.const (.int .u64 4294967296)] _ _ _ _ _ _ _ (by rfl) Tryz.func12 (by kernel_rfl) (by rfl) (by rfl) (Jc) (.cons (Jd _) .nil) (HOB.out)
   ·exact fun _ => Jh _ 13 _ _ [.tmp 6, .tmp 7] _ _ _ _ _ _ _ (by rfl) Tryz.func13 (by kernel_rfl) (by rfl) (by rfl) (Jc) (.cons (kc 1 6) (.cons (kc 2 7) .nil)) (HK.out)
  intro vs y2 hc
  obtain ⟨vv0, vv1, vv2, vv3, vv4, rfl⟩ := len5 vs hc.lv
  have qq0 := okv hc 0
  have qq1 := okv hc 1
  have qq2 := okv hc 2
  have qq3 := okv hc 3
  have qq4 := okv hc 4
  have BZ := hc.bel
  clear hc
  have Nr := Fr.out.on BZ
  have NB := bel_tr BW.out BZ
  clear BW BZ Fr
  subst qq0 qq1 qq2 qq3 qq4
  simp only [List.map_cons, List.map_nil, over, Act.put, List.setIfInBounds_toArray, List.set_cons_zero, List.set_cons_succ]
  refine wpAnyH_done (by kernel_rfl) ?_ _
  refine NoPanic.normal ?_
  have Fr := Jfg Nr
  have BW := Jfg NB
  clear NB Nr
  go_upto_region 3 with fail
  try simp only [List.append_eq, List.cons_append, List.nil_append]
  refine wp_region_noPanic ?_
  refine wp_region_held_drew (S := fun w' => At w' gr 29 #[.int .u64 (wd N 0), .int .u64 (wd N 1), .int .u64 (wd N 2), .int .u64 (wd N 3), .int .u64 (wd Y 0), .int .u64 (wd Y 1), .int .u64 (wd Y 2), .int .u64 (wd Y 3), .slice a l cap]) (by kernel_rfl) (Fr.out.drew) (fun _ => ?_)
  refine Jo (fuel := 2) (⟨0, 27, [], Kind.val (.pointer (some ⟨gr, 0, none⟩)), true⟩ :: ⟨1, 28, [0], Kind.val (num N), true⟩ :: ⟨2, 29, [], Kind.val (.agg #[.int .u64 (wd 1 0), .int .u64 (wd 1 1), .int .u64 (wd 1 2), .int .u64 (wd 1 3)]), false⟩ :: ⟨3, 30, [1, 2], Kind.val (.tuple #[num S, .int .u64 0]), false⟩ :: ⟨4, 26, [3], Kind.val (.tuple #[num S, .int .u64 0]), true⟩ :: ⟨5, 31, [4], Kind.val (num S), true⟩ :: ⟨6, 32, [4], Kind.val (.int .u64 0), true⟩ :: ⟨7, 3, [], Kind.cell y2.heap.size 24 #[.int .u64 0, .int .u64 0, .int .u64 0, .int .u64 0], false⟩ :: []) _ _ y2 _ ?_ ?_ ?_ ?_ ?_ ?_ ?_ ?_ ?_ ?_ ?_
  ·rfl
  ·kernel_rfl
  ·exact of_decide_eq_true rfl
  ·(repeat refine all_cons ⟨_, rfl, rfl⟩ ?_); exact Je
  ·exact fun _ hb => Fr.out.on hb
  ·exact (Below.refl _ _).drew
  ·kernel_rfl
  ·exact fun _ _ _ _ _ h => h
  ·(repeat (refine all_cons ?_ ?_; rotate_left)); exact Je
   all_goals try exact Ji _ (by rfl)
   ·exact Ur _ _ _ _ _ _ _ _ (by rfl) (by rfl) (ko 1) (fun ρ w hx _ => Wy _ _ _ _ _ _ ρ w gr hx)
   ·exact Ur _ _ _ _ _ _ _ _ (by rfl) (by rfl) (kc 0 27) (fun ρ w hx hs => Jas _ _ _ _ _ _ ρ w gr _ _ _ _ _ _ _ _ _ hx hs)
   ·exact Vj _ _ _ _ _ _ (by rfl) (by rfl) (kc 3 30)
   ·exact Ub _ _ 0 _ _ _ _ _ (by rfl) (by rfl) (kc 4 26) (by rfl)
   ·exact Ub _ _ 1 _ _ _ _ _ (by rfl) (by rfl) (kc 4 26) (by rfl)
  ·(repeat (refine all_cons ?_ ?_; rotate_left)); exact Je
   all_goals try exact sA
   ·exact fun _ => Kr _ 12 _ _ [.const (.int .u64 1)] _ _ _ _ _ _ (by rfl) Tryz.func12 (by kernel_rfl) (by rfl) (by rfl) (.cons (Jd _) .nil) (HO.out)
   ·exact fun _ => Kr _ 35 _ _ [.tmp 28, .tmp 29] _ _ _ _ _ _ (by rfl) Tryz.func35 (by kernel_rfl) (by rfl) (by rfl) (.cons (kc 1 28) (.cons (kc 2 29) .nil)) (HCS.out)
   ·exact fun _ => Vo _ _ _ _ _ (by rfl) (by rfl) (Nat.le_refl _)
  intro vs y3 hc
  obtain ⟨vv0, vv1, vv2, vv3, vv4, vv5, vv6, vv7, rfl⟩ := len8 vs hc.lv
  have qq0 := okv hc 0
  have qq1 := okv hc 1
  have qq2 := okv hc 2
  have qq3 := okv hc 3
  have qq4 := okv hc 4
  have qq5 := okv hc 5
  have qq6 := okv hc 6
  obtain ⟨xx, hx, gm, hv, Em, Am⟩ := hc.ok 7 _ rfl rfl
  have qq7 : vv7 = .pointer (some ⟨gm, 0, none⟩) := (Option.some.inj (show some vv7 = some xx from hx)).trans hv
  clear hx hv
  have BZ := hc.bel
  clear hc
  have Nr := Fr.out.on BZ
  have Drm : gr ≠ gm := by have := Fr.out.lt; omega
  have HSZ3 := BW.out.size
  have NB := bel_tr BW.out BZ
  clear BW BZ Fr
  subst qq0 qq1 qq2 qq3 qq4 qq5 qq6 qq7
  simp only [List.map_cons, List.map_nil, over, Act.put, List.setIfInBounds_toArray, List.set_cons_zero, List.set_cons_succ]
  have OLD := Am
  replace Nr := p4f Nr Drm S
  replace Am := p4a Am S
  replace NB := Un NB (Nat.le_trans HSZ3 Em) (.int .u64 (wd S 0)) (.int .u64 (wd S 1)) (.int .u64 (wd S 2)) (.int .u64 (wd S 3))
  refine Kt (i := 8) _ _ _ _ _ gm _ _ _ _ _ _ _ _ (by kernel_rfl) (by rfl) (by rfl) (by rfl) OLD (Nr) ?_
  clear OLD
  generalize (put4 y3 gm (.int .u64 (wd S 0)) (.int .u64 (wd S 1)) (.int .u64 (wd S 2)) (.int .u64 (wd S 3))) = y3_8 at *
  refine Ko (i := 9) _ 4 _ _ _ (.int .u64 0) (by kernel_rfl) (by rfl) (by rfl) (Nr) ?_
  try simp only [Act.put, List.setIfInBounds_toArray, List.set_cons_zero, List.set_cons_succ]
  refine wpAnyH_done (by kernel_rfl) ?_ _
  refine NoPanic.normal ?_
  have Fr := Jfg Nr
  have Fm := Jfg Am
  have BW := Jfg NB
  clear NB Nr Am
  clear Em
  clear HSZ3
  have Lr := Fr.out.lt
  obtain ⟨cr0, cr1, cr2, cr3, cr4, cr5, cr6, cr7, cr8⟩ := Jah Fr.out
  have Lm := Fm.out.lt
  have cm0 := Fm.out.c0; have cm1 := Fm.out.c1; have cm2 := Fm.out.c2; have cm3 := Fm.out.c3
  go_wp2_with fail
  clear Lr cr0 cr1 cr2 cr3 cr4 cr5 cr6 cr7 cr8 Lm cm0 cm1 cm2 cm3
  refine (HR1.out _ BW.out).mono ?_
  rintro e v4 ⟨rfl, z4⟩
  have Nr := Jfg (Fr.out.on z4)
  have Nm := Jfg (Fm.out.on z4)
  have NB := Jfg (bel_tr BW.out z4)
  clear BW z4 Fr Fm
  have Fr := Nr
  have Fm := Nm
  have BW := NB
  clear NB Nr Nm
  cases b1
  ·go_wp2
   go_ret
   exact ⟨by rw [HVV.out]; rfl, BW.out⟩
  ·have Lr := Fr.out.lt
   obtain ⟨cr0, cr1, cr2, cr3, cr4, cr5, cr6, cr7, cr8⟩ := Jah Fr.out
   have Lm := Fm.out.lt
   have cm0 := Fm.out.c0; have cm1 := Fm.out.c1; have cm2 := Fm.out.c2; have cm3 := Fm.out.c3
   go_wp2_with fail
   clear Lr cr0 cr1 cr2 cr3 cr4 cr5 cr6 cr7 cr8 Lm cm0 cm1 cm2 cm3
   refine (HW1.out _ BW.out).mono ?_
   rintro e v5 ⟨rfl, z5⟩
   have Nr := Jfg (Fr.out.on z5)
   have Nm := Jfg (Fm.out.on z5)
   have NB := Jfg (bel_tr BW.out z5)
   clear BW z5 Fr Fm
   have Fr := Nr
   have Fm := Nm
   have BW := NB
   clear NB Nr Nm
   go_wp2
   go_ret
   exact ⟨by rw [HVV.out]; cases b2 <;> rfl, BW.out⟩
end Go.Proofs.YtodlpmepoakdlaaGreat
