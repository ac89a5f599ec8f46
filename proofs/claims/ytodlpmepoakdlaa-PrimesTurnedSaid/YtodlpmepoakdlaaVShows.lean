/-
  primes.shows: whether a reason holds whose parts hold.
-/
import Derived.Deep.Cut
import Derived.Test.YtodlpmepoakdlaaVReach
import Derived.Test.YtodlpmepoakdlaaVSmall
namespace Go.Proofs.Ytodlpmepoakdlaa
set_option maxRecDepth 100000
open Go.RowKit
set_option linter.unusedSimpArgs false
set_option linter.unusedVariables false
attribute [local go_sem ↓] Go.wp_at_zero Go.wp_at_succ

/-- what shows tells -/
noncomputable def showB (N Y : Nat) (ps : List Pr.Rsn) : Bool := if N < 4294967296 then Pr.priB N && (decide (Y = 0) && ps.isEmpty) else Pr.great N Y (ps.map Pr.Rsn.n)
theorem great_eq (N Y : Nat) (qs : List Nat) : Pr.great N Y qs = (reachB N qs && witB N Y qs) := by
  simp only [Pr.great, reachB, witB, Bool.and_assoc]
  rfl
theorem wd_small {N : Nat} (h : N < 18446744073709551616) : wd N 0 = N := by simp [wd, Nat.mod_eq_of_lt h]
theorem len_empty (ps : List Pr.Rsn) : ps.isEmpty = decide (ps.length = 0) := by cases ps <;> simp

set_option maxRecDepth 100000 in
set_option maxHeartbeats 8000000 in
theorem shows_any (N Y : Nat) (a : Option Addr) (cap : Nat) (ps : List Pr.Rsn) (hN : N < 2 ^ 256) (hY : Y < 2 ^ 256) (hp : ∀ p ∈ ps, Pr.Pri p.n)
    (w : World) (hs : Sl w a cap ps) : Calls Try.prog 30 #[rv N Y (.slice a ps.length cap)] w fun e w' => e = .returned (.bool (showB N Y ps)) ∧ Below w.heap.size w w' := by
  have HRE := Lib.hid (fun (h : 1 < N) (w' : World) (hb : Below w.heap.size w w') => reaches_any N Y (N - 1) a cap ps hN h rfl hp w' (hs.on hb))
  have HWI := Lib.hid (fun (h : 1 < N) (w' : World) (hb : Below w.heap.size w w') => witnessed_any N Y (N - 1) a cap ps hN h hY rfl (fun p hm => by have := (hp p hm).1; omega) w' (hs.on hb))
  obtain ⟨l, hl⟩ : ∃ l, ps.length = l := ⟨_, rfl⟩
  obtain ⟨V, hV⟩ : ∃ V, V = showB N Y ps := ⟨_, rfl⟩
  rw [← hV, hl]
  have hlc : l ≤ 9223372036854775807 := by rw [← hl]; exact Nat.le_trans hs.1 hs.2.1
  rw [hl] at HRE HWI
  have HO := Lib.hid (fun w => of_any 1 (by decide) w)
  obtain ⟨B, hB⟩ : ∃ B, B = 4294967296 := ⟨_, rfl⟩
  have hob : ∀ w, Calls Try.prog 32 #[.int .u64 4294967296] w fun e w' => e = .returned (num B) ∧ Below w.heap.size w w' := fun w => by rw [hB]; exact of_any 4294967296 (by decide) w
  have HOB := Lib.hid hob
  have HK := Lib.hid (fun w => cmp_any N B hN (by rw [hB]; decide) w)
  have HN := Lib.hid hN; have HY := Lib.hid hY; have HL := Lib.hid hl; have HV := Lib.hid hV; have HLC := Lib.hid hlc; have HB := Lib.hid hB
  clear hN hY hp hs hl hV hlc hob hB
  go_enter Try.func30, Try.ntmps30
  have BW := Lib.hid (Below.refl w.heap.size w)
  go_upto_region 1 with fail
  generalize hW1 : (w.alloc (.cells #[.int .u64 (wd N 0 : Nat), .int .u64 (wd N 1 : Nat), .int .u64 (wd N 2 : Nat), .int .u64 (wd N 3 : Nat), .int .u64 (wd Y 0 : Nat), .int .u64 (wd Y 1 : Nat), .int .u64 (wd Y 2 : Nat), .int .u64 (wd Y 3 : Nat), .slice a l cap] 27)) = W1 at *
  have Nr : At W1 (w.heap.size) _ _ := at_of hW1 (At.at_ _ _ _ _ (by simp))
  have NB := gr_of hW1 (gr_alloc BW.out _)
  clear hW1 BW 
  obtain ⟨gr, hg0⟩ : ∃ g, g = w.heap.size := ⟨_, rfl⟩
  rw [← hg0] at Nr ⊢
  have Er : w.heap.size ≤ gr := by omega
  clear hg0
  have Fr := Lib.hid Nr
  have BW := Lib.hid NB
  clear NB Nr
  by_cases hlt : N < B
  · have hk2 : cmpN N B < 0 := by rw [cmpN_lt hlt]; decide
    have hNs : N < 4294967296 := by rw [← HB.out]; exact hlt
    have hvv : V = (Pr.priB N && (decide (Y = 0) && decide (l = 0))) := by rw [HV.out, showB, if_pos hNs, len_empty, HL.out]
    have hsm := small_any (wd N 0) (wd_lt _ _)
    rw [wd_small (show N < 18446744073709551616 by omega), smallB_of hNs] at hsm
    obtain ⟨b, hb⟩ : ∃ b, b = Pr.priB N := ⟨_, rfl⟩
    rw [← hb] at hsm hvv
    have hsm2 : ∀ w, Calls Try.prog 27 #[.int .u64 (wd N 0 : Nat)] w fun e w' => e = .returned (.bool b) ∧ Below w.heap.size w w' := fun w => by rw [wd_small (show N < 18446744073709551616 by omega)]; exact hsm w
    have HK2 := Lib.hid hk2; have HVV := Lib.hid hvv; have HSM := Lib.hid hsm2
    clear hlt hk2 hNs hvv hsm hsm2 hb HV HRE HWI
    generalize cmpN N B = k at *
    try simp only [List.append_eq, List.cons_append, List.nil_append]
    refine wp_region_noPanic ?_
    refine wp_region_held_drew (S := fun w' => At w' gr 27 #[.int .u64 (wd N 0 : Nat), .int .u64 (wd N 1 : Nat), .int .u64 (wd N 2 : Nat), .int .u64 (wd N 3 : Nat), .int .u64 (wd Y 0 : Nat), .int .u64 (wd Y 1 : Nat), .int .u64 (wd Y 2 : Nat), .int .u64 (wd Y 3 : Nat), .slice a l cap]) (by kernel_rfl) (Fr.out.drew) (fun _ => ?_)
    refine wpAnyH_cores (fuel := 0) (⟨0, 5, [], Kind.val (.pointer (some ⟨gr, 0, none⟩)), true⟩ :: ⟨1, 6, [0], Kind.val (.agg #[.int .u64 (wd N 0 : Nat), .int .u64 (wd N 1 : Nat), .int .u64 (wd N 2 : Nat), .int .u64 (wd N 3 : Nat)]), true⟩ :: ⟨2, 7, [1], Kind.val (.agg #[.int .u64 (wd B 0 : Nat), .int .u64 (wd B 1 : Nat), .int .u64 (wd B 2 : Nat), .int .u64 (wd B 3 : Nat)]), false⟩ :: ⟨3, 8, [1, 2], Kind.val (.int .i64 k), false⟩ :: ⟨4, 9, [3], Kind.val (.bool true), true⟩ :: []) _ _ W1 _ ?_ ?_ ?_ ?_ ?_ ?_ ?_ ?_ ?_ ?_ ?_
    · rfl
    · kernel_rfl
    · exact of_decide_eq_true (by kernel_rfl)
    · exact all_cons ⟨_, by rfl, by rfl⟩ (all_cons ⟨_, by rfl, by rfl⟩ (all_cons ⟨_, by rfl, by rfl⟩ (all_cons ⟨_, by rfl, by rfl⟩ (all_cons ⟨_, by rfl, by rfl⟩ (all_nil)))))
    · exact fun _ hb => Fr.out.on hb
    · exact (Below.refl _ _).drew
    · kernel_rfl
    · exact fun _ _ _ _ _ h => h
    · refine all_cons ?_ (all_cons ?_ (all_cons ?_ (all_cons ?_ (all_cons ?_ (all_nil)))))
      · exact coreG_held _ _ _ _ _ _ _ _ _ (by rfl) (by rfl) (wants_none) (known_old 1 _ (of_decide_eq_true (by rfl)) (by rfl)) (fun ρ w hx _ => fieldR0 _ _ _ _ _ _ ρ w gr hx)
      · exact coreG_held _ _ _ _ _ _ _ _ _ (by rfl) (by rfl) (wants_none) (known_core 0 5 _ _ (of_decide_eq_true (by rfl)) (by rfl) (by rfl) (by rfl)) (fun ρ w hx hs => loadR0 _ _ _ _ _ _ ρ w gr _ _ _ _ _ _ _ _ _ hx (hs))
      · exact core_pureAs _ (by rfl)
      · exact core_pureAs _ (by rfl)
      · exact coreG_bin _ _ _ _ _ _ _ _ _ _ _ _ _ (by rfl) (by rfl) (wants_none) (known_core 3 8 _ _ (of_decide_eq_true (by rfl)) (by rfl) (by rfl) (by rfl)) (known_const _) ((fun ρ w hx hy => by simp only [execOp, hx, hy]; simp [go_sem, HK2.out]))
    · refine all_cons ?_ (all_cons ?_ (all_cons ?_ (all_cons ?_ (all_cons ?_ (all_nil)))))
      · exact core_stepAs _ (by rfl)
      · exact core_stepAs _ (by rfl)
      · exact fun _ => coreG_call _ 32 _ _ [.const (.int .u64 4294967296)] _ _ _ _ _ _ _ (by rfl) Try.func32 (by kernel_rfl) (by rfl) (by rfl) (wants_none) (.cons (known_const _) .nil) (HOB.out)
      · exact fun _ => coreG_call _ 24 _ _ [.tmp 6, .tmp 7] _ _ _ _ _ _ _ (by rfl) Try.func24 (by kernel_rfl) (by rfl) (by rfl) (wants_none) (.cons (known_core 1 6 _ _ (of_decide_eq_true (by rfl)) (by rfl) (by rfl) (by rfl)) (.cons (known_core 2 7 _ _ (of_decide_eq_true (by rfl)) (by rfl) (by rfl) (by rfl)) .nil)) (HK.out)
      · exact core_stepAs _ (by rfl)
    intro vs y2 hc
    obtain ⟨vv0, vv1, vv2, vv3, vv4, rfl⟩ := len5 vs hc.lv
    have qq0 : vv0 = .pointer (some ⟨gr, 0, none⟩) := by obtain ⟨xx, hx, hy⟩ := hc.ok 0 _ rfl rfl; exact (Option.some.inj (show some vv0 = some xx from hx)).trans hy
    have qq1 : vv1 = .agg #[.int .u64 (wd N 0 : Nat), .int .u64 (wd N 1 : Nat), .int .u64 (wd N 2 : Nat), .int .u64 (wd N 3 : Nat)] := by obtain ⟨xx, hx, hy⟩ := hc.ok 1 _ rfl rfl; exact (Option.some.inj (show some vv1 = some xx from hx)).trans hy
    have qq2 : vv2 = .agg #[.int .u64 (wd B 0 : Nat), .int .u64 (wd B 1 : Nat), .int .u64 (wd B 2 : Nat), .int .u64 (wd B 3 : Nat)] := by obtain ⟨xx, hx, hy⟩ := hc.ok 2 _ rfl rfl; exact (Option.some.inj (show some vv2 = some xx from hx)).trans hy
    have qq3 : vv3 = .int .i64 k := by obtain ⟨xx, hx, hy⟩ := hc.ok 3 _ rfl rfl; exact (Option.some.inj (show some vv3 = some xx from hx)).trans hy
    have qq4 : vv4 = .bool true := by obtain ⟨xx, hx, hy⟩ := hc.ok 4 _ rfl rfl; exact (Option.some.inj (show some vv4 = some xx from hx)).trans hy
    have BZ := hc.bel
    clear hc
    have Nr := Fr.out.on BZ
    have NB := bel_tr BW.out BZ
    clear BW BZ Fr
    subst qq0 qq1 qq2 qq3 qq4
    simp only [List.map_cons, List.map_nil, over, Act.put, List.setIfInBounds_toArray, List.set_cons_zero, List.set_cons_succ]
    refine wpAnyH_done (by kernel_rfl) ?_ _
    refine NoPanic.normal ?_
    have Fr := Lib.hid Nr
    have BW := Lib.hid NB
    clear NB Nr
    have Lr := Fr.out.lt
    have cr0 : y2.cell? ⟨gr, 0, none⟩ = some (.int .u64 (wd N 0 : Nat)) := Fr.out.cell 0
    have cr1 : y2.cell? ⟨gr, 1, none⟩ = some (.int .u64 (wd N 1 : Nat)) := Fr.out.cell 1
    have cr2 : y2.cell? ⟨gr, 2, none⟩ = some (.int .u64 (wd N 2 : Nat)) := Fr.out.cell 2
    have cr3 : y2.cell? ⟨gr, 3, none⟩ = some (.int .u64 (wd N 3 : Nat)) := Fr.out.cell 3
    have cr4 : y2.cell? ⟨gr, 4, none⟩ = some (.int .u64 (wd Y 0 : Nat)) := Fr.out.cell 4
    have cr5 : y2.cell? ⟨gr, 5, none⟩ = some (.int .u64 (wd Y 1 : Nat)) := Fr.out.cell 5
    have cr6 : y2.cell? ⟨gr, 6, none⟩ = some (.int .u64 (wd Y 2 : Nat)) := Fr.out.cell 6
    have cr7 : y2.cell? ⟨gr, 7, none⟩ = some (.int .u64 (wd Y 3 : Nat)) := Fr.out.cell 7
    have cr8 : y2.cell? ⟨gr, 8, none⟩ = some (.slice a l cap) := Fr.out.cell 8
    go_wp2_with fail
    clear Lr cr0 cr1 cr2 cr3 cr4 cr5 cr6 cr7 cr8
    refine (HSM.out _).mono ?_
    rintro e v3 ⟨rfl, z3⟩
    have Nr := Lib.hid (Fr.out.on z3)
    have NB := Lib.hid (bel_tr BW.out z3)
    clear BW z3 Fr
    have Fr := Nr
    have BW := NB
    clear NB Nr
    have eqz := eqZ Y HY.out
    have hvv := HVV.out
    cases b
    · clear eqz hvv
      have Lr := Fr.out.lt
      have cr0 : v3.cell? ⟨gr, 0, none⟩ = some (.int .u64 (wd N 0 : Nat)) := Fr.out.cell 0
      have cr1 : v3.cell? ⟨gr, 1, none⟩ = some (.int .u64 (wd N 1 : Nat)) := Fr.out.cell 1
      have cr2 : v3.cell? ⟨gr, 2, none⟩ = some (.int .u64 (wd N 2 : Nat)) := Fr.out.cell 2
      have cr3 : v3.cell? ⟨gr, 3, none⟩ = some (.int .u64 (wd N 3 : Nat)) := Fr.out.cell 3
      have cr4 : v3.cell? ⟨gr, 4, none⟩ = some (.int .u64 (wd Y 0 : Nat)) := Fr.out.cell 4
      have cr5 : v3.cell? ⟨gr, 5, none⟩ = some (.int .u64 (wd Y 1 : Nat)) := Fr.out.cell 5
      have cr6 : v3.cell? ⟨gr, 6, none⟩ = some (.int .u64 (wd Y 2 : Nat)) := Fr.out.cell 6
      have cr7 : v3.cell? ⟨gr, 7, none⟩ = some (.int .u64 (wd Y 3 : Nat)) := Fr.out.cell 7
      have cr8 : v3.cell? ⟨gr, 8, none⟩ = some (.slice a l cap) := Fr.out.cell 8
      go_wp2
      go_ret
      exact ⟨by rw [HVV.out]; rfl, BW.out⟩
    · clear hvv
      by_cases hy : Y = 0
      · rw [decide_eq_true hy] at eqz
        have HYY := Lib.hid hy
        clear hy
        by_cases hl : (l : Int) = 0
        · have HLL := Lib.hid (show l = 0 by omega)
          have Lr := Fr.out.lt
          have cr0 : v3.cell? ⟨gr, 0, none⟩ = some (.int .u64 (wd N 0 : Nat)) := Fr.out.cell 0
          have cr1 : v3.cell? ⟨gr, 1, none⟩ = some (.int .u64 (wd N 1 : Nat)) := Fr.out.cell 1
          have cr2 : v3.cell? ⟨gr, 2, none⟩ = some (.int .u64 (wd N 2 : Nat)) := Fr.out.cell 2
          have cr3 : v3.cell? ⟨gr, 3, none⟩ = some (.int .u64 (wd N 3 : Nat)) := Fr.out.cell 3
          have cr4 : v3.cell? ⟨gr, 4, none⟩ = some (.int .u64 (wd Y 0 : Nat)) := Fr.out.cell 4
          have cr5 : v3.cell? ⟨gr, 5, none⟩ = some (.int .u64 (wd Y 1 : Nat)) := Fr.out.cell 5
          have cr6 : v3.cell? ⟨gr, 6, none⟩ = some (.int .u64 (wd Y 2 : Nat)) := Fr.out.cell 6
          have cr7 : v3.cell? ⟨gr, 7, none⟩ = some (.int .u64 (wd Y 3 : Nat)) := Fr.out.cell 7
          have cr8 : v3.cell? ⟨gr, 8, none⟩ = some (.slice a l cap) := Fr.out.cell 8
          go_wp2
          go_ret
          exact ⟨by rw [HVV.out]; simp [HYY.out, HLL.out], BW.out⟩
        · have HLL := Lib.hid (show ¬ l = 0 by omega)
          have Lr := Fr.out.lt
          have cr0 : v3.cell? ⟨gr, 0, none⟩ = some (.int .u64 (wd N 0 : Nat)) := Fr.out.cell 0
          have cr1 : v3.cell? ⟨gr, 1, none⟩ = some (.int .u64 (wd N 1 : Nat)) := Fr.out.cell 1
          have cr2 : v3.cell? ⟨gr, 2, none⟩ = some (.int .u64 (wd N 2 : Nat)) := Fr.out.cell 2
          have cr3 : v3.cell? ⟨gr, 3, none⟩ = some (.int .u64 (wd N 3 : Nat)) := Fr.out.cell 3
          have cr4 : v3.cell? ⟨gr, 4, none⟩ = some (.int .u64 (wd Y 0 : Nat)) := Fr.out.cell 4
          have cr5 : v3.cell? ⟨gr, 5, none⟩ = some (.int .u64 (wd Y 1 : Nat)) := Fr.out.cell 5
          have cr6 : v3.cell? ⟨gr, 6, none⟩ = some (.int .u64 (wd Y 2 : Nat)) := Fr.out.cell 6
          have cr7 : v3.cell? ⟨gr, 7, none⟩ = some (.int .u64 (wd Y 3 : Nat)) := Fr.out.cell 7
          have cr8 : v3.cell? ⟨gr, 8, none⟩ = some (.slice a l cap) := Fr.out.cell 8
          go_wp2
          go_ret
          exact ⟨by rw [HVV.out]; simp [HYY.out, HLL.out], BW.out⟩
      · rw [decide_eq_false hy] at eqz
        have HYY := Lib.hid hy
        clear hy
        have Lr := Fr.out.lt
        have cr0 : v3.cell? ⟨gr, 0, none⟩ = some (.int .u64 (wd N 0 : Nat)) := Fr.out.cell 0
        have cr1 : v3.cell? ⟨gr, 1, none⟩ = some (.int .u64 (wd N 1 : Nat)) := Fr.out.cell 1
        have cr2 : v3.cell? ⟨gr, 2, none⟩ = some (.int .u64 (wd N 2 : Nat)) := Fr.out.cell 2
        have cr3 : v3.cell? ⟨gr, 3, none⟩ = some (.int .u64 (wd N 3 : Nat)) := Fr.out.cell 3
        have cr4 : v3.cell? ⟨gr, 4, none⟩ = some (.int .u64 (wd Y 0 : Nat)) := Fr.out.cell 4
        have cr5 : v3.cell? ⟨gr, 5, none⟩ = some (.int .u64 (wd Y 1 : Nat)) := Fr.out.cell 5
        have cr6 : v3.cell? ⟨gr, 6, none⟩ = some (.int .u64 (wd Y 2 : Nat)) := Fr.out.cell 6
        have cr7 : v3.cell? ⟨gr, 7, none⟩ = some (.int .u64 (wd Y 3 : Nat)) := Fr.out.cell 7
        have cr8 : v3.cell? ⟨gr, 8, none⟩ = some (.slice a l cap) := Fr.out.cell 8
        go_wp2
        go_ret
        exact ⟨by rw [HVV.out]; simp [HYY.out], BW.out⟩
  · have hk2 : ¬ cmpN N B < 0 := by have := cmpN_ge0 (Nat.le_of_not_lt hlt); omega
    have hNs : ¬ N < 4294967296 := by rw [← HB.out]; exact hlt
    have hvv : V = (reachB N (ps.map Pr.Rsn.n) && witB N Y (ps.map Pr.Rsn.n)) := by rw [HV.out, showB, if_neg hNs, great_eq]
    have hRE := HRE.out (by omega)
    have hWI := HWI.out (by omega)
    obtain ⟨S, c, hS, hc, he, CS⟩ := sub_ex N 1 HN.out (by decide)
    have hc0 : c = 0 := by omega
    have hSN : S = N - 1 := by omega
    subst hc0
    rw [← hSN] at hRE hWI
    generalize reachB N (ps.map Pr.Rsn.n) = b1 at *
    generalize witB N Y (ps.map Pr.Rsn.n) = b2 at *
    have HK2 := Lib.hid hk2; have HVV := Lib.hid hvv; have HCS := Lib.hid CS; have HR1 := Lib.hid hRE; have HW1 := Lib.hid hWI
    clear hlt hk2 hNs hvv hS hc he CS hRE hWI hSN HV HRE HWI
    generalize cmpN N B = k at *
    try simp only [List.append_eq, List.cons_append, List.nil_append]
    refine wp_region_noPanic ?_
    refine wp_region_held_drew (S := fun w' => At w' gr 27 #[.int .u64 (wd N 0 : Nat), .int .u64 (wd N 1 : Nat), .int .u64 (wd N 2 : Nat), .int .u64 (wd N 3 : Nat), .int .u64 (wd Y 0 : Nat), .int .u64 (wd Y 1 : Nat), .int .u64 (wd Y 2 : Nat), .int .u64 (wd Y 3 : Nat), .slice a l cap]) (by kernel_rfl) (Fr.out.drew) (fun _ => ?_)
    refine wpAnyH_cores (fuel := 0) (⟨0, 5, [], Kind.val (.pointer (some ⟨gr, 0, none⟩)), true⟩ :: ⟨1, 6, [0], Kind.val (.agg #[.int .u64 (wd N 0 : Nat), .int .u64 (wd N 1 : Nat), .int .u64 (wd N 2 : Nat), .int .u64 (wd N 3 : Nat)]), true⟩ :: ⟨2, 7, [1], Kind.val (.agg #[.int .u64 (wd B 0 : Nat), .int .u64 (wd B 1 : Nat), .int .u64 (wd B 2 : Nat), .int .u64 (wd B 3 : Nat)]), false⟩ :: ⟨3, 8, [1, 2], Kind.val (.int .i64 k), false⟩ :: ⟨4, 9, [3], Kind.val (.bool false), true⟩ :: []) _ _ W1 _ ?_ ?_ ?_ ?_ ?_ ?_ ?_ ?_ ?_ ?_ ?_
    · rfl
    · kernel_rfl
    · exact of_decide_eq_true (by kernel_rfl)
    · exact all_cons ⟨_, by rfl, by rfl⟩ (all_cons ⟨_, by rfl, by rfl⟩ (all_cons ⟨_, by rfl, by rfl⟩ (all_cons ⟨_, by rfl, by rfl⟩ (all_cons ⟨_, by rfl, by rfl⟩ (all_nil)))))
    · exact fun _ hb => Fr.out.on hb
    · exact (Below.refl _ _).drew
    · kernel_rfl
    · exact fun _ _ _ _ _ h => h
    · refine all_cons ?_ (all_cons ?_ (all_cons ?_ (all_cons ?_ (all_cons ?_ (all_nil)))))
      · exact coreG_held _ _ _ _ _ _ _ _ _ (by rfl) (by rfl) (wants_none) (known_old 1 _ (of_decide_eq_true (by rfl)) (by rfl)) (fun ρ w hx _ => fieldR0 _ _ _ _ _ _ ρ w gr hx)
      · exact coreG_held _ _ _ _ _ _ _ _ _ (by rfl) (by rfl) (wants_none) (known_core 0 5 _ _ (of_decide_eq_true (by rfl)) (by rfl) (by rfl) (by rfl)) (fun ρ w hx hs => loadR0 _ _ _ _ _ _ ρ w gr _ _ _ _ _ _ _ _ _ hx (hs))
      · exact core_pureAs _ (by rfl)
      · exact core_pureAs _ (by rfl)
      · exact coreG_bin _ _ _ _ _ _ _ _ _ _ _ _ _ (by rfl) (by rfl) (wants_none) (known_core 3 8 _ _ (of_decide_eq_true (by rfl)) (by rfl) (by rfl) (by rfl)) (known_const _) ((fun ρ w hx hy => by simp only [execOp, hx, hy]; simp [go_sem, HK2.out]))
    · refine all_cons ?_ (all_cons ?_ (all_cons ?_ (all_cons ?_ (all_cons ?_ (all_nil)))))
      · exact core_stepAs _ (by rfl)
      · exact core_stepAs _ (by rfl)
      · exact fun _ => coreG_call _ 32 _ _ [.const (.int .u64 4294967296)] _ _ _ _ _ _ _ (by rfl) Try.func32 (by kernel_rfl) (by rfl) (by rfl) (wants_none) (.cons (known_const _) .nil) (HOB.out)
      · exact fun _ => coreG_call _ 24 _ _ [.tmp 6, .tmp 7] _ _ _ _ _ _ _ (by rfl) Try.func24 (by kernel_rfl) (by rfl) (by rfl) (wants_none) (.cons (known_core 1 6 _ _ (of_decide_eq_true (by rfl)) (by rfl) (by rfl) (by rfl)) (.cons (known_core 2 7 _ _ (of_decide_eq_true (by rfl)) (by rfl) (by rfl) (by rfl)) .nil)) (HK.out)
      · exact core_stepAs _ (by rfl)
    intro vs y2 hc
    obtain ⟨vv0, vv1, vv2, vv3, vv4, rfl⟩ := len5 vs hc.lv
    have qq0 : vv0 = .pointer (some ⟨gr, 0, none⟩) := by obtain ⟨xx, hx, hy⟩ := hc.ok 0 _ rfl rfl; exact (Option.some.inj (show some vv0 = some xx from hx)).trans hy
    have qq1 : vv1 = .agg #[.int .u64 (wd N 0 : Nat), .int .u64 (wd N 1 : Nat), .int .u64 (wd N 2 : Nat), .int .u64 (wd N 3 : Nat)] := by obtain ⟨xx, hx, hy⟩ := hc.ok 1 _ rfl rfl; exact (Option.some.inj (show some vv1 = some xx from hx)).trans hy
    have qq2 : vv2 = .agg #[.int .u64 (wd B 0 : Nat), .int .u64 (wd B 1 : Nat), .int .u64 (wd B 2 : Nat), .int .u64 (wd B 3 : Nat)] := by obtain ⟨xx, hx, hy⟩ := hc.ok 2 _ rfl rfl; exact (Option.some.inj (show some vv2 = some xx from hx)).trans hy
    have qq3 : vv3 = .int .i64 k := by obtain ⟨xx, hx, hy⟩ := hc.ok 3 _ rfl rfl; exact (Option.some.inj (show some vv3 = some xx from hx)).trans hy
    have qq4 : vv4 = .bool false := by obtain ⟨xx, hx, hy⟩ := hc.ok 4 _ rfl rfl; exact (Option.some.inj (show some vv4 = some xx from hx)).trans hy
    have BZ := hc.bel
    clear hc
    have Nr := Fr.out.on BZ
    have NB := bel_tr BW.out BZ
    clear BW BZ Fr
    subst qq0 qq1 qq2 qq3 qq4
    simp only [List.map_cons, List.map_nil, over, Act.put, List.setIfInBounds_toArray, List.set_cons_zero, List.set_cons_succ]
    refine wpAnyH_done (by kernel_rfl) ?_ _
    refine NoPanic.normal ?_
    have Fr := Lib.hid Nr
    have BW := Lib.hid NB
    clear NB Nr
    go_upto_region 3 with fail
    try simp only [List.append_eq, List.cons_append, List.nil_append]
    refine wp_region_noPanic ?_
    refine wp_region_held_drew (S := fun w' => At w' gr 27 #[.int .u64 (wd N 0 : Nat), .int .u64 (wd N 1 : Nat), .int .u64 (wd N 2 : Nat), .int .u64 (wd N 3 : Nat), .int .u64 (wd Y 0 : Nat), .int .u64 (wd Y 1 : Nat), .int .u64 (wd Y 2 : Nat), .int .u64 (wd Y 3 : Nat), .slice a l cap]) (by kernel_rfl) (Fr.out.drew) (fun _ => ?_)
    refine wpAnyH_cores (fuel := 2) (⟨0, 27, [], Kind.val (.pointer (some ⟨gr, 0, none⟩)), true⟩ :: ⟨1, 28, [0], Kind.val (.agg #[.int .u64 (wd N 0 : Nat), .int .u64 (wd N 1 : Nat), .int .u64 (wd N 2 : Nat), .int .u64 (wd N 3 : Nat)]), true⟩ :: ⟨2, 29, [], Kind.val (.agg #[.int .u64 (wd 1 0 : Nat), .int .u64 (wd 1 1 : Nat), .int .u64 (wd 1 2 : Nat), .int .u64 (wd 1 3 : Nat)]), false⟩ :: ⟨3, 30, [1, 2], Kind.val (.tuple #[.agg #[.int .u64 (wd S 0 : Nat), .int .u64 (wd S 1 : Nat), .int .u64 (wd S 2 : Nat), .int .u64 (wd S 3 : Nat)], .int .u64 0]), false⟩ :: ⟨4, 26, [3], Kind.val (.tuple #[.agg #[.int .u64 (wd S 0 : Nat), .int .u64 (wd S 1 : Nat), .int .u64 (wd S 2 : Nat), .int .u64 (wd S 3 : Nat)], .int .u64 0]), true⟩ :: ⟨5, 31, [4], Kind.val (.agg #[.int .u64 (wd S 0 : Nat), .int .u64 (wd S 1 : Nat), .int .u64 (wd S 2 : Nat), .int .u64 (wd S 3 : Nat)]), true⟩ :: ⟨6, 32, [4], Kind.val (.int .u64 0), true⟩ :: ⟨7, 3, [], Kind.cell y2.heap.size 24 #[.int .u64 0, .int .u64 0, .int .u64 0, .int .u64 0], false⟩ :: []) _ _ y2 _ ?_ ?_ ?_ ?_ ?_ ?_ ?_ ?_ ?_ ?_ ?_
    · rfl
    · kernel_rfl
    · exact of_decide_eq_true rfl
    · exact all_cons ⟨_, rfl, rfl⟩ (all_cons ⟨_, rfl, rfl⟩ (all_cons ⟨_, rfl, rfl⟩ (all_cons ⟨_, rfl, rfl⟩ (all_cons ⟨_, rfl, rfl⟩ (all_cons ⟨_, rfl, rfl⟩ (all_cons ⟨_, rfl, rfl⟩ (all_cons ⟨_, rfl, rfl⟩ (all_nil))))))))
    · exact fun _ hb => Fr.out.on hb
    · exact (Below.refl _ _).drew
    · kernel_rfl
    · exact fun _ _ _ _ _ h => h
    · refine all_cons ?_ (all_cons ?_ (all_cons ?_ (all_cons ?_ (all_cons ?_ (all_cons ?_ (all_cons ?_ (all_cons ?_ (all_nil))))))))
      · exact core_held _ _ _ _ _ _ _ _ (by rfl) (by rfl) (known_old 1 _ (of_decide_eq_true (by rfl)) (by rfl)) (fun ρ w hx _ => fieldR0 _ _ _ _ _ _ ρ w gr hx)
      · exact core_held _ _ _ _ _ _ _ _ (by rfl) (by rfl) (known_core 0 27 _ _ (of_decide_eq_true (by rfl)) (by rfl) (by rfl) (by rfl)) (fun ρ w hx hs => loadR0 _ _ _ _ _ _ ρ w gr _ _ _ _ _ _ _ _ _ hx hs)
      · exact core_pureAs _ (by rfl)
      · exact core_pureAs _ (by rfl)
      · exact core_move _ _ _ _ _ _ (by rfl) (by rfl) (known_core 3 30 _ _ (of_decide_eq_true (by rfl)) (by rfl) (by rfl) (by rfl))
      · exact core_extract _ _ 0 _ _ _ _ _ (by rfl) (by rfl) (known_core 4 26 _ _ (of_decide_eq_true (by rfl)) (by rfl) (by rfl) (by rfl)) (by rfl)
      · exact core_extract _ _ 1 _ _ _ _ _ (by rfl) (by rfl) (known_core 4 26 _ _ (of_decide_eq_true (by rfl)) (by rfl) (by rfl) (by rfl)) (by rfl)
      · exact core_pureAs _ (by rfl)
    · refine all_cons ?_ (all_cons ?_ (all_cons ?_ (all_cons ?_ (all_cons ?_ (all_cons ?_ (all_cons ?_ (all_cons ?_ (all_nil))))))))
      · exact core_stepAs _ (by rfl)
      · exact core_stepAs _ (by rfl)
      · exact fun _ => core_call _ 32 _ _ [.const (.int .u64 1)] _ _ _ _ _ _ (by rfl) Try.func32 (by kernel_rfl) (by rfl) (by rfl) (.cons (known_const _) .nil) (HO.out)
      · exact fun _ => core_call _ 48 _ _ [.tmp 28, .tmp 29] _ _ _ _ _ _ (by rfl) Try.func48 (by kernel_rfl) (by rfl) (by rfl) (.cons (known_core 1 28 _ _ (of_decide_eq_true (by rfl)) (by rfl) (by rfl) (by rfl)) (.cons (known_core 2 29 _ _ (of_decide_eq_true (by rfl)) (by rfl) (by rfl) (by rfl)) .nil)) (HCS.out)
      · exact core_stepAs _ (by rfl)
      · exact core_stepAs _ (by rfl)
      · exact core_stepAs _ (by rfl)
      · exact fun _ => core_alloc _ _ _ _ _ (by rfl) (by rfl) (Nat.le_refl _)
    intro vs y3 hc
    obtain ⟨vv0, vv1, vv2, vv3, vv4, vv5, vv6, vv7, rfl⟩ := len8 vs hc.lv
    have qq0 : vv0 = .pointer (some ⟨gr, 0, none⟩) := by obtain ⟨xx, hx, hy⟩ := hc.ok 0 _ rfl rfl; exact (Option.some.inj (show some vv0 = some xx from hx)).trans hy
    have qq1 : vv1 = .agg #[.int .u64 (wd N 0 : Nat), .int .u64 (wd N 1 : Nat), .int .u64 (wd N 2 : Nat), .int .u64 (wd N 3 : Nat)] := by obtain ⟨xx, hx, hy⟩ := hc.ok 1 _ rfl rfl; exact (Option.some.inj (show some vv1 = some xx from hx)).trans hy
    have qq2 : vv2 = .agg #[.int .u64 (wd 1 0 : Nat), .int .u64 (wd 1 1 : Nat), .int .u64 (wd 1 2 : Nat), .int .u64 (wd 1 3 : Nat)] := by obtain ⟨xx, hx, hy⟩ := hc.ok 2 _ rfl rfl; exact (Option.some.inj (show some vv2 = some xx from hx)).trans hy
    have qq3 : vv3 = .tuple #[.agg #[.int .u64 (wd S 0 : Nat), .int .u64 (wd S 1 : Nat), .int .u64 (wd S 2 : Nat), .int .u64 (wd S 3 : Nat)], .int .u64 0] := by obtain ⟨xx, hx, hy⟩ := hc.ok 3 _ rfl rfl; exact (Option.some.inj (show some vv3 = some xx from hx)).trans hy
    have qq4 : vv4 = .tuple #[.agg #[.int .u64 (wd S 0 : Nat), .int .u64 (wd S 1 : Nat), .int .u64 (wd S 2 : Nat), .int .u64 (wd S 3 : Nat)], .int .u64 0] := by obtain ⟨xx, hx, hy⟩ := hc.ok 4 _ rfl rfl; exact (Option.some.inj (show some vv4 = some xx from hx)).trans hy
    have qq5 : vv5 = .agg #[.int .u64 (wd S 0 : Nat), .int .u64 (wd S 1 : Nat), .int .u64 (wd S 2 : Nat), .int .u64 (wd S 3 : Nat)] := by obtain ⟨xx, hx, hy⟩ := hc.ok 5 _ rfl rfl; exact (Option.some.inj (show some vv5 = some xx from hx)).trans hy
    have qq6 : vv6 = .int .u64 0 := by obtain ⟨xx, hx, hy⟩ := hc.ok 6 _ rfl rfl; exact (Option.some.inj (show some vv6 = some xx from hx)).trans hy
    obtain ⟨xx, hx, gm, hv, Em, Am⟩ := hc.ok 7 _ rfl rfl
    have qq7 : vv7 = .pointer (some ⟨gm, 0, none⟩) := (Option.some.inj (show some vv7 = some xx from hx)).trans hv
    clear hx hv
    have BZ := hc.bel
    clear hc
    have Nr := Fr.out.on BZ
    have Drm : gr ≠ gm := by have := Fr.out.lt; omega
    have HSZ3 := BW.out.size
    have NB := bel_tr BW.out BZ
    clear BW BZ Fr
    subst qq0 qq1 qq2 qq3 qq4 qq5 qq6 qq7
    simp only [List.map_cons, List.map_nil, over, Act.put, List.setIfInBounds_toArray, List.set_cons_zero, List.set_cons_succ]
    have OLD := Am
    replace Nr := put4_far Nr Drm (.int .u64 (wd S 0 : Nat)) (.int .u64 (wd S 1 : Nat)) (.int .u64 (wd S 2 : Nat)) (.int .u64 (wd S 3 : Nat))
    replace Am := put4_at Am (.int .u64 (wd S 0 : Nat)) (.int .u64 (wd S 1 : Nat)) (.int .u64 (wd S 2 : Nat)) (.int .u64 (wd S 3 : Nat))
    replace NB := put4_below NB (Nat.le_trans HSZ3 Em) (.int .u64 (wd S 0 : Nat)) (.int .u64 (wd S 1 : Nat)) (.int .u64 (wd S 2 : Nat)) (.int .u64 (wd S 3 : Nat))
    refine store_one (i := 8) _ _ _ _ _ gm _ _ _ _ _ _ _ _ (by kernel_rfl) (by rfl) (by rfl) (by rfl) OLD (Nr) ?_
    clear OLD
    generalize (put4 y3 gm (.int .u64 (wd S 0 : Nat)) (.int .u64 (wd S 1 : Nat)) (.int .u64 (wd S 2 : Nat)) (.int .u64 (wd S 3 : Nat))) = y3_8 at *
    refine assign_one (i := 9) _ 4 _ _ _ (.int .u64 0) (by kernel_rfl) (by rfl) (by rfl) (Nr) ?_
    try simp only [Act.put, List.setIfInBounds_toArray, List.set_cons_zero, List.set_cons_succ]
    refine wpAnyH_done (by kernel_rfl) ?_ _
    refine NoPanic.normal ?_
    have Fr := Lib.hid Nr
    have Fm := Lib.hid Am
    have BW := Lib.hid NB
    clear NB Nr Am
    clear Em
    clear HSZ3
    have Lr := Fr.out.lt
    have cr0 : y3_8.cell? ⟨gr, 0, none⟩ = some (.int .u64 (wd N 0 : Nat)) := Fr.out.cell 0
    have cr1 : y3_8.cell? ⟨gr, 1, none⟩ = some (.int .u64 (wd N 1 : Nat)) := Fr.out.cell 1
    have cr2 : y3_8.cell? ⟨gr, 2, none⟩ = some (.int .u64 (wd N 2 : Nat)) := Fr.out.cell 2
    have cr3 : y3_8.cell? ⟨gr, 3, none⟩ = some (.int .u64 (wd N 3 : Nat)) := Fr.out.cell 3
    have cr4 : y3_8.cell? ⟨gr, 4, none⟩ = some (.int .u64 (wd Y 0 : Nat)) := Fr.out.cell 4
    have cr5 : y3_8.cell? ⟨gr, 5, none⟩ = some (.int .u64 (wd Y 1 : Nat)) := Fr.out.cell 5
    have cr6 : y3_8.cell? ⟨gr, 6, none⟩ = some (.int .u64 (wd Y 2 : Nat)) := Fr.out.cell 6
    have cr7 : y3_8.cell? ⟨gr, 7, none⟩ = some (.int .u64 (wd Y 3 : Nat)) := Fr.out.cell 7
    have cr8 : y3_8.cell? ⟨gr, 8, none⟩ = some (.slice a l cap) := Fr.out.cell 8
    have Lm := Fm.out.lt
    have cm0 := Fm.out.c0
    have cm1 := Fm.out.c1
    have cm2 := Fm.out.c2
    have cm3 := Fm.out.c3
    go_wp2_with fail
    clear Lr cr0 cr1 cr2 cr3 cr4 cr5 cr6 cr7 cr8 Lm cm0 cm1 cm2 cm3
    refine (HR1.out _ BW.out).mono ?_
    rintro e v4 ⟨rfl, z4⟩
    have Nr := Lib.hid (Fr.out.on z4)
    have Nm := Lib.hid (Fm.out.on z4)
    have NB := Lib.hid (bel_tr BW.out z4)
    clear BW z4 Fr Fm
    have Fr := Nr
    have Fm := Nm
    have BW := NB
    clear NB Nr Nm
    cases b1
    · go_wp2
      go_ret
      exact ⟨by rw [HVV.out]; rfl, BW.out⟩
    · have Lr := Fr.out.lt
      have cr0 : v4.cell? ⟨gr, 0, none⟩ = some (.int .u64 (wd N 0 : Nat)) := Fr.out.cell 0
      have cr1 : v4.cell? ⟨gr, 1, none⟩ = some (.int .u64 (wd N 1 : Nat)) := Fr.out.cell 1
      have cr2 : v4.cell? ⟨gr, 2, none⟩ = some (.int .u64 (wd N 2 : Nat)) := Fr.out.cell 2
      have cr3 : v4.cell? ⟨gr, 3, none⟩ = some (.int .u64 (wd N 3 : Nat)) := Fr.out.cell 3
      have cr4 : v4.cell? ⟨gr, 4, none⟩ = some (.int .u64 (wd Y 0 : Nat)) := Fr.out.cell 4
      have cr5 : v4.cell? ⟨gr, 5, none⟩ = some (.int .u64 (wd Y 1 : Nat)) := Fr.out.cell 5
      have cr6 : v4.cell? ⟨gr, 6, none⟩ = some (.int .u64 (wd Y 2 : Nat)) := Fr.out.cell 6
      have cr7 : v4.cell? ⟨gr, 7, none⟩ = some (.int .u64 (wd Y 3 : Nat)) := Fr.out.cell 7
      have cr8 : v4.cell? ⟨gr, 8, none⟩ = some (.slice a l cap) := Fr.out.cell 8
      have Lm := Fm.out.lt
      have cm0 := Fm.out.c0
      have cm1 := Fm.out.c1
      have cm2 := Fm.out.c2
      have cm3 := Fm.out.c3
      go_wp2_with fail
      clear Lr cr0 cr1 cr2 cr3 cr4 cr5 cr6 cr7 cr8 Lm cm0 cm1 cm2 cm3
      refine (HW1.out _ BW.out).mono ?_
      rintro e v5 ⟨rfl, z5⟩
      have Nr := Lib.hid (Fr.out.on z5)
      have Nm := Lib.hid (Fm.out.on z5)
      have NB := Lib.hid (bel_tr BW.out z5)
      clear BW z5 Fr Fm
      have Fr := Nr
      have Fm := Nm
      have BW := NB
      clear NB Nr Nm
      go_wp2
      go_ret
      exact ⟨by rw [HVV.out]; cases b2 <;> rfl, BW.out⟩
end Go.Proofs.Ytodlpmepoakdlaa
