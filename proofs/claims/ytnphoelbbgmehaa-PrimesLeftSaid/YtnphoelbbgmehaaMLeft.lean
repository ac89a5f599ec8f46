/-
  The walk of PrimesLeft: it answers true, and nothing that was there is changed.
-/
import Derived.Deep.Cut
import Derived.Test.YtnphoelbbgmehaaMProduct
import Derived.Test.YtnphoelbbgmehaaMSmall
namespace Go.Proofs.Ytnphoelbbgmehaa
set_option maxRecDepth 100000
open Go.RowKit
set_option linter.unusedSimpArgs false
set_option linter.unusedVariables false
attribute [local go_sem ↓] Go.wp_at_zero Go.wp_at_succ

set_option maxRecDepth 100000 in
set_option maxHeartbeats 8000000 in
theorem left_walk (N Y : Nat) (a : Option Addr) (cap : Nat) (ps : List Pr.Rsn) (A : Nat) (hN : N < 2 ^ 256) (hY : Y < 2 ^ 256) (hA : A < 2 ^ 256) (w : World) (hs : Sl w a cap ps) :
    Calls Try.prog 6 #[rv N Y (.slice a ps.length cap), num A] w fun e w' => e = .returned (.bool true) ∧ Below w.heap.size w w' := by
  have HSZ := Lib.hid (fun (u : World) (hb : Below w.heap.size w u) => size_any w _ (.mk N Y ps) (Nat.le_refl _) a cap u hN hY hs hb)
  have HCK := Lib.hid (fun (u : World) (hb : Below w.heap.size w u) => check_any (.mk N Y ps) a cap hN hY u (hs.on hb))
  simp only [Pr.Rsn.n, Pr.Rsn.w, Pr.Rsn.ps] at HSZ HCK
  obtain ⟨l, hl⟩ : ∃ l, ps.length = l := ⟨_, rfl⟩
  rw [hl] at HSZ HCK ⊢
  generalize szR (.mk N Y ps) = z at *
  obtain ⟨V, hV⟩ : ∃ V, V = (Pr.Rsn.mk N Y ps).holds := ⟨_, rfl⟩
  rw [← hV] at HCK
  have hpri : V = true → Pr.Pri N := fun h => Pr.holds_pri (r := .mk N Y ps) (by rw [← hV]; exact h)
  have HP := Lib.hid hpri
  have HO := Lib.hid (fun w => ofP_any 1 (by decide) w)
  have HO0 := Lib.hid (fun w => ofP_any 0 (by decide) w)
  have HA := Lib.hid hA; have HN := Lib.hid hN
  clear hA hN hY hs hl hV hpri
  go_enter Try.func6, Try.ntmps6
  have BW := Lib.hid (Below.refl w.heap.size w)
  go_upto_region 1 with fail
  have Ea : w.heap.size ≤ w.heap.size + 1 := by have := BW.out.size; omega
  have Dra : w.heap.size ≠ w.heap.size + 1 := by omega
  generalize hW1 : ((w.alloc (.cells #[.int .u64 (wd N 0 : Nat), .int .u64 (wd N 1 : Nat), .int .u64 (wd N 2 : Nat), .int .u64 (wd N 3 : Nat), .int .u64 (wd Y 0 : Nat), .int .u64 (wd Y 1 : Nat), .int .u64 (wd Y 2 : Nat), .int .u64 (wd Y 3 : Nat), .slice a l cap] 28)).alloc (.cells #[.int .u64 (wd A 0 : Nat), .int .u64 (wd A 1 : Nat), .int .u64 (wd A 2 : Nat), .int .u64 (wd A 3 : Nat)] 25)) = W1 at *
  have Nr : At W1 (w.heap.size) _ _ := at_of hW1 ((At.at_ _ _ _ _ (by simp)).alloc _)
  have Na : At W1 (w.heap.size + 1) _ _ := at_of hW1 (At.at_ _ _ _ _ (by simp))
  have NB := gr_of hW1 (gr_alloc (gr_alloc BW.out _) _)
  clear hW1 BW 
  generalize w.heap.size + 1 = ga at *
  obtain ⟨gr, hg0⟩ : ∃ g, g = w.heap.size := ⟨_, rfl⟩
  rw [← hg0] at Nr ⊢
  rw [← hg0] at Dra
  have Er : w.heap.size ≤ gr := by omega
  clear hg0
  have Fr := Lib.hid Nr
  have Fa := Lib.hid Na
  have BW := Lib.hid NB
  clear NB Nr Na
  go_wp2_with fail
  refine (alive7_any _).mono ?_
  rintro e v2 ⟨rfl, z2⟩
  have Nr := Lib.hid (Fr.out.on z2)
  have Na := Lib.hid (Fa.out.on z2)
  have NB := Lib.hid (bel_tr BW.out z2)
  clear BW z2 Fr Fa
  have Fr := Nr
  have Fa := Na
  have BW := NB
  clear NB Nr Na
  have Lr := Fr.out.lt
  have cr0 : v2.cell? ⟨gr, 0, none⟩ = some (.int .u64 (wd N 0 : Nat)) := Fr.out.cell 0
  have cr1 : v2.cell? ⟨gr, 1, none⟩ = some (.int .u64 (wd N 1 : Nat)) := Fr.out.cell 1
  have cr2 : v2.cell? ⟨gr, 2, none⟩ = some (.int .u64 (wd N 2 : Nat)) := Fr.out.cell 2
  have cr3 : v2.cell? ⟨gr, 3, none⟩ = some (.int .u64 (wd N 3 : Nat)) := Fr.out.cell 3
  have cr4 : v2.cell? ⟨gr, 4, none⟩ = some (.int .u64 (wd Y 0 : Nat)) := Fr.out.cell 4
  have cr5 : v2.cell? ⟨gr, 5, none⟩ = some (.int .u64 (wd Y 1 : Nat)) := Fr.out.cell 5
  have cr6 : v2.cell? ⟨gr, 6, none⟩ = some (.int .u64 (wd Y 2 : Nat)) := Fr.out.cell 6
  have cr7 : v2.cell? ⟨gr, 7, none⟩ = some (.int .u64 (wd Y 3 : Nat)) := Fr.out.cell 7
  have cr8 : v2.cell? ⟨gr, 8, none⟩ = some (.slice a l cap) := Fr.out.cell 8
  go_wp2_with fail
  clear Lr cr0 cr1 cr2 cr3 cr4 cr5 cr6 cr7 cr8
  refine (HSZ.out _ BW.out).mono ?_
  rintro e v3 ⟨rfl, z3⟩
  have Nr := Lib.hid (Fr.out.on z3)
  have Na := Lib.hid (Fa.out.on z3)
  have NB := Lib.hid (bel_tr BW.out z3)
  clear BW z3 Fr Fa
  have Fr := Nr
  have Fa := Na
  have BW := NB
  clear NB Nr Na
  by_cases hz : 20000 < z
  · go_wp2_with fail
    refine (alive7_any _).mono ?_
    rintro e v4 ⟨rfl, z4⟩
    have Nr := Lib.hid (Fr.out.on z4)
    have Na := Lib.hid (Fa.out.on z4)
    have NB := Lib.hid (bel_tr BW.out z4)
    clear BW z4 Fr Fa
    have Fr := Nr
    have Fa := Na
    have BW := NB
    clear NB Nr Na
    go_wp2
    go_ret
    exact ⟨rfl, BW.out⟩
  · have Lr := Fr.out.lt
    have cr0 : v3.cell? ⟨gr, 0, none⟩ = some (.int .u64 (wd N 0 : Nat)) := Fr.out.cell 0
    have cr1 : v3.cell? ⟨gr, 1, none⟩ = some (.int .u64 (wd N 1 : Nat)) := Fr.out.cell 1
    have cr2 : v3.cell? ⟨gr, 2, none⟩ = some (.int .u64 (wd N 2 : Nat)) := Fr.out.cell 2
    have cr3 : v3.cell? ⟨gr, 3, none⟩ = some (.int .u64 (wd N 3 : Nat)) := Fr.out.cell 3
    have cr4 : v3.cell? ⟨gr, 4, none⟩ = some (.int .u64 (wd Y 0 : Nat)) := Fr.out.cell 4
    have cr5 : v3.cell? ⟨gr, 5, none⟩ = some (.int .u64 (wd Y 1 : Nat)) := Fr.out.cell 5
    have cr6 : v3.cell? ⟨gr, 6, none⟩ = some (.int .u64 (wd Y 2 : Nat)) := Fr.out.cell 6
    have cr7 : v3.cell? ⟨gr, 7, none⟩ = some (.int .u64 (wd Y 3 : Nat)) := Fr.out.cell 7
    have cr8 : v3.cell? ⟨gr, 8, none⟩ = some (.slice a l cap) := Fr.out.cell 8
    go_wp2_with fail
    clear Lr cr0 cr1 cr2 cr3 cr4 cr5 cr6 cr7 cr8
    refine (HCK.out _ BW.out).mono ?_
    rintro e v4 ⟨rfl, z4⟩
    have Nr := Lib.hid (Fr.out.on z4)
    have Na := Lib.hid (Fa.out.on z4)
    have NB := Lib.hid (bel_tr BW.out z4)
    clear BW z4 Fr Fa
    have Fr := Nr
    have Fa := Na
    have BW := NB
    clear NB Nr Na
    cases V
    · go_wp2_with fail
      refine (alive7_any _).mono ?_
      rintro e v5 ⟨rfl, z5⟩
      have Nr := Lib.hid (Fr.out.on z5)
      have Na := Lib.hid (Fa.out.on z5)
      have NB := Lib.hid (bel_tr BW.out z5)
      clear BW z5 Fr Fa
      have Fr := Nr
      have Fa := Na
      have BW := NB
      clear NB Nr Na
      go_wp2
      go_ret
      exact ⟨rfl, BW.out⟩
    · have hp := HP.out rfl
      have HPR := Lib.hid hp
      clear HP HCK HSZ
      obtain ⟨Q, X, hQ, hX, he, CD⟩ := div_ex A N HA.out HN.out (by have := hp.1; omega)
      have HCD := Lib.hid CD; have HXN := Lib.hid hX; have HEZ := Lib.hid (eqN X 0 (Nat.lt_trans hX HN.out) (by decide))
      clear CD hQ hX he hp
      go_upto_region 3 with fail
      clear hz
      have La := Fa.out.lt
      have ca0 := Fa.out.c0
      have ca1 := Fa.out.c1
      have ca2 := Fa.out.c2
      have ca3 := Fa.out.c3
      have Lr := Fr.out.lt
      have cr0 : v4.cell? ⟨gr, 0, none⟩ = some (.int .u64 (wd N 0 : Nat)) := Fr.out.cell 0
      have cr1 : v4.cell? ⟨gr, 1, none⟩ = some (.int .u64 (wd N 1 : Nat)) := Fr.out.cell 1
      have cr2 : v4.cell? ⟨gr, 2, none⟩ = some (.int .u64 (wd N 2 : Nat)) := Fr.out.cell 2
      have cr3 : v4.cell? ⟨gr, 3, none⟩ = some (.int .u64 (wd N 3 : Nat)) := Fr.out.cell 3
      have cr4 : v4.cell? ⟨gr, 4, none⟩ = some (.int .u64 (wd Y 0 : Nat)) := Fr.out.cell 4
      have cr5 : v4.cell? ⟨gr, 5, none⟩ = some (.int .u64 (wd Y 1 : Nat)) := Fr.out.cell 5
      have cr6 : v4.cell? ⟨gr, 6, none⟩ = some (.int .u64 (wd Y 2 : Nat)) := Fr.out.cell 6
      have cr7 : v4.cell? ⟨gr, 7, none⟩ = some (.int .u64 (wd Y 3 : Nat)) := Fr.out.cell 7
      have cr8 : v4.cell? ⟨gr, 8, none⟩ = some (.slice a l cap) := Fr.out.cell 8
      go_wp2_with fail
      clear La ca0 ca1 ca2 ca3 Lr cr0 cr1 cr2 cr3 cr4 cr5 cr6 cr7 cr8
      refine (HCD.out _).mono ?_
      rintro e v5 ⟨rfl, z5⟩
      have Nr := Lib.hid (Fr.out.on z5)
      have Na := Lib.hid (Fa.out.on z5)
      have NB := Lib.hid (bel_tr BW.out z5)
      clear BW z5 Fr Fa
      have Fr := Nr
      have Fa := Na
      have BW := NB
      clear NB Nr Na
      go_upto_region 6 with fail
      have Drq : gr ≠ v5.heap.size := by have := Fr.out.lt; omega
      have Daq : ga ≠ v5.heap.size := by have := Fa.out.lt; omega
      have Drx : gr ≠ v5.heap.size + 1 := by have := Fr.out.lt; omega
      have Dax : ga ≠ v5.heap.size + 1 := by have := Fa.out.lt; omega
      generalize hW6 : ((v5.alloc (.cells #[.int .u64 (wd Q 0 : Nat), .int .u64 (wd Q 1 : Nat), .int .u64 (wd Q 2 : Nat), .int .u64 (wd Q 3 : Nat)] 25)).alloc (.cells #[.int .u64 (wd X 0 : Nat), .int .u64 (wd X 1 : Nat), .int .u64 (wd X 2 : Nat), .int .u64 (wd X 3 : Nat)] 25)) = W6 at *
      have Nq : At W6 (v5.heap.size) _ _ := at_of hW6 ((At.at_ _ _ _ _ (by simp)).alloc _)
      have Nx : At W6 (v5.heap.size + 1) _ _ := at_of hW6 (At.at_ _ _ _ _ (by simp))
      have Nr := at_of hW6 ((Fr.out.alloc _).alloc _)
      have Na := at_of hW6 ((Fa.out.alloc _).alloc _)
      have NB := gr_of hW6 (gr_alloc (gr_alloc BW.out _) _)
      clear hW6 BW Fr Fa
      generalize v5.heap.size + 1 = gx at *
      generalize v5.heap.size = gq at *
      have Fr := Lib.hid Nr
      have Fa := Lib.hid Na
      have Fq := Lib.hid Nq
      have Fx := Lib.hid Nx
      have BW := Lib.hid NB
      clear NB Nr Na Nq Nx
      by_cases hx0 : X = 0
      · have hE := HEZ.out
        rw [decide_eq_true hx0] at hE
        have HE := Lib.hid hE; clear hE hx0
        try simp only [List.append_eq, List.cons_append, List.nil_append]
        refine wp_region_noPanic ?_
        refine wp_region_held_drew (S := fun w' => At w' gx 25 #[.int .u64 (wd X 0 : Nat), .int .u64 (wd X 1 : Nat), .int .u64 (wd X 2 : Nat), .int .u64 (wd X 3 : Nat)]) (by kernel_rfl) (Fx.out.drew) (fun _ => ?_)
        refine wpAnyH_cores (fuel := 0) (⟨0, 40, [], Kind.val (.agg #[.int .u64 (wd X 0 : Nat), .int .u64 (wd X 1 : Nat), .int .u64 (wd X 2 : Nat), .int .u64 (wd X 3 : Nat)]), true⟩ :: ⟨1, 41, [0], Kind.val (.agg #[.int .u64 (wd 0 0 : Nat), .int .u64 (wd 0 1 : Nat), .int .u64 (wd 0 2 : Nat), .int .u64 (wd 0 3 : Nat)]), false⟩ :: ⟨2, 42, [0, 1], Kind.val (.bool true), true⟩ :: []) _ _ W6 _ ?_ ?_ ?_ ?_ ?_ ?_ ?_ ?_ ?_ ?_ ?_
        · rfl
        · kernel_rfl
        · exact of_decide_eq_true (by kernel_rfl)
        · exact all_cons ⟨_, by rfl, by rfl⟩ (all_cons ⟨_, by rfl, by rfl⟩ (all_cons ⟨_, by rfl, by rfl⟩ (all_nil)))
        · exact fun _ hb => Fx.out.on hb
        · exact (Below.refl _ _).drew
        · kernel_rfl
        · exact fun _ _ _ _ _ h => h
        · refine all_cons ?_ (all_cons ?_ (all_cons ?_ (all_nil)))
          · exact coreG_loadP _ _ _ _ _ _ gx _ _ _ _ (by rfl) (by rfl) (wants_none) (known_old 6 _ (of_decide_eq_true (by rfl)) (by rfl)) (fun _ hs => hs)
          · exact core_pureAs _ (by rfl)
          · exact coreG_bin _ _ _ _ _ _ _ _ _ _ _ _ _ (by rfl) (by rfl) (wants_none) (known_core 0 40 _ _ (of_decide_eq_true (by rfl)) (by rfl) (by rfl) (by rfl)) (known_core 1 41 _ _ (of_decide_eq_true (by rfl)) (by rfl) (by rfl) (by rfl)) (eql_run true _ _ _ _ _ _ _ _ _ _ _ _ _ _ _ (HE.out))
        · refine all_cons ?_ (all_cons ?_ (all_cons ?_ (all_nil)))
          · exact core_stepAs _ (by rfl)
          · exact fun _ => coreG_call _ 19 _ _ [.const (.int .u64 0)] _ _ _ _ _ _ _ (by rfl) Try.func19 (by kernel_rfl) (by rfl) (by rfl) (wants_none) (.cons (known_const _) .nil) (HO0.out)
          · exact core_stepAs _ (by rfl)
        intro vs y7 hc
        obtain ⟨vv0, vv1, vv2, rfl⟩ := len3 vs hc.lv
        have qq0 : vv0 = .agg #[.int .u64 (wd X 0 : Nat), .int .u64 (wd X 1 : Nat), .int .u64 (wd X 2 : Nat), .int .u64 (wd X 3 : Nat)] := by obtain ⟨xx, hx, hy⟩ := hc.ok 0 _ rfl rfl; exact (Option.some.inj (show some vv0 = some xx from hx)).trans hy
        have qq1 : vv1 = .agg #[.int .u64 (wd 0 0 : Nat), .int .u64 (wd 0 1 : Nat), .int .u64 (wd 0 2 : Nat), .int .u64 (wd 0 3 : Nat)] := by obtain ⟨xx, hx, hy⟩ := hc.ok 1 _ rfl rfl; exact (Option.some.inj (show some vv1 = some xx from hx)).trans hy
        have qq2 : vv2 = .bool true := by obtain ⟨xx, hx, hy⟩ := hc.ok 2 _ rfl rfl; exact (Option.some.inj (show some vv2 = some xx from hx)).trans hy
        have BZ := hc.bel
        clear hc
        have Nr := Fr.out.on BZ
        have Na := Fa.out.on BZ
        have Nq := Fq.out.on BZ
        have Nx := Fx.out.on BZ
        have NB := bel_tr BW.out BZ
        clear BW BZ Fr Fa Fq Fx
        subst qq0 qq1 qq2
        simp only [List.map_cons, List.map_nil, over, Act.put, List.setIfInBounds_toArray, List.set_cons_zero, List.set_cons_succ]
        refine wpAnyH_done (by kernel_rfl) ?_ _
        refine NoPanic.normal ?_
        have Fr := Lib.hid Nr
        have Fa := Lib.hid Na
        have Fq := Lib.hid Nq
        have Fx := Lib.hid Nx
        have BW := Lib.hid NB
        clear NB Nr Na Nq Nx
        go_wp2
        go_ret
        exact ⟨rfl, BW.out⟩
      · have hE := HEZ.out
        rw [decide_eq_false hx0] at hE
        have HE := Lib.hid hE; have HX0 := Lib.hid hx0; clear hE hx0
        try simp only [List.append_eq, List.cons_append, List.nil_append]
        refine wp_region_noPanic ?_
        refine wp_region_held_drew (S := fun w' => At w' gx 25 #[.int .u64 (wd X 0 : Nat), .int .u64 (wd X 1 : Nat), .int .u64 (wd X 2 : Nat), .int .u64 (wd X 3 : Nat)]) (by kernel_rfl) (Fx.out.drew) (fun _ => ?_)
        refine wpAnyH_cores (fuel := 0) (⟨0, 40, [], Kind.val (.agg #[.int .u64 (wd X 0 : Nat), .int .u64 (wd X 1 : Nat), .int .u64 (wd X 2 : Nat), .int .u64 (wd X 3 : Nat)]), true⟩ :: ⟨1, 41, [0], Kind.val (.agg #[.int .u64 (wd 0 0 : Nat), .int .u64 (wd 0 1 : Nat), .int .u64 (wd 0 2 : Nat), .int .u64 (wd 0 3 : Nat)]), false⟩ :: ⟨2, 42, [0, 1], Kind.val (.bool false), true⟩ :: []) _ _ W6 _ ?_ ?_ ?_ ?_ ?_ ?_ ?_ ?_ ?_ ?_ ?_
        · rfl
        · kernel_rfl
        · exact of_decide_eq_true (by kernel_rfl)
        · exact all_cons ⟨_, by rfl, by rfl⟩ (all_cons ⟨_, by rfl, by rfl⟩ (all_cons ⟨_, by rfl, by rfl⟩ (all_nil)))
        · exact fun _ hb => Fx.out.on hb
        · exact (Below.refl _ _).drew
        · kernel_rfl
        · exact fun _ _ _ _ _ h => h
        · refine all_cons ?_ (all_cons ?_ (all_cons ?_ (all_nil)))
          · exact coreG_loadP _ _ _ _ _ _ gx _ _ _ _ (by rfl) (by rfl) (wants_none) (known_old 6 _ (of_decide_eq_true (by rfl)) (by rfl)) (fun _ hs => hs)
          · exact core_pureAs _ (by rfl)
          · exact coreG_bin _ _ _ _ _ _ _ _ _ _ _ _ _ (by rfl) (by rfl) (wants_none) (known_core 0 40 _ _ (of_decide_eq_true (by rfl)) (by rfl) (by rfl) (by rfl)) (known_core 1 41 _ _ (of_decide_eq_true (by rfl)) (by rfl) (by rfl) (by rfl)) (eql_run false _ _ _ _ _ _ _ _ _ _ _ _ _ _ _ (HE.out))
        · refine all_cons ?_ (all_cons ?_ (all_cons ?_ (all_nil)))
          · exact core_stepAs _ (by rfl)
          · exact fun _ => coreG_call _ 19 _ _ [.const (.int .u64 0)] _ _ _ _ _ _ _ (by rfl) Try.func19 (by kernel_rfl) (by rfl) (by rfl) (wants_none) (.cons (known_const _) .nil) (HO0.out)
          · exact core_stepAs _ (by rfl)
        intro vs y7 hc
        obtain ⟨vv0, vv1, vv2, rfl⟩ := len3 vs hc.lv
        have qq0 : vv0 = .agg #[.int .u64 (wd X 0 : Nat), .int .u64 (wd X 1 : Nat), .int .u64 (wd X 2 : Nat), .int .u64 (wd X 3 : Nat)] := by obtain ⟨xx, hx, hy⟩ := hc.ok 0 _ rfl rfl; exact (Option.some.inj (show some vv0 = some xx from hx)).trans hy
        have qq1 : vv1 = .agg #[.int .u64 (wd 0 0 : Nat), .int .u64 (wd 0 1 : Nat), .int .u64 (wd 0 2 : Nat), .int .u64 (wd 0 3 : Nat)] := by obtain ⟨xx, hx, hy⟩ := hc.ok 1 _ rfl rfl; exact (Option.some.inj (show some vv1 = some xx from hx)).trans hy
        have qq2 : vv2 = .bool false := by obtain ⟨xx, hx, hy⟩ := hc.ok 2 _ rfl rfl; exact (Option.some.inj (show some vv2 = some xx from hx)).trans hy
        have BZ := hc.bel
        clear hc
        have Nr := Fr.out.on BZ
        have Na := Fa.out.on BZ
        have Nq := Fq.out.on BZ
        have Nx := Fx.out.on BZ
        have NB := bel_tr BW.out BZ
        clear BW BZ Fr Fa Fq Fx
        subst qq0 qq1 qq2
        simp only [List.map_cons, List.map_nil, over, Act.put, List.setIfInBounds_toArray, List.set_cons_zero, List.set_cons_succ]
        refine wpAnyH_done (by kernel_rfl) ?_ _
        refine NoPanic.normal ?_
        have Fr := Lib.hid Nr
        have Fa := Lib.hid Na
        have Fq := Lib.hid Nq
        have Fx := Lib.hid Nx
        have BW := Lib.hid NB
        clear NB Nr Na Nq Nx
        obtain ⟨S, c, hS, hc, he, CS⟩ := sub_ex N 1 HN.out (by decide)
        have hN2 := HPR.out.1
        have hc0 : c = 0 := by omega
        have hSN : S = N - 1 := by omega
        subst hc0
        have hxn := HXN.out; have hx0 := HX0.out
        have hnd : ¬ N ∣ X := fun h => by have := Nat.le_of_dvd (by omega) h; omega
        have CE := mexp_yes X S N HN.out (by have := HN.out; omega) (by omega) hxn
        rw [show X ^ S % N = 1 by rw [hSN]; exact Pr.fermat HPR.out hnd] at CE
        obtain ⟨I, hI, hXI⟩ := Pr.pri_inv HPR.out hnd
        have CI := minv_yes X N I HN.out (by omega) hxn hI hXI
        obtain ⟨D, u, hD, hu, hnx, CDD⟩ := div_ex N X HN.out (Nat.lt_trans hxn HN.out) hx0
        have hux : (u ≠ 0) ↔ (X ≠ 1) := by
          constructor
          · intro h h1; subst h1; omega
          · intro h h1
            rcases HPR.out.2 X ⟨D, by rw [hnx, h1, Nat.add_zero, Nat.mul_comm]⟩ with h2 | h2
            · exact h h2
            · omega
        have HCS := Lib.hid CS; have HCE := Lib.hid CE; have HCI := Lib.hid CI; have HCDD := Lib.hid CDD; have HUX := Lib.hid hux
        have HEU := Lib.hid (eqN u 0 (Nat.lt_trans hu (Nat.lt_trans hxn HN.out)) (by decide))
        have HEX := Lib.hid (eqN X 1 (Nat.lt_trans hxn HN.out) (by decide))
        have HE1 := Lib.hid (eqN 1 1 (by decide) (by decide))
        clear hS hc he CS hN2 hSN hxn hx0 hnd CE hI hXI CI hD hu hnx CDD hux
        go_upto_region 8 with fail
        try simp only [List.append_eq, List.cons_append, List.nil_append]
        refine wp_region_noPanic ?_
        refine wp_region_held_drew (S := fun w' => At w' gr 28 #[.int .u64 (wd N 0 : Nat), .int .u64 (wd N 1 : Nat), .int .u64 (wd N 2 : Nat), .int .u64 (wd N 3 : Nat), .int .u64 (wd Y 0 : Nat), .int .u64 (wd Y 1 : Nat), .int .u64 (wd Y 2 : Nat), .int .u64 (wd Y 3 : Nat), .slice a l cap]) (by kernel_rfl) (Fr.out.drew) (fun _ => ?_)
        refine wpAnyH_cores (fuel := 2) (⟨0, 44, [], Kind.val (.pointer (some ⟨gr, 0, none⟩)), true⟩ :: ⟨1, 45, [0], Kind.val (.agg #[.int .u64 (wd N 0 : Nat), .int .u64 (wd N 1 : Nat), .int .u64 (wd N 2 : Nat), .int .u64 (wd N 3 : Nat)]), true⟩ :: ⟨2, 46, [], Kind.val (.agg #[.int .u64 (wd 1 0 : Nat), .int .u64 (wd 1 1 : Nat), .int .u64 (wd 1 2 : Nat), .int .u64 (wd 1 3 : Nat)]), false⟩ :: ⟨3, 47, [1, 2], Kind.val (.tuple #[.agg #[.int .u64 (wd S 0 : Nat), .int .u64 (wd S 1 : Nat), .int .u64 (wd S 2 : Nat), .int .u64 (wd S 3 : Nat)], .int .u64 0]), false⟩ :: ⟨4, 43, [3], Kind.val (.tuple #[.agg #[.int .u64 (wd S 0 : Nat), .int .u64 (wd S 1 : Nat), .int .u64 (wd S 2 : Nat), .int .u64 (wd S 3 : Nat)], .int .u64 0]), true⟩ :: ⟨5, 48, [4], Kind.val (.agg #[.int .u64 (wd S 0 : Nat), .int .u64 (wd S 1 : Nat), .int .u64 (wd S 2 : Nat), .int .u64 (wd S 3 : Nat)]), true⟩ :: ⟨6, 49, [4], Kind.val (.int .u64 0), true⟩ :: ⟨7, 8, [], Kind.cell y7.heap.size 25 #[.int .u64 0, .int .u64 0, .int .u64 0, .int .u64 0], false⟩ :: []) _ _ y7 _ ?_ ?_ ?_ ?_ ?_ ?_ ?_ ?_ ?_ ?_ ?_
        · rfl
        · kernel_rfl
        · exact of_decide_eq_true rfl
        · exact all_cons ⟨_, rfl, rfl⟩ (all_cons ⟨_, rfl, rfl⟩ (all_cons ⟨_, rfl, rfl⟩ (all_cons ⟨_, rfl, rfl⟩ (all_cons ⟨_, rfl, rfl⟩ (all_cons ⟨_, rfl, rfl⟩ (all_cons ⟨_, rfl, rfl⟩ (all_cons ⟨_, rfl, rfl⟩ (all_nil))))))))
        · exact fun _ hb => Fr.out.on hb
        · exact (Below.refl _ _).drew
        · kernel_rfl
        · exact fun _ _ _ _ _ h => h
        · refine all_cons ?_ (all_cons ?_ (all_cons ?_ (all_cons ?_ (all_cons ?_ (all_cons ?_ (all_cons ?_ (all_cons ?_ (all_nil))))))))
          · exact core_held _ _ _ _ _ _ _ _ (by rfl) (by rfl) (known_old 2 _ (of_decide_eq_true (by rfl)) (by rfl)) (fun ρ w hx _ => fieldR0 _ _ _ _ _ _ ρ w gr hx)
          · exact core_held _ _ _ _ _ _ _ _ (by rfl) (by rfl) (known_core 0 44 _ _ (of_decide_eq_true (by rfl)) (by rfl) (by rfl) (by rfl)) (fun ρ w hx hs => loadR0 _ _ _ _ _ _ ρ w gr _ _ _ _ _ _ _ _ _ hx hs)
          · exact core_pureAs _ (by rfl)
          · exact core_pureAs _ (by rfl)
          · exact core_move _ _ _ _ _ _ (by rfl) (by rfl) (known_core 3 47 _ _ (of_decide_eq_true (by rfl)) (by rfl) (by rfl) (by rfl))
          · exact core_extract _ _ 0 _ _ _ _ _ (by rfl) (by rfl) (known_core 4 43 _ _ (of_decide_eq_true (by rfl)) (by rfl) (by rfl) (by rfl)) (by rfl)
          · exact core_extract _ _ 1 _ _ _ _ _ (by rfl) (by rfl) (known_core 4 43 _ _ (of_decide_eq_true (by rfl)) (by rfl) (by rfl) (by rfl)) (by rfl)
          · exact core_pureAs _ (by rfl)
        · refine all_cons ?_ (all_cons ?_ (all_cons ?_ (all_cons ?_ (all_cons ?_ (all_cons ?_ (all_cons ?_ (all_cons ?_ (all_nil))))))))
          · exact core_stepAs _ (by rfl)
          · exact core_stepAs _ (by rfl)
          · exact fun _ => core_call _ 19 _ _ [.const (.int .u64 1)] _ _ _ _ _ _ (by rfl) Try.func19 (by kernel_rfl) (by rfl) (by rfl) (.cons (known_const _) .nil) (HO.out)
          · exact fun _ => core_call _ 23 _ _ [.tmp 45, .tmp 46] _ _ _ _ _ _ (by rfl) Try.func23 (by kernel_rfl) (by rfl) (by rfl) (.cons (known_core 1 45 _ _ (of_decide_eq_true (by rfl)) (by rfl) (by rfl) (by rfl)) (.cons (known_core 2 46 _ _ (of_decide_eq_true (by rfl)) (by rfl) (by rfl) (by rfl)) .nil)) (HCS.out)
          · exact core_stepAs _ (by rfl)
          · exact core_stepAs _ (by rfl)
          · exact core_stepAs _ (by rfl)
          · exact fun _ => core_alloc _ _ _ _ _ (by rfl) (by rfl) (Nat.le_refl _)
        intro vs y8 hc
        obtain ⟨vv0, vv1, vv2, vv3, vv4, vv5, vv6, vv7, rfl⟩ := len8 vs hc.lv
        have qq0 : vv0 = .pointer (some ⟨gr, 0, none⟩) := by obtain ⟨xx, hx, hy⟩ := hc.ok 0 _ rfl rfl; exact (Option.some.inj (show some vv0 = some xx from hx)).trans hy
        have qq1 : vv1 = .agg #[.int .u64 (wd N 0 : Nat), .int .u64 (wd N 1 : Nat), .int .u64 (wd N 2 : Nat), .int .u64 (wd N 3 : Nat)] := by obtain ⟨xx, hx, hy⟩ := hc.ok 1 _ rfl rfl; exact (Option.some.inj (show some vv1 = some xx from hx)).trans hy
        have qq2 : vv2 = .agg #[.int .u64 (wd 1 0 : Nat), .int .u64 (wd 1 1 : Nat), .int .u64 (wd 1 2 : Nat), .int .u64 (wd 1 3 : Nat)] := by obtain ⟨xx, hx, hy⟩ := hc.ok 2 _ rfl rfl; exact (Option.some.inj (show some vv2 = some xx from hx)).trans hy
        have qq3 : vv3 = .tuple #[.agg #[.int .u64 (wd S 0 : Nat), .int .u64 (wd S 1 : Nat), .int .u64 (wd S 2 : Nat), .int .u64 (wd S 3 : Nat)], .int .u64 0] := by obtain ⟨xx, hx, hy⟩ := hc.ok 3 _ rfl rfl; exact (Option.some.inj (show some vv3 = some xx from hx)).trans hy
        have qq4 : vv4 = .tuple #[.agg #[.int .u64 (wd S 0 : Nat), .int .u64 (wd S 1 : Nat), .int .u64 (wd S 2 : Nat), .int .u64 (wd S 3 : Nat)], .int .u64 0] := by obtain ⟨xx, hx, hy⟩ := hc.ok 4 _ rfl rfl; exact (Option.some.inj (show some vv4 = some xx from hx)).trans hy
        have qq5 : vv5 = .agg #[.int .u64 (wd S 0 : Nat), .int .u64 (wd S 1 : Nat), .int .u64 (wd S 2 : Nat), .int .u64 (wd S 3 : Nat)] := by obtain ⟨xx, hx, hy⟩ := hc.ok 5 _ rfl rfl; exact (Option.some.inj (show some vv5 = some xx from hx)).trans hy
        have qq6 : vv6 = .int .u64 0 := by obtain ⟨xx, hx, hy⟩ := hc.ok 6 _ rfl rfl; exact (Option.some.inj (show some vv6 = some xx from hx)).trans hy
        obtain ⟨xx, hx, gm, hv, Em, Am⟩ := hc.ok 7 _ rfl rfl
        have qq7 : vv7 = .pointer (some ⟨gm, 0, none⟩) := (Option.some.inj (show some vv7 = some xx from hx)).trans hv
        clear hx hv
        have BZ := hc.bel
        clear hc
        have Nr := Fr.out.on BZ
        have Na := Fa.out.on BZ
        have Nq := Fq.out.on BZ
        have Nx := Fx.out.on BZ
        have Drm : gr ≠ gm := by have := Fr.out.lt; omega
        have Dam : ga ≠ gm := by have := Fa.out.lt; omega
        have Dqm : gq ≠ gm := by have := Fq.out.lt; omega
        have Dxm : gx ≠ gm := by have := Fx.out.lt; omega
        have HSZ8 := BW.out.size
        have NB := bel_tr BW.out BZ
        clear BW BZ Fr Fa Fq Fx
        subst qq0 qq1 qq2 qq3 qq4 qq5 qq6 qq7
        simp only [List.map_cons, List.map_nil, over, Act.put, List.setIfInBounds_toArray, List.set_cons_zero, List.set_cons_succ]
        have OLD := Am
        replace Nr := put4_far Nr Drm (.int .u64 (wd S 0 : Nat)) (.int .u64 (wd S 1 : Nat)) (.int .u64 (wd S 2 : Nat)) (.int .u64 (wd S 3 : Nat))
        replace Na := put4_far Na Dam (.int .u64 (wd S 0 : Nat)) (.int .u64 (wd S 1 : Nat)) (.int .u64 (wd S 2 : Nat)) (.int .u64 (wd S 3 : Nat))
        replace Nq := put4_far Nq Dqm (.int .u64 (wd S 0 : Nat)) (.int .u64 (wd S 1 : Nat)) (.int .u64 (wd S 2 : Nat)) (.int .u64 (wd S 3 : Nat))
        replace Nx := put4_far Nx Dxm (.int .u64 (wd S 0 : Nat)) (.int .u64 (wd S 1 : Nat)) (.int .u64 (wd S 2 : Nat)) (.int .u64 (wd S 3 : Nat))
        replace Am := put4_at Am (.int .u64 (wd S 0 : Nat)) (.int .u64 (wd S 1 : Nat)) (.int .u64 (wd S 2 : Nat)) (.int .u64 (wd S 3 : Nat))
        replace NB := put4_below NB (Nat.le_trans HSZ8 Em) (.int .u64 (wd S 0 : Nat)) (.int .u64 (wd S 1 : Nat)) (.int .u64 (wd S 2 : Nat)) (.int .u64 (wd S 3 : Nat))
        refine store_one (i := 8) _ _ _ _ _ gm _ _ _ _ _ _ _ _ (by kernel_rfl) (by rfl) (by rfl) (by rfl) OLD (Nr) ?_
        clear OLD
        generalize (put4 y8 gm (.int .u64 (wd S 0 : Nat)) (.int .u64 (wd S 1 : Nat)) (.int .u64 (wd S 2 : Nat)) (.int .u64 (wd S 3 : Nat))) = y8_8 at *
        refine assign_one (i := 9) _ 9 _ _ _ (.int .u64 0) (by kernel_rfl) (by rfl) (by rfl) (Nr) ?_
        try simp only [Act.put, List.setIfInBounds_toArray, List.set_cons_zero, List.set_cons_succ]
        refine wpAnyH_done (by kernel_rfl) ?_ _
        refine NoPanic.normal ?_
        have Fr := Lib.hid Nr
        have Fa := Lib.hid Na
        have Fq := Lib.hid Nq
        have Fx := Lib.hid Nx
        have Fm := Lib.hid Am
        have BW := Lib.hid NB
        clear NB Nr Na Nq Nx Am
        clear Em
        clear HSZ8
        have Lx := Fx.out.lt
        have cx0 := Fx.out.c0
        have cx1 := Fx.out.c1
        have cx2 := Fx.out.c2
        have cx3 := Fx.out.c3
        have Lm := Fm.out.lt
        have cm0 := Fm.out.c0
        have cm1 := Fm.out.c1
        have cm2 := Fm.out.c2
        have cm3 := Fm.out.c3
        have Lr := Fr.out.lt
        have cr0 : y8_8.cell? ⟨gr, 0, none⟩ = some (.int .u64 (wd N 0 : Nat)) := Fr.out.cell 0
        have cr1 : y8_8.cell? ⟨gr, 1, none⟩ = some (.int .u64 (wd N 1 : Nat)) := Fr.out.cell 1
        have cr2 : y8_8.cell? ⟨gr, 2, none⟩ = some (.int .u64 (wd N 2 : Nat)) := Fr.out.cell 2
        have cr3 : y8_8.cell? ⟨gr, 3, none⟩ = some (.int .u64 (wd N 3 : Nat)) := Fr.out.cell 3
        have cr4 : y8_8.cell? ⟨gr, 4, none⟩ = some (.int .u64 (wd Y 0 : Nat)) := Fr.out.cell 4
        have cr5 : y8_8.cell? ⟨gr, 5, none⟩ = some (.int .u64 (wd Y 1 : Nat)) := Fr.out.cell 5
        have cr6 : y8_8.cell? ⟨gr, 6, none⟩ = some (.int .u64 (wd Y 2 : Nat)) := Fr.out.cell 6
        have cr7 : y8_8.cell? ⟨gr, 7, none⟩ = some (.int .u64 (wd Y 3 : Nat)) := Fr.out.cell 7
        have cr8 : y8_8.cell? ⟨gr, 8, none⟩ = some (.slice a l cap) := Fr.out.cell 8
        go_wp2_with fail
        clear Lx cx0 cx1 cx2 cx3 Lm cm0 cm1 cm2 cm3 Lr cr0 cr1 cr2 cr3 cr4 cr5 cr6 cr7 cr8
        refine (HCE.out _).mono ?_
        rintro e v9 ⟨rfl, z9⟩
        have Nr := Lib.hid (Fr.out.on z9)
        have Na := Lib.hid (Fa.out.on z9)
        have Nq := Lib.hid (Fq.out.on z9)
        have Nx := Lib.hid (Fx.out.on z9)
        have Nm := Lib.hid (Fm.out.on z9)
        have NB := Lib.hid (bel_tr BW.out z9)
        clear BW z9 Fr Fa Fq Fx Fm
        have Fr := Nr
        have Fa := Na
        have Fq := Nq
        have Fx := Nx
        have Fm := Nm
        have BW := NB
        clear NB Nr Na Nq Nx Nm
        go_upto_region 10 with fail
        have Dry : gr ≠ v9.heap.size := by have := Fr.out.lt; omega
        have Day : ga ≠ v9.heap.size := by have := Fa.out.lt; omega
        generalize hW10 : (v9.alloc (.cells #[.int .u64 (wd 1 0 : Nat), .int .u64 (wd 1 1 : Nat), .int .u64 (wd 1 2 : Nat), .int .u64 (wd 1 3 : Nat)] 25)) = W10 at *
        have Ny : At W10 (v9.heap.size) _ _ := at_of hW10 (At.at_ _ _ _ _ (by simp))
        have Nr := at_of hW10 (Fr.out.alloc _)
        have Na := at_of hW10 (Fa.out.alloc _)
        have Nq := at_of hW10 (Fq.out.alloc _)
        have Nx := at_of hW10 (Fx.out.alloc _)
        have Nm := at_of hW10 (Fm.out.alloc _)
        have NB := gr_of hW10 (gr_alloc BW.out _)
        clear hW10 BW Fr Fa Fq Fx Fm
        generalize v9.heap.size = gy at *
        have Fr := Lib.hid Nr
        have Fa := Lib.hid Na
        have Fq := Lib.hid Nq
        have Fx := Lib.hid Nx
        have Fm := Lib.hid Nm
        have Fy := Lib.hid Ny
        have BW := Lib.hid NB
        clear NB Nr Na Nq Nx Nm Ny
        have Lx := Fx.out.lt
        have cx0 := Fx.out.c0
        have cx1 := Fx.out.c1
        have cx2 := Fx.out.c2
        have cx3 := Fx.out.c3
        have Lr := Fr.out.lt
        have cr0 : W10.cell? ⟨gr, 0, none⟩ = some (.int .u64 (wd N 0 : Nat)) := Fr.out.cell 0
        have cr1 : W10.cell? ⟨gr, 1, none⟩ = some (.int .u64 (wd N 1 : Nat)) := Fr.out.cell 1
        have cr2 : W10.cell? ⟨gr, 2, none⟩ = some (.int .u64 (wd N 2 : Nat)) := Fr.out.cell 2
        have cr3 : W10.cell? ⟨gr, 3, none⟩ = some (.int .u64 (wd N 3 : Nat)) := Fr.out.cell 3
        have cr4 : W10.cell? ⟨gr, 4, none⟩ = some (.int .u64 (wd Y 0 : Nat)) := Fr.out.cell 4
        have cr5 : W10.cell? ⟨gr, 5, none⟩ = some (.int .u64 (wd Y 1 : Nat)) := Fr.out.cell 5
        have cr6 : W10.cell? ⟨gr, 6, none⟩ = some (.int .u64 (wd Y 2 : Nat)) := Fr.out.cell 6
        have cr7 : W10.cell? ⟨gr, 7, none⟩ = some (.int .u64 (wd Y 3 : Nat)) := Fr.out.cell 7
        have cr8 : W10.cell? ⟨gr, 8, none⟩ = some (.slice a l cap) := Fr.out.cell 8
        go_wp2_with fail
        clear Lx cx0 cx1 cx2 cx3 Lr cr0 cr1 cr2 cr3 cr4 cr5 cr6 cr7 cr8
        refine (HCI.out _).mono ?_
        rintro e v11 ⟨rfl, z11⟩
        have Nr := Lib.hid (Fr.out.on z11)
        have Na := Lib.hid (Fa.out.on z11)
        have Nq := Lib.hid (Fq.out.on z11)
        have Nx := Lib.hid (Fx.out.on z11)
        have Nm := Lib.hid (Fm.out.on z11)
        have Ny := Lib.hid (Fy.out.on z11)
        have NB := Lib.hid (bel_tr BW.out z11)
        clear BW z11 Fr Fa Fq Fx Fm Fy
        have Fr := Nr
        have Fa := Na
        have Fq := Nq
        have Fx := Nx
        have Fm := Nm
        have Fy := Ny
        have BW := NB
        clear NB Nr Na Nq Nx Nm Ny
        go_upto_region 11 with fail
        have Dri : gr ≠ v11.heap.size := by have := Fr.out.lt; omega
        have Dai : ga ≠ v11.heap.size := by have := Fa.out.lt; omega
        generalize hW12 : (v11.alloc (.cells #[.int .u64 (wd I 0 : Nat), .int .u64 (wd I 1 : Nat), .int .u64 (wd I 2 : Nat), .int .u64 (wd I 3 : Nat)] 25)) = W12 at *
        have Ni : At W12 (v11.heap.size) _ _ := at_of hW12 (At.at_ _ _ _ _ (by simp))
        have Nr := at_of hW12 (Fr.out.alloc _)
        have Na := at_of hW12 (Fa.out.alloc _)
        have Nq := at_of hW12 (Fq.out.alloc _)
        have Nx := at_of hW12 (Fx.out.alloc _)
        have Nm := at_of hW12 (Fm.out.alloc _)
        have Ny := at_of hW12 (Fy.out.alloc _)
        have NB := gr_of hW12 (gr_alloc BW.out _)
        clear hW12 BW Fr Fa Fq Fx Fm Fy
        generalize v11.heap.size = gi at *
        have Fr := Lib.hid Nr
        have Fa := Lib.hid Na
        have Fq := Lib.hid Nq
        have Fx := Lib.hid Nx
        have Fm := Lib.hid Nm
        have Fy := Lib.hid Ny
        have Fi := Lib.hid Ni
        have BW := Lib.hid NB
        clear NB Nr Na Nq Nx Nm Ny Ni
        have Lx := Fx.out.lt
        have cx0 := Fx.out.c0
        have cx1 := Fx.out.c1
        have cx2 := Fx.out.c2
        have cx3 := Fx.out.c3
        have Lr := Fr.out.lt
        have cr0 : W12.cell? ⟨gr, 0, none⟩ = some (.int .u64 (wd N 0 : Nat)) := Fr.out.cell 0
        have cr1 : W12.cell? ⟨gr, 1, none⟩ = some (.int .u64 (wd N 1 : Nat)) := Fr.out.cell 1
        have cr2 : W12.cell? ⟨gr, 2, none⟩ = some (.int .u64 (wd N 2 : Nat)) := Fr.out.cell 2
        have cr3 : W12.cell? ⟨gr, 3, none⟩ = some (.int .u64 (wd N 3 : Nat)) := Fr.out.cell 3
        have cr4 : W12.cell? ⟨gr, 4, none⟩ = some (.int .u64 (wd Y 0 : Nat)) := Fr.out.cell 4
        have cr5 : W12.cell? ⟨gr, 5, none⟩ = some (.int .u64 (wd Y 1 : Nat)) := Fr.out.cell 5
        have cr6 : W12.cell? ⟨gr, 6, none⟩ = some (.int .u64 (wd Y 2 : Nat)) := Fr.out.cell 6
        have cr7 : W12.cell? ⟨gr, 7, none⟩ = some (.int .u64 (wd Y 3 : Nat)) := Fr.out.cell 7
        have cr8 : W12.cell? ⟨gr, 8, none⟩ = some (.slice a l cap) := Fr.out.cell 8
        go_wp2_with fail
        clear Lx cx0 cx1 cx2 cx3 Lr cr0 cr1 cr2 cr3 cr4 cr5 cr6 cr7 cr8
        refine (HCDD.out _).mono ?_
        rintro e v13 ⟨rfl, z13⟩
        have Nr := Lib.hid (Fr.out.on z13)
        have Na := Lib.hid (Fa.out.on z13)
        have Nq := Lib.hid (Fq.out.on z13)
        have Nx := Lib.hid (Fx.out.on z13)
        have Nm := Lib.hid (Fm.out.on z13)
        have Ny := Lib.hid (Fy.out.on z13)
        have Ni := Lib.hid (Fi.out.on z13)
        have NB := Lib.hid (bel_tr BW.out z13)
        clear BW z13 Fr Fa Fq Fx Fm Fy Fi
        have Fr := Nr
        have Fa := Na
        have Fq := Nq
        have Fx := Nx
        have Fm := Nm
        have Fy := Ny
        have Fi := Ni
        have BW := NB
        clear NB Nr Na Nq Nx Nm Ny Ni
        go_upto_region 12 with fail
        have Drd : gr ≠ v13.heap.size := by have := Fr.out.lt; omega
        have Dad : ga ≠ v13.heap.size := by have := Fa.out.lt; omega
        have Dru : gr ≠ v13.heap.size + 1 := by have := Fr.out.lt; omega
        have Dau : ga ≠ v13.heap.size + 1 := by have := Fa.out.lt; omega
        generalize hW14 : ((v13.alloc (.cells #[.int .u64 (wd D 0 : Nat), .int .u64 (wd D 1 : Nat), .int .u64 (wd D 2 : Nat), .int .u64 (wd D 3 : Nat)] 25)).alloc (.cells #[.int .u64 (wd u 0 : Nat), .int .u64 (wd u 1 : Nat), .int .u64 (wd u 2 : Nat), .int .u64 (wd u 3 : Nat)] 25)) = W14 at *
        have Nd : At W14 (v13.heap.size) _ _ := at_of hW14 ((At.at_ _ _ _ _ (by simp)).alloc _)
        have Nu : At W14 (v13.heap.size + 1) _ _ := at_of hW14 (At.at_ _ _ _ _ (by simp))
        have Nr := at_of hW14 ((Fr.out.alloc _).alloc _)
        have Na := at_of hW14 ((Fa.out.alloc _).alloc _)
        have Nq := at_of hW14 ((Fq.out.alloc _).alloc _)
        have Nx := at_of hW14 ((Fx.out.alloc _).alloc _)
        have Nm := at_of hW14 ((Fm.out.alloc _).alloc _)
        have Ny := at_of hW14 ((Fy.out.alloc _).alloc _)
        have Ni := at_of hW14 ((Fi.out.alloc _).alloc _)
        have NB := gr_of hW14 (gr_alloc (gr_alloc BW.out _) _)
        clear hW14 BW Fr Fa Fq Fx Fm Fy Fi
        generalize v13.heap.size + 1 = gu at *
        generalize v13.heap.size = gd at *
        have Fr := Lib.hid Nr
        have Fa := Lib.hid Na
        have Fq := Lib.hid Nq
        have Fx := Lib.hid Nx
        have Fm := Lib.hid Nm
        have Fy := Lib.hid Ny
        have Fi := Lib.hid Ni
        have Fd := Lib.hid Nd
        have Fu := Lib.hid Nu
        have BW := Lib.hid NB
        clear NB Nr Na Nq Nx Nm Ny Ni Nd Nu
        have hE1 := HE1.out
        simp only [decide_true] at hE1
        have HEE := Lib.hid hE1; clear hE1
        by_cases hx1 : X = 1
        · have hu0 : u = 0 := by have := HUX.out; omega
          have hEU := HEU.out; have hEX := HEX.out
          rw [decide_eq_true hu0] at hEU
          rw [decide_eq_true hx1] at hEX
          have HU := Lib.hid hEU; have HXX := Lib.hid hEX
          clear hEU hEX hu0 hx1
          try simp only [List.append_eq, List.cons_append, List.nil_append]
          refine wp_region_noPanic ?_
          refine wp_region_held_drew (S := fun w' => At w' gy 25 #[.int .u64 (wd 1 0 : Nat), .int .u64 (wd 1 1 : Nat), .int .u64 (wd 1 2 : Nat), .int .u64 (wd 1 3 : Nat)] ∧ At w' gu 25 #[.int .u64 (wd u 0 : Nat), .int .u64 (wd u 1 : Nat), .int .u64 (wd u 2 : Nat), .int .u64 (wd u 3 : Nat)] ∧ At w' gx 25 #[.int .u64 (wd X 0 : Nat), .int .u64 (wd X 1 : Nat), .int .u64 (wd X 2 : Nat), .int .u64 (wd X 3 : Nat)]) (by kernel_rfl) (⟨Fy.out.drew, Fu.out.drew, Fx.out.drew⟩) (fun _ => ?_)
          refine wpAnyH_cores (fuel := 1) (⟨0, 73, [], Kind.val (.int .i64 0), true⟩ :: ⟨1, 74, [0], Kind.val (.bool true), true⟩ :: ⟨2, 75, [1], Kind.val (.bool true), true⟩ :: ⟨3, 76, [2], Kind.val (.agg #[.int .u64 (wd 1 0 : Nat), .int .u64 (wd 1 1 : Nat), .int .u64 (wd 1 2 : Nat), .int .u64 (wd 1 3 : Nat)]), true⟩ :: ⟨4, 77, [2, 3], Kind.val (.agg #[.int .u64 (wd 1 0 : Nat), .int .u64 (wd 1 1 : Nat), .int .u64 (wd 1 2 : Nat), .int .u64 (wd 1 3 : Nat)]), false⟩ :: ⟨5, 78, [2, 3, 4], Kind.val (.bool true), true⟩ :: ⟨6, 79, [2, 5], Kind.val (.bool true), true⟩ :: ⟨7, 80, [6], Kind.val (.bool true), true⟩ :: ⟨8, 81, [7], Kind.val (.int .i64 0), true⟩ :: ⟨9, 82, [7, 8], Kind.val (.bool true), true⟩ :: ⟨10, 83, [7, 9], Kind.val (.bool true), true⟩ :: ⟨11, 84, [10], Kind.val (.bool true), true⟩ :: ⟨12, 85, [11], Kind.val (.int .i64 0), true⟩ :: ⟨13, 86, [11, 12], Kind.val (.bool true), true⟩ :: ⟨14, 87, [11, 13], Kind.val (.bool true), true⟩ :: ⟨15, 88, [14], Kind.val (.bool true), true⟩ :: ⟨16, 89, [15], Kind.val (.agg #[.int .u64 (wd u 0 : Nat), .int .u64 (wd u 1 : Nat), .int .u64 (wd u 2 : Nat), .int .u64 (wd u 3 : Nat)]), true⟩ :: ⟨19, 92, [15, 16], Kind.val (.agg #[.int .u64 (wd X 0 : Nat), .int .u64 (wd X 1 : Nat), .int .u64 (wd X 2 : Nat), .int .u64 (wd X 3 : Nat)]), true⟩ :: ⟨17, 90, [15, 17], Kind.val (.agg #[.int .u64 (wd 0 0 : Nat), .int .u64 (wd 0 1 : Nat), .int .u64 (wd 0 2 : Nat), .int .u64 (wd 0 3 : Nat)]), false⟩ :: ⟨18, 91, [15, 16, 18], Kind.val (.bool false), true⟩ :: ⟨20, 93, [15, 19], Kind.val (.agg #[.int .u64 (wd 1 0 : Nat), .int .u64 (wd 1 1 : Nat), .int .u64 (wd 1 2 : Nat), .int .u64 (wd 1 3 : Nat)]), false⟩ :: ⟨21, 94, [15, 17, 20], Kind.val (.bool false), true⟩ :: ⟨22, 95, [15, 19, 21], Kind.val (.bool true), true⟩ :: ⟨23, 96, [15, 22], Kind.val (.bool true), true⟩ :: []) _ _ W14 _ ?_ ?_ ?_ ?_ ?_ ?_ ?_ ?_ ?_ ?_ ?_
          · rfl
          · kernel_rfl
          · exact of_decide_eq_true (by kernel_rfl)
          · exact all_cons ⟨_, by rfl, by rfl⟩ (all_cons ⟨_, by rfl, by rfl⟩ (all_cons ⟨_, by rfl, by rfl⟩ (all_cons ⟨_, by rfl, by rfl⟩ (all_cons ⟨_, by rfl, by rfl⟩ (all_cons ⟨_, by rfl, by rfl⟩ (all_cons ⟨_, by rfl, by rfl⟩ (all_cons ⟨_, by rfl, by rfl⟩ (all_cons ⟨_, by rfl, by rfl⟩ (all_cons ⟨_, by rfl, by rfl⟩ (all_cons ⟨_, by rfl, by rfl⟩ (all_cons ⟨_, by rfl, by rfl⟩ (all_cons ⟨_, by rfl, by rfl⟩ (all_cons ⟨_, by rfl, by rfl⟩ (all_cons ⟨_, by rfl, by rfl⟩ (all_cons ⟨_, by rfl, by rfl⟩ (all_cons ⟨_, by rfl, by rfl⟩ (all_cons ⟨_, by rfl, by rfl⟩ (all_cons ⟨_, by rfl, by rfl⟩ (all_cons ⟨_, by rfl, by rfl⟩ (all_cons ⟨_, by rfl, by rfl⟩ (all_cons ⟨_, by rfl, by rfl⟩ (all_cons ⟨_, by rfl, by rfl⟩ (all_cons ⟨_, by rfl, by rfl⟩ (all_nil))))))))))))))))))))))))
          · exact fun _ hb => ⟨Fy.out.on hb, Fu.out.on hb, Fx.out.on hb⟩
          · exact (Below.refl _ _).drew
          · kernel_rfl
          · exact fun _ _ _ _ _ h => h
          · refine all_cons ?_ (all_cons ?_ (all_cons ?_ (all_cons ?_ (all_cons ?_ (all_cons ?_ (all_cons ?_ (all_cons ?_ (all_cons ?_ (all_cons ?_ (all_cons ?_ (all_cons ?_ (all_cons ?_ (all_cons ?_ (all_cons ?_ (all_cons ?_ (all_cons ?_ (all_cons ?_ (all_cons ?_ (all_cons ?_ (all_cons ?_ (all_cons ?_ (all_cons ?_ (all_cons ?_ (all_nil))))))))))))))))))))))))
            · exact coreG_move _ _ _ _ _ _ _ (by rfl) (by rfl) (wants_none) (known_old 11 _ (of_decide_eq_true (by rfl)) (by rfl))
            · exact coreG_bin _ _ _ _ _ _ _ _ _ _ _ _ _ (by rfl) (by rfl) (wants_none) (known_core 0 73 _ _ (of_decide_eq_true (by rfl)) (by rfl) (by rfl) (by rfl)) (known_const _) ((fun ρ w hx hy => by simp only [execOp, hx, hy]; simp [go_sem]))
            · exact coreG_move _ _ _ _ _ _ _ (by rfl) (by rfl) (wants_none) (known_core 1 74 _ _ (of_decide_eq_true (by rfl)) (by rfl) (by rfl) (by rfl))
            · exact coreG_loadP _ _ _ _ _ _ gy _ _ _ _ (by rfl) (by rfl) (wants_core 2 75 2 _ _ _ (by rfl) (by rfl) (by rfl) (known_core 2 75 _ _ (of_decide_eq_true (by rfl)) (by rfl) (by rfl) (by rfl)) _ (by rfl)) (known_old 10 _ (of_decide_eq_true (by rfl)) (by rfl)) (fun _ hs => hs.1)
            · exact core_pureAs _ (by rfl)
            · exact coreG_bin _ _ _ _ _ _ _ _ _ _ _ _ _ (by rfl) (by rfl) (wants_core 2 75 2 _ _ _ (by rfl) (by rfl) (by rfl) (known_core 2 75 _ _ (of_decide_eq_true (by rfl)) (by rfl) (by rfl) (by rfl)) _ (by rfl)) (known_core 3 76 _ _ (of_decide_eq_true (by rfl)) (by rfl) (by rfl) (by rfl)) (known_core 4 77 _ _ (of_decide_eq_true (by rfl)) (by rfl) (by rfl) (by rfl)) (eql_run true _ _ _ _ _ _ _ _ _ _ _ _ _ _ _ (HEE.out))
            · exact coreG_pick _ _ _ _ _ _ _ _ _ _ _ _ (by rfl) (by rfl) (wants_none) (known_core 2 75 _ _ (of_decide_eq_true (by rfl)) (by rfl) (by rfl) (by rfl)) (known_core 5 78 _ _ (of_decide_eq_true (by rfl)) (by rfl) (by rfl) (by rfl)) (known_const _) (by rfl)
            · exact coreG_move _ _ _ _ _ _ _ (by rfl) (by rfl) (wants_none) (known_core 6 79 _ _ (of_decide_eq_true (by rfl)) (by rfl) (by rfl) (by rfl))
            · exact coreG_move _ _ _ _ _ _ _ (by rfl) (by rfl) (wants_core 7 80 7 _ _ _ (by rfl) (by rfl) (by rfl) (known_core 7 80 _ _ (of_decide_eq_true (by rfl)) (by rfl) (by rfl) (by rfl)) _ (by rfl)) (known_old 13 _ (of_decide_eq_true (by rfl)) (by rfl))
            · exact coreG_bin _ _ _ _ _ _ _ _ _ _ _ _ _ (by rfl) (by rfl) (wants_core 7 80 7 _ _ _ (by rfl) (by rfl) (by rfl) (known_core 7 80 _ _ (of_decide_eq_true (by rfl)) (by rfl) (by rfl) (by rfl)) _ (by rfl)) (known_core 8 81 _ _ (of_decide_eq_true (by rfl)) (by rfl) (by rfl) (by rfl)) (known_const _) ((fun ρ w hx hy => by simp only [execOp, hx, hy]; simp [go_sem]))
            · exact coreG_pick _ _ _ _ _ _ _ _ _ _ _ _ (by rfl) (by rfl) (wants_none) (known_core 7 80 _ _ (of_decide_eq_true (by rfl)) (by rfl) (by rfl) (by rfl)) (known_core 9 82 _ _ (of_decide_eq_true (by rfl)) (by rfl) (by rfl) (by rfl)) (known_const _) (by rfl)
            · exact coreG_move _ _ _ _ _ _ _ (by rfl) (by rfl) (wants_none) (known_core 10 83 _ _ (of_decide_eq_true (by rfl)) (by rfl) (by rfl) (by rfl))
            · exact coreG_move _ _ _ _ _ _ _ (by rfl) (by rfl) (wants_core 11 84 11 _ _ _ (by rfl) (by rfl) (by rfl) (known_core 11 84 _ _ (of_decide_eq_true (by rfl)) (by rfl) (by rfl) (by rfl)) _ (by rfl)) (known_old 16 _ (of_decide_eq_true (by rfl)) (by rfl))
            · exact coreG_bin _ _ _ _ _ _ _ _ _ _ _ _ _ (by rfl) (by rfl) (wants_core 11 84 11 _ _ _ (by rfl) (by rfl) (by rfl) (known_core 11 84 _ _ (of_decide_eq_true (by rfl)) (by rfl) (by rfl) (by rfl)) _ (by rfl)) (known_core 12 85 _ _ (of_decide_eq_true (by rfl)) (by rfl) (by rfl) (by rfl)) (known_const _) ((fun ρ w hx hy => by simp only [execOp, hx, hy]; simp [go_sem]))
            · exact coreG_pick _ _ _ _ _ _ _ _ _ _ _ _ (by rfl) (by rfl) (wants_none) (known_core 11 84 _ _ (of_decide_eq_true (by rfl)) (by rfl) (by rfl) (by rfl)) (known_core 13 86 _ _ (of_decide_eq_true (by rfl)) (by rfl) (by rfl) (by rfl)) (known_const _) (by rfl)
            · exact coreG_move _ _ _ _ _ _ _ (by rfl) (by rfl) (wants_none) (known_core 14 87 _ _ (of_decide_eq_true (by rfl)) (by rfl) (by rfl) (by rfl))
            · exact coreG_loadP _ _ _ _ _ _ gu _ _ _ _ (by rfl) (by rfl) (wants_core 15 88 15 _ _ _ (by rfl) (by rfl) (by rfl) (known_core 15 88 _ _ (of_decide_eq_true (by rfl)) (by rfl) (by rfl) (by rfl)) _ (by rfl)) (known_old 15 _ (of_decide_eq_true (by rfl)) (by rfl)) (fun _ hs => hs.2.1)
            · exact coreG_loadP _ _ _ _ _ _ gx _ _ _ _ (by rfl) (by rfl) (wants_core 15 88 15 _ _ _ (by rfl) (by rfl) (by rfl) (known_core 15 88 _ _ (of_decide_eq_true (by rfl)) (by rfl) (by rfl) (by rfl)) _ (by rfl)) (known_old 6 _ (of_decide_eq_true (by rfl)) (by rfl)) (fun _ hs => hs.2.2)
            · exact core_pureAs _ (by rfl)
            · exact coreG_bin _ _ _ _ _ _ _ _ _ _ _ _ _ (by rfl) (by rfl) (wants_core 15 88 15 _ _ _ (by rfl) (by rfl) (by rfl) (known_core 15 88 _ _ (of_decide_eq_true (by rfl)) (by rfl) (by rfl) (by rfl)) _ (by rfl)) (known_core 16 89 _ _ (of_decide_eq_true (by rfl)) (by rfl) (by rfl) (by rfl)) (known_core 18 90 _ _ (of_decide_eq_true (by rfl)) (by rfl) (by rfl) (by rfl)) (neq_run true _ _ _ _ _ _ _ _ _ _ _ _ _ _ _ (HU.out))
            · exact core_pureAs _ (by rfl)
            · exact coreG_bin _ _ _ _ _ _ _ _ _ _ _ _ _ (by rfl) (by rfl) (wants_core 15 88 15 _ _ _ (by rfl) (by rfl) (by rfl) (known_core 15 88 _ _ (of_decide_eq_true (by rfl)) (by rfl) (by rfl) (by rfl)) _ (by rfl)) (known_core 17 92 _ _ (of_decide_eq_true (by rfl)) (by rfl) (by rfl) (by rfl)) (known_core 20 93 _ _ (of_decide_eq_true (by rfl)) (by rfl) (by rfl) (by rfl)) (neq_run true _ _ _ _ _ _ _ _ _ _ _ _ _ _ _ (HXX.out))
            · exact coreG_bin _ _ _ _ _ _ _ _ _ _ _ _ _ (by rfl) (by rfl) (wants_core 15 88 15 _ _ _ (by rfl) (by rfl) (by rfl) (known_core 15 88 _ _ (of_decide_eq_true (by rfl)) (by rfl) (by rfl) (by rfl)) _ (by rfl)) (known_core 19 91 _ _ (of_decide_eq_true (by rfl)) (by rfl) (by rfl) (by rfl)) (known_core 21 94 _ _ (of_decide_eq_true (by rfl)) (by rfl) (by rfl) (by rfl)) ((fun ρ w hx hy => by simp only [execOp, hx, hy]; simp [go_sem]))
            · exact coreG_pick _ _ _ _ _ _ _ _ _ _ _ _ (by rfl) (by rfl) (wants_none) (known_core 15 88 _ _ (of_decide_eq_true (by rfl)) (by rfl) (by rfl) (by rfl)) (known_core 22 95 _ _ (of_decide_eq_true (by rfl)) (by rfl) (by rfl) (by rfl)) (known_const _) (by rfl)
          · refine all_cons ?_ (all_cons ?_ (all_cons ?_ (all_cons ?_ (all_cons ?_ (all_cons ?_ (all_cons ?_ (all_cons ?_ (all_cons ?_ (all_cons ?_ (all_cons ?_ (all_cons ?_ (all_cons ?_ (all_cons ?_ (all_cons ?_ (all_cons ?_ (all_cons ?_ (all_cons ?_ (all_cons ?_ (all_cons ?_ (all_cons ?_ (all_cons ?_ (all_cons ?_ (all_cons ?_ (all_nil))))))))))))))))))))))))
            · exact core_stepAs _ (by rfl)
            · exact core_stepAs _ (by rfl)
            · exact core_stepAs _ (by rfl)
            · exact core_stepAs _ (by rfl)
            · exact fun _ => coreG_call _ 19 _ _ [.const (.int .u64 1)] _ _ _ _ _ _ _ (by rfl) Try.func19 (by kernel_rfl) (by rfl) (by rfl) (wants_core 2 75 2 _ _ _ (by rfl) (by rfl) (by rfl) (known_core 2 75 _ _ (of_decide_eq_true (by rfl)) (by rfl) (by rfl) (by rfl)) _ (by rfl)) (.cons (known_const _) .nil) (HO.out)
            · exact core_stepAs _ (by rfl)
            · exact core_stepAs _ (by rfl)
            · exact core_stepAs _ (by rfl)
            · exact core_stepAs _ (by rfl)
            · exact core_stepAs _ (by rfl)
            · exact core_stepAs _ (by rfl)
            · exact core_stepAs _ (by rfl)
            · exact core_stepAs _ (by rfl)
            · exact core_stepAs _ (by rfl)
            · exact core_stepAs _ (by rfl)
            · exact core_stepAs _ (by rfl)
            · exact core_stepAs _ (by rfl)
            · exact core_stepAs _ (by rfl)
            · exact fun _ => coreG_call _ 19 _ _ [.const (.int .u64 0)] _ _ _ _ _ _ _ (by rfl) Try.func19 (by kernel_rfl) (by rfl) (by rfl) (wants_core 15 88 15 _ _ _ (by rfl) (by rfl) (by rfl) (known_core 15 88 _ _ (of_decide_eq_true (by rfl)) (by rfl) (by rfl) (by rfl)) _ (by rfl)) (.cons (known_const _) .nil) (HO0.out)
            · exact core_stepAs _ (by rfl)
            · exact fun _ => coreG_call _ 19 _ _ [.const (.int .u64 1)] _ _ _ _ _ _ _ (by rfl) Try.func19 (by kernel_rfl) (by rfl) (by rfl) (wants_core 15 88 15 _ _ _ (by rfl) (by rfl) (by rfl) (known_core 15 88 _ _ (of_decide_eq_true (by rfl)) (by rfl) (by rfl) (by rfl)) _ (by rfl)) (.cons (known_const _) .nil) (HO.out)
            · exact core_stepAs _ (by rfl)
            · exact core_stepAs _ (by rfl)
            · exact core_stepAs _ (by rfl)
          intro vs y15 hc
          have BZ := bel_tr BW.out hc.bel
          refine assign_one (i := 24) (.tmp 96) 4 _ _ _ (.bool true) (by kernel_rfl) (by rfl) (hc.at_ (of_decide_eq_true (by kernel_rfl)) (by rfl) 23 96 _ (.bool true) (by rfl) (by rfl) (by rfl)) (⟨Fy.out.on hc.bel, Fu.out.on hc.bel, Fx.out.on hc.bel⟩) ?_
          refine wpAnyH_done (by kernel_rfl) ?_ _
          refine NoPanic.normal ?_
          generalize hA : Act.put (over _ _ vs) (some 4) (.bool true) = A
          have hA0 : A.tmps.getD 4 undef = .bool true := by rw [← hA]; exact put_at _ _ _ (by rw [over_size]; exact Nat.le_of_ble_eq_true rfl)
          have hAd : A.defers = [] := by rw [← hA, put_defers, over_defers]
          clear hA hc
          go_wp2_with fail
          refine bodyPost_ret (v := .bool true) (by simp [results, Try.results6, go_sem] at hA0 ⊢; simp [hA0]) hAd ⟨rfl, BZ⟩
        · have hu0 : ¬ u = 0 := HUX.out.mpr hx1
          have hEU := HEU.out; have hEX := HEX.out
          rw [decide_eq_false hu0] at hEU
          rw [decide_eq_false hx1] at hEX
          have HU := Lib.hid hEU; have HXX := Lib.hid hEX
          clear hEU hEX hu0 hx1
          try simp only [List.append_eq, List.cons_append, List.nil_append]
          refine wp_region_noPanic ?_
          refine wp_region_held_drew (S := fun w' => At w' gy 25 #[.int .u64 (wd 1 0 : Nat), .int .u64 (wd 1 1 : Nat), .int .u64 (wd 1 2 : Nat), .int .u64 (wd 1 3 : Nat)] ∧ At w' gu 25 #[.int .u64 (wd u 0 : Nat), .int .u64 (wd u 1 : Nat), .int .u64 (wd u 2 : Nat), .int .u64 (wd u 3 : Nat)] ∧ At w' gx 25 #[.int .u64 (wd X 0 : Nat), .int .u64 (wd X 1 : Nat), .int .u64 (wd X 2 : Nat), .int .u64 (wd X 3 : Nat)]) (by kernel_rfl) (⟨Fy.out.drew, Fu.out.drew, Fx.out.drew⟩) (fun _ => ?_)
          refine wpAnyH_cores (fuel := 1) (⟨0, 73, [], Kind.val (.int .i64 0), true⟩ :: ⟨1, 74, [0], Kind.val (.bool true), true⟩ :: ⟨2, 75, [1], Kind.val (.bool true), true⟩ :: ⟨3, 76, [2], Kind.val (.agg #[.int .u64 (wd 1 0 : Nat), .int .u64 (wd 1 1 : Nat), .int .u64 (wd 1 2 : Nat), .int .u64 (wd 1 3 : Nat)]), true⟩ :: ⟨4, 77, [2, 3], Kind.val (.agg #[.int .u64 (wd 1 0 : Nat), .int .u64 (wd 1 1 : Nat), .int .u64 (wd 1 2 : Nat), .int .u64 (wd 1 3 : Nat)]), false⟩ :: ⟨5, 78, [2, 3, 4], Kind.val (.bool true), true⟩ :: ⟨6, 79, [2, 5], Kind.val (.bool true), true⟩ :: ⟨7, 80, [6], Kind.val (.bool true), true⟩ :: ⟨8, 81, [7], Kind.val (.int .i64 0), true⟩ :: ⟨9, 82, [7, 8], Kind.val (.bool true), true⟩ :: ⟨10, 83, [7, 9], Kind.val (.bool true), true⟩ :: ⟨11, 84, [10], Kind.val (.bool true), true⟩ :: ⟨12, 85, [11], Kind.val (.int .i64 0), true⟩ :: ⟨13, 86, [11, 12], Kind.val (.bool true), true⟩ :: ⟨14, 87, [11, 13], Kind.val (.bool true), true⟩ :: ⟨15, 88, [14], Kind.val (.bool true), true⟩ :: ⟨16, 89, [15], Kind.val (.agg #[.int .u64 (wd u 0 : Nat), .int .u64 (wd u 1 : Nat), .int .u64 (wd u 2 : Nat), .int .u64 (wd u 3 : Nat)]), true⟩ :: ⟨19, 92, [15, 16], Kind.val (.agg #[.int .u64 (wd X 0 : Nat), .int .u64 (wd X 1 : Nat), .int .u64 (wd X 2 : Nat), .int .u64 (wd X 3 : Nat)]), true⟩ :: ⟨17, 90, [15, 17], Kind.val (.agg #[.int .u64 (wd 0 0 : Nat), .int .u64 (wd 0 1 : Nat), .int .u64 (wd 0 2 : Nat), .int .u64 (wd 0 3 : Nat)]), false⟩ :: ⟨18, 91, [15, 16, 18], Kind.val (.bool true), true⟩ :: ⟨20, 93, [15, 19], Kind.val (.agg #[.int .u64 (wd 1 0 : Nat), .int .u64 (wd 1 1 : Nat), .int .u64 (wd 1 2 : Nat), .int .u64 (wd 1 3 : Nat)]), false⟩ :: ⟨21, 94, [15, 17, 20], Kind.val (.bool true), true⟩ :: ⟨22, 95, [15, 19, 21], Kind.val (.bool true), true⟩ :: ⟨23, 96, [15, 22], Kind.val (.bool true), true⟩ :: []) _ _ W14 _ ?_ ?_ ?_ ?_ ?_ ?_ ?_ ?_ ?_ ?_ ?_
          · rfl
          · kernel_rfl
          · exact of_decide_eq_true (by kernel_rfl)
          · exact all_cons ⟨_, by rfl, by rfl⟩ (all_cons ⟨_, by rfl, by rfl⟩ (all_cons ⟨_, by rfl, by rfl⟩ (all_cons ⟨_, by rfl, by rfl⟩ (all_cons ⟨_, by rfl, by rfl⟩ (all_cons ⟨_, by rfl, by rfl⟩ (all_cons ⟨_, by rfl, by rfl⟩ (all_cons ⟨_, by rfl, by rfl⟩ (all_cons ⟨_, by rfl, by rfl⟩ (all_cons ⟨_, by rfl, by rfl⟩ (all_cons ⟨_, by rfl, by rfl⟩ (all_cons ⟨_, by rfl, by rfl⟩ (all_cons ⟨_, by rfl, by rfl⟩ (all_cons ⟨_, by rfl, by rfl⟩ (all_cons ⟨_, by rfl, by rfl⟩ (all_cons ⟨_, by rfl, by rfl⟩ (all_cons ⟨_, by rfl, by rfl⟩ (all_cons ⟨_, by rfl, by rfl⟩ (all_cons ⟨_, by rfl, by rfl⟩ (all_cons ⟨_, by rfl, by rfl⟩ (all_cons ⟨_, by rfl, by rfl⟩ (all_cons ⟨_, by rfl, by rfl⟩ (all_cons ⟨_, by rfl, by rfl⟩ (all_cons ⟨_, by rfl, by rfl⟩ (all_nil))))))))))))))))))))))))
          · exact fun _ hb => ⟨Fy.out.on hb, Fu.out.on hb, Fx.out.on hb⟩
          · exact (Below.refl _ _).drew
          · kernel_rfl
          · exact fun _ _ _ _ _ h => h
          · refine all_cons ?_ (all_cons ?_ (all_cons ?_ (all_cons ?_ (all_cons ?_ (all_cons ?_ (all_cons ?_ (all_cons ?_ (all_cons ?_ (all_cons ?_ (all_cons ?_ (all_cons ?_ (all_cons ?_ (all_cons ?_ (all_cons ?_ (all_cons ?_ (all_cons ?_ (all_cons ?_ (all_cons ?_ (all_cons ?_ (all_cons ?_ (all_cons ?_ (all_cons ?_ (all_cons ?_ (all_nil))))))))))))))))))))))))
            · exact coreG_move _ _ _ _ _ _ _ (by rfl) (by rfl) (wants_none) (known_old 11 _ (of_decide_eq_true (by rfl)) (by rfl))
            · exact coreG_bin _ _ _ _ _ _ _ _ _ _ _ _ _ (by rfl) (by rfl) (wants_none) (known_core 0 73 _ _ (of_decide_eq_true (by rfl)) (by rfl) (by rfl) (by rfl)) (known_const _) ((fun ρ w hx hy => by simp only [execOp, hx, hy]; simp [go_sem]))
            · exact coreG_move _ _ _ _ _ _ _ (by rfl) (by rfl) (wants_none) (known_core 1 74 _ _ (of_decide_eq_true (by rfl)) (by rfl) (by rfl) (by rfl))
            · exact coreG_loadP _ _ _ _ _ _ gy _ _ _ _ (by rfl) (by rfl) (wants_core 2 75 2 _ _ _ (by rfl) (by rfl) (by rfl) (known_core 2 75 _ _ (of_decide_eq_true (by rfl)) (by rfl) (by rfl) (by rfl)) _ (by rfl)) (known_old 10 _ (of_decide_eq_true (by rfl)) (by rfl)) (fun _ hs => hs.1)
            · exact core_pureAs _ (by rfl)
            · exact coreG_bin _ _ _ _ _ _ _ _ _ _ _ _ _ (by rfl) (by rfl) (wants_core 2 75 2 _ _ _ (by rfl) (by rfl) (by rfl) (known_core 2 75 _ _ (of_decide_eq_true (by rfl)) (by rfl) (by rfl) (by rfl)) _ (by rfl)) (known_core 3 76 _ _ (of_decide_eq_true (by rfl)) (by rfl) (by rfl) (by rfl)) (known_core 4 77 _ _ (of_decide_eq_true (by rfl)) (by rfl) (by rfl) (by rfl)) (eql_run true _ _ _ _ _ _ _ _ _ _ _ _ _ _ _ (HEE.out))
            · exact coreG_pick _ _ _ _ _ _ _ _ _ _ _ _ (by rfl) (by rfl) (wants_none) (known_core 2 75 _ _ (of_decide_eq_true (by rfl)) (by rfl) (by rfl) (by rfl)) (known_core 5 78 _ _ (of_decide_eq_true (by rfl)) (by rfl) (by rfl) (by rfl)) (known_const _) (by rfl)
            · exact coreG_move _ _ _ _ _ _ _ (by rfl) (by rfl) (wants_none) (known_core 6 79 _ _ (of_decide_eq_true (by rfl)) (by rfl) (by rfl) (by rfl))
            · exact coreG_move _ _ _ _ _ _ _ (by rfl) (by rfl) (wants_core 7 80 7 _ _ _ (by rfl) (by rfl) (by rfl) (known_core 7 80 _ _ (of_decide_eq_true (by rfl)) (by rfl) (by rfl) (by rfl)) _ (by rfl)) (known_old 13 _ (of_decide_eq_true (by rfl)) (by rfl))
            · exact coreG_bin _ _ _ _ _ _ _ _ _ _ _ _ _ (by rfl) (by rfl) (wants_core 7 80 7 _ _ _ (by rfl) (by rfl) (by rfl) (known_core 7 80 _ _ (of_decide_eq_true (by rfl)) (by rfl) (by rfl) (by rfl)) _ (by rfl)) (known_core 8 81 _ _ (of_decide_eq_true (by rfl)) (by rfl) (by rfl) (by rfl)) (known_const _) ((fun ρ w hx hy => by simp only [execOp, hx, hy]; simp [go_sem]))
            · exact coreG_pick _ _ _ _ _ _ _ _ _ _ _ _ (by rfl) (by rfl) (wants_none) (known_core 7 80 _ _ (of_decide_eq_true (by rfl)) (by rfl) (by rfl) (by rfl)) (known_core 9 82 _ _ (of_decide_eq_true (by rfl)) (by rfl) (by rfl) (by rfl)) (known_const _) (by rfl)
            · exact coreG_move _ _ _ _ _ _ _ (by rfl) (by rfl) (wants_none) (known_core 10 83 _ _ (of_decide_eq_true (by rfl)) (by rfl) (by rfl) (by rfl))
            · exact coreG_move _ _ _ _ _ _ _ (by rfl) (by rfl) (wants_core 11 84 11 _ _ _ (by rfl) (by rfl) (by rfl) (known_core 11 84 _ _ (of_decide_eq_true (by rfl)) (by rfl) (by rfl) (by rfl)) _ (by rfl)) (known_old 16 _ (of_decide_eq_true (by rfl)) (by rfl))
            · exact coreG_bin _ _ _ _ _ _ _ _ _ _ _ _ _ (by rfl) (by rfl) (wants_core 11 84 11 _ _ _ (by rfl) (by rfl) (by rfl) (known_core 11 84 _ _ (of_decide_eq_true (by rfl)) (by rfl) (by rfl) (by rfl)) _ (by rfl)) (known_core 12 85 _ _ (of_decide_eq_true (by rfl)) (by rfl) (by rfl) (by rfl)) (known_const _) ((fun ρ w hx hy => by simp only [execOp, hx, hy]; simp [go_sem]))
            · exact coreG_pick _ _ _ _ _ _ _ _ _ _ _ _ (by rfl) (by rfl) (wants_none) (known_core 11 84 _ _ (of_decide_eq_true (by rfl)) (by rfl) (by rfl) (by rfl)) (known_core 13 86 _ _ (of_decide_eq_true (by rfl)) (by rfl) (by rfl) (by rfl)) (known_const _) (by rfl)
            · exact coreG_move _ _ _ _ _ _ _ (by rfl) (by rfl) (wants_none) (known_core 14 87 _ _ (of_decide_eq_true (by rfl)) (by rfl) (by rfl) (by rfl))
            · exact coreG_loadP _ _ _ _ _ _ gu _ _ _ _ (by rfl) (by rfl) (wants_core 15 88 15 _ _ _ (by rfl) (by rfl) (by rfl) (known_core 15 88 _ _ (of_decide_eq_true (by rfl)) (by rfl) (by rfl) (by rfl)) _ (by rfl)) (known_old 15 _ (of_decide_eq_true (by rfl)) (by rfl)) (fun _ hs => hs.2.1)
            · exact coreG_loadP _ _ _ _ _ _ gx _ _ _ _ (by rfl) (by rfl) (wants_core 15 88 15 _ _ _ (by rfl) (by rfl) (by rfl) (known_core 15 88 _ _ (of_decide_eq_true (by rfl)) (by rfl) (by rfl) (by rfl)) _ (by rfl)) (known_old 6 _ (of_decide_eq_true (by rfl)) (by rfl)) (fun _ hs => hs.2.2)
            · exact core_pureAs _ (by rfl)
            · exact coreG_bin _ _ _ _ _ _ _ _ _ _ _ _ _ (by rfl) (by rfl) (wants_core 15 88 15 _ _ _ (by rfl) (by rfl) (by rfl) (known_core 15 88 _ _ (of_decide_eq_true (by rfl)) (by rfl) (by rfl) (by rfl)) _ (by rfl)) (known_core 16 89 _ _ (of_decide_eq_true (by rfl)) (by rfl) (by rfl) (by rfl)) (known_core 18 90 _ _ (of_decide_eq_true (by rfl)) (by rfl) (by rfl) (by rfl)) (neq_run false _ _ _ _ _ _ _ _ _ _ _ _ _ _ _ (HU.out))
            · exact core_pureAs _ (by rfl)
            · exact coreG_bin _ _ _ _ _ _ _ _ _ _ _ _ _ (by rfl) (by rfl) (wants_core 15 88 15 _ _ _ (by rfl) (by rfl) (by rfl) (known_core 15 88 _ _ (of_decide_eq_true (by rfl)) (by rfl) (by rfl) (by rfl)) _ (by rfl)) (known_core 17 92 _ _ (of_decide_eq_true (by rfl)) (by rfl) (by rfl) (by rfl)) (known_core 20 93 _ _ (of_decide_eq_true (by rfl)) (by rfl) (by rfl) (by rfl)) (neq_run false _ _ _ _ _ _ _ _ _ _ _ _ _ _ _ (HXX.out))
            · exact coreG_bin _ _ _ _ _ _ _ _ _ _ _ _ _ (by rfl) (by rfl) (wants_core 15 88 15 _ _ _ (by rfl) (by rfl) (by rfl) (known_core 15 88 _ _ (of_decide_eq_true (by rfl)) (by rfl) (by rfl) (by rfl)) _ (by rfl)) (known_core 19 91 _ _ (of_decide_eq_true (by rfl)) (by rfl) (by rfl) (by rfl)) (known_core 21 94 _ _ (of_decide_eq_true (by rfl)) (by rfl) (by rfl) (by rfl)) ((fun ρ w hx hy => by simp only [execOp, hx, hy]; simp [go_sem]))
            · exact coreG_pick _ _ _ _ _ _ _ _ _ _ _ _ (by rfl) (by rfl) (wants_none) (known_core 15 88 _ _ (of_decide_eq_true (by rfl)) (by rfl) (by rfl) (by rfl)) (known_core 22 95 _ _ (of_decide_eq_true (by rfl)) (by rfl) (by rfl) (by rfl)) (known_const _) (by rfl)
          · refine all_cons ?_ (all_cons ?_ (all_cons ?_ (all_cons ?_ (all_cons ?_ (all_cons ?_ (all_cons ?_ (all_cons ?_ (all_cons ?_ (all_cons ?_ (all_cons ?_ (all_cons ?_ (all_cons ?_ (all_cons ?_ (all_cons ?_ (all_cons ?_ (all_cons ?_ (all_cons ?_ (all_cons ?_ (all_cons ?_ (all_cons ?_ (all_cons ?_ (all_cons ?_ (all_cons ?_ (all_nil))))))))))))))))))))))))
            · exact core_stepAs _ (by rfl)
            · exact core_stepAs _ (by rfl)
            · exact core_stepAs _ (by rfl)
            · exact core_stepAs _ (by rfl)
            · exact fun _ => coreG_call _ 19 _ _ [.const (.int .u64 1)] _ _ _ _ _ _ _ (by rfl) Try.func19 (by kernel_rfl) (by rfl) (by rfl) (wants_core 2 75 2 _ _ _ (by rfl) (by rfl) (by rfl) (known_core 2 75 _ _ (of_decide_eq_true (by rfl)) (by rfl) (by rfl) (by rfl)) _ (by rfl)) (.cons (known_const _) .nil) (HO.out)
            · exact core_stepAs _ (by rfl)
            · exact core_stepAs _ (by rfl)
            · exact core_stepAs _ (by rfl)
            · exact core_stepAs _ (by rfl)
            · exact core_stepAs _ (by rfl)
            · exact core_stepAs _ (by rfl)
            · exact core_stepAs _ (by rfl)
            · exact core_stepAs _ (by rfl)
            · exact core_stepAs _ (by rfl)
            · exact core_stepAs _ (by rfl)
            · exact core_stepAs _ (by rfl)
            · exact core_stepAs _ (by rfl)
            · exact core_stepAs _ (by rfl)
            · exact fun _ => coreG_call _ 19 _ _ [.const (.int .u64 0)] _ _ _ _ _ _ _ (by rfl) Try.func19 (by kernel_rfl) (by rfl) (by rfl) (wants_core 15 88 15 _ _ _ (by rfl) (by rfl) (by rfl) (known_core 15 88 _ _ (of_decide_eq_true (by rfl)) (by rfl) (by rfl) (by rfl)) _ (by rfl)) (.cons (known_const _) .nil) (HO0.out)
            · exact core_stepAs _ (by rfl)
            · exact fun _ => coreG_call _ 19 _ _ [.const (.int .u64 1)] _ _ _ _ _ _ _ (by rfl) Try.func19 (by kernel_rfl) (by rfl) (by rfl) (wants_core 15 88 15 _ _ _ (by rfl) (by rfl) (by rfl) (known_core 15 88 _ _ (of_decide_eq_true (by rfl)) (by rfl) (by rfl) (by rfl)) _ (by rfl)) (.cons (known_const _) .nil) (HO.out)
            · exact core_stepAs _ (by rfl)
            · exact core_stepAs _ (by rfl)
            · exact core_stepAs _ (by rfl)
          intro vs y15 hc
          have BZ := bel_tr BW.out hc.bel
          refine assign_one (i := 24) (.tmp 96) 4 _ _ _ (.bool true) (by kernel_rfl) (by rfl) (hc.at_ (of_decide_eq_true (by kernel_rfl)) (by rfl) 23 96 _ (.bool true) (by rfl) (by rfl) (by rfl)) (⟨Fy.out.on hc.bel, Fu.out.on hc.bel, Fx.out.on hc.bel⟩) ?_
          refine wpAnyH_done (by kernel_rfl) ?_ _
          refine NoPanic.normal ?_
          generalize hA : Act.put (over _ _ vs) (some 4) (.bool true) = A
          have hA0 : A.tmps.getD 4 undef = .bool true := by rw [← hA]; exact put_at _ _ _ (by rw [over_size]; exact Nat.le_of_ble_eq_true rfl)
          have hAd : A.defers = [] := by rw [← hA, put_defers, over_defers]
          clear hA hc
          go_wp2_with fail
          refine bodyPost_ret (v := .bool true) (by simp [results, Try.results6, go_sem] at hA0 ⊢; simp [hA0]) hAd ⟨rfl, BZ⟩
end Go.Proofs.Ytnphoelbbgmehaa
