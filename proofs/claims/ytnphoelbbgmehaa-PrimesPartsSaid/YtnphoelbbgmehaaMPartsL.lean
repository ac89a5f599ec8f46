/-
  The walk of PrimesParts: it answers true, and nothing that was there is changed.
-/
import Derived.Deep.Cut
import Derived.Test.YtnphoelbbgmehaaMCells
import Derived.Test.YtnphoelbbgmehaaMLeft
import Derived.Test.YtnphoelbbgmehaaMSmall
namespace Go.Proofs.Ytnphoelbbgmehaa
set_option maxRecDepth 100000
open Go.RowKit
set_option linter.unusedSimpArgs false
set_option linter.unusedVariables false
attribute [local go_sem ↓] Go.wp_at_zero Go.wp_at_succ

theorem bits_small {N : Nat} (hN : N < 2 ^ 256) : ((Go.bitLen N : Nat) : Int) ≤ 32 ↔ N < 4294967296 := by
  have h := (Go.bitLen_spec N).1
  constructor
  · intro h2
    have h3 : 2 ^ Go.bitLen N ≤ 2 ^ 32 := Nat.pow_le_pow_right (by decide) (by omega)
    have h4 : (2 : Nat) ^ 32 = 4294967296 := by decide
    omega
  · intro h2
    have : Go.bitLen N ≤ 32 := Nat.le_of_not_lt fun hc => by
      have := (Go.bitLen_spec N).2
      have h5 : N ≠ 0 := fun h0 => by subst h0; simp [Go.bitLen] at hc
      have h6 : 2 ^ (Go.bitLen N - 1) ≤ N := by
        first
          | exact this (by omega)
          | exact this h5
          | (rcases this with h | h <;> omega)
      have h7 : (2 : Nat) ^ 32 ≤ 2 ^ (Go.bitLen N - 1) := Nat.pow_le_pow_right (by decide) (by omega)
      have h4 : (2 : Nat) ^ 32 = 4294967296 := by decide
      omega
    omega
/-- what follows of a reason that holds -/
theorem holds_small {N Y : Nat} {ps : List Pr.Rsn} (h : (Pr.Rsn.mk N Y ps).holds = true) (hs : N < 4294967296) : Y = 0 ∧ ps = [] := ((Pr.ok_small hs).mp (Pr.holds_ok h).1).2
theorem holds_great {N Y : Nat} {ps : List Pr.Rsn} (h : (Pr.Rsn.mk N Y ps).holds = true) (hs : ¬ N < 4294967296) : 1 < Y ∧ ps ≠ [] ∧ (∀ i (hi : i < ps.length), (ps[i]).n ∣ N - 1) ∧ ∀ i (hi : i + 1 < ps.length), (ps[i]).n < (ps[i + 1]).n := by
  have h1 := ((Pr.ok_great hs).mp (Pr.holds_ok h).1).2
  refine ⟨(Pr.great_w h1).1, fun e => ?_, fun i hi => ?_, fun i hi => ?_⟩
  · subst e
    have := Pr.great_nil (n := N) (w := Y) hs
    rw [List.map_nil] at h1
    rw [h1] at this; cases this
  · exact Nat.dvd_of_mod_eq_zero (Pr.great_dvd h1 _ (List.mem_map.mpr ⟨_, List.getElem_mem hi, rfl⟩))
  · have := Pr.rises_at (Pr.great_rises h1) i (by simpa using hi)
    simpa [show i < ps.length by omega, hi] using this
theorem bare_holds {N Y : Nat} {ps : List Pr.Rsn} (h : (Pr.Rsn.mk N Y ps).holds = true) : (Pr.Rsn.mk N Y []).holds = decide (N < 4294967296) := by
  rcases Decidable.em (N < 4294967296) with hs | hs
  · have := holds_small h hs
    rw [this.2] at h
    rw [h, decide_eq_true hs]
  · rw [decide_eq_false hs]
    rcases hb : (Pr.Rsn.mk N Y []).holds with _ | _
    · rfl
    · exact absurd rfl (holds_great hb hs).2.1

set_option maxRecDepth 100000 in
set_option maxHeartbeats 8000000 in
theorem parts_walk (N Y : Nat) (a : Option Addr) (cap : Nat) (ps : List Pr.Rsn) (hN : N < 2 ^ 256) (hY : Y < 2 ^ 256) (w : World) (hs : Sl w a cap ps) :
    Calls Try.prog 7 #[rv N Y (.slice a ps.length cap)] w fun e w' => e = .returned (.bool true) ∧ Below w.heap.size w w' := by
  have HSZ := Lib.hid (fun (u : World) (hb : Below w.heap.size w u) => size_any w _ (.mk N Y ps) (Nat.le_refl _) a cap u hN hY hs hb)
  have HCK := Lib.hid (fun (u : World) (hb : Below w.heap.size w u) => check_any (.mk N Y ps) a cap hN hY u (hs.on hb))
  have HBA := Lib.hid (fun (u : World) => check_any (.mk N Y []) none 0 hN hY u ⟨Nat.le_refl _, Nat.zero_le _, fun _ => rfl, Or.inl rfl⟩)
  have HCP := Lib.hid (fun (p : Pr.Rsn) (a2 : Option Addr) (cap2 : Nat) (hn : p.n < 2 ^ 256) (hy : p.w < 2 ^ 256) (h : Sl w a2 cap2 p.ps) (u : World) (hb : Below w.heap.size w u) => check_any p a2 cap2 hn hy u (h.on hb))
  simp only [Pr.Rsn.n, Pr.Rsn.w, Pr.Rsn.ps, List.length_nil] at HSZ HCK HBA
  obtain ⟨l, hl⟩ : ∃ l, ps.length = l := ⟨_, rfl⟩
  have hlc : l ≤ 9223372036854775807 := by rw [← hl]; exact Nat.le_trans hs.1 hs.2.1
  rw [hl] at HSZ HCK ⊢
  generalize szR (.mk N Y ps) = z at *
  obtain ⟨V, hV⟩ : ∃ V, V = (Pr.Rsn.mk N Y ps).holds := ⟨_, rfl⟩
  rw [← hV] at HCK
  have HV := Lib.hid hV
  have HO := Lib.hid (fun w => ofP_any 1 (by decide) w)
  have HO0 := Lib.hid (fun w => ofP_any 0 (by decide) w)
  have HS := Lib.hid hs; have HN := Lib.hid hN; have HY := Lib.hid hY; have HL := Lib.hid hl; have HLC := Lib.hid hlc
  clear hN hY hs hl hV hlc
  go_enter Try.func7, Try.ntmps7
  have BW := Lib.hid (Below.refl w.heap.size w)
  go_upto_region 1 with fail
  generalize hW1 : (w.alloc (.cells #[.int .u64 (wd N 0 : Nat), .int .u64 (wd N 1 : Nat), .int .u64 (wd N 2 : Nat), .int .u64 (wd N 3 : Nat), .int .u64 (wd Y 0 : Nat), .int .u64 (wd Y 1 : Nat), .int .u64 (wd Y 2 : Nat), .int .u64 (wd Y 3 : Nat), .slice a l cap] 28)) = W1 at *
  have Nr : At W1 (w.heap.size) _ _ := at_of hW1 (At.at_ _ _ _ _ (by simp))
  have NB := gr_of hW1 (gr_alloc BW.out _)
  clear hW1 BW 
  obtain ⟨gr, hg0⟩ : ∃ g, g = w.heap.size := ⟨_, rfl⟩
  rw [← hg0] at Nr ⊢
  have Er : w.heap.size ≤ gr := by omega
  clear hg0
  have Fr := Lib.hid Nr
  have BW := Lib.hid NB
  clear NB Nr
  go_wp2_with fail
  refine (alive7_any _).mono ?_
  rintro e v2 ⟨rfl, z2⟩
  have Nr := Lib.hid (Fr.out.on z2)
  have NB := Lib.hid (bel_tr BW.out z2)
  clear BW z2 Fr
  have Fr := Nr
  have BW := NB
  clear NB Nr
  have Lr := Fr.out.lt
  have cr0 : v2.cell? ⟨gr, 0, none⟩ = some (.int .u64 (wd N 0 : Nat)) := Fr.out.cell 0
  have cr1 : v2.cell? ⟨gr, 1, none⟩ = some (.int .u64 (wd N 1 : Nat)) := Fr.out.cell 1
  have cr2 : v2.cell? ⟨gr, 2, none⟩ = some (.int .u64 (wd N 2 : Nat)) := Fr.out.cell 2
  have cr3 : v2.cell? ⟨gr, 3, none⟩ = some (.int .u64 (wd N 3 : Nat)) := Fr.out.cell 3
  have cr4 : v2.cell? ⟨gr, 4, none⟩ = some (.int .u64 (wd Y 0 : Nat)) := Fr.out.cell 4
  have cr5 : v2.cell? ⟨gr, 5, none⟩ = some (.int .u64 (wd Y 1 : Nat)) := Fr.out.cell 5
  have cr6 : v2.cell? ⟨gr, 6, none⟩ = some (.int .u64 (wd Y 2 : Nat)) := Fr.out.cell 6
  have cr7 : v2.cell? ⟨gr, 7, none⟩ = some (.int .u64 (wd Y 3 : Nat)) := Fr.out.cell 7
  have cr8 : v2.cell? ⟨gr, 8, none⟩ = some (.slice a l cap) := Fr.out.cell 8
  go_wp2_with fail
  clear Lr cr0 cr1 cr2 cr3 cr4 cr5 cr6 cr7 cr8
  refine (HSZ.out _ BW.out).mono ?_
  rintro e v3 ⟨rfl, z3⟩
  have Nr := Lib.hid (Fr.out.on z3)
  have NB := Lib.hid (bel_tr BW.out z3)
  clear BW z3 Fr
  have Fr := Nr
  have BW := NB
  clear NB Nr
  by_cases hz : 20000 < z
  · go_wp2_with fail
    refine (alive7_any _).mono ?_
    rintro e v4 ⟨rfl, z4⟩
    have Nr := Lib.hid (Fr.out.on z4)
    have NB := Lib.hid (bel_tr BW.out z4)
    clear BW z4 Fr
    have Fr := Nr
    have BW := NB
    clear NB Nr
    go_wp2
    go_ret
    exact ⟨rfl, BW.out⟩
  · have Lr := Fr.out.lt
    have cr0 : v3.cell? ⟨gr, 0, none⟩ = some (.int .u64 (wd N 0 : Nat)) := Fr.out.cell 0
    have cr1 : v3.cell? ⟨gr, 1, none⟩ = some (.int .u64 (wd N 1 : Nat)) := Fr.out.cell 1
    have cr2 : v3.cell? ⟨gr, 2, none⟩ = some (.int .u64 (wd N 2 : Nat)) := Fr.out.cell 2
    have cr3 : v3.cell? ⟨gr, 3, none⟩ = some (.int .u64 (wd N 3 : Nat)) := Fr.out.cell 3
    have cr4 : v3.cell? ⟨gr, 4, none⟩ = some (.int .u64 (wd Y 0 : Nat)) := Fr.out.cell 4
    have cr5 : v3.cell? ⟨gr, 5, none⟩ = some (.int .u64 (wd Y 1 : Nat)) := Fr.out.cell 5
    have cr6 : v3.cell? ⟨gr, 6, none⟩ = some (.int .u64 (wd Y 2 : Nat)) := Fr.out.cell 6
    have cr7 : v3.cell? ⟨gr, 7, none⟩ = some (.int .u64 (wd Y 3 : Nat)) := Fr.out.cell 7
    have cr8 : v3.cell? ⟨gr, 8, none⟩ = some (.slice a l cap) := Fr.out.cell 8
    go_wp2_with fail
    clear Lr cr0 cr1 cr2 cr3 cr4 cr5 cr6 cr7 cr8
    refine (HCK.out _ BW.out).mono ?_
    rintro e v4 ⟨rfl, z4⟩
    have Nr := Lib.hid (Fr.out.on z4)
    have NB := Lib.hid (bel_tr BW.out z4)
    clear BW z4 Fr
    have Fr := Nr
    have BW := NB
    clear NB Nr
    cases V
    · go_wp2_with fail
      refine (alive7_any _).mono ?_
      rintro e v5 ⟨rfl, z5⟩
      have Nr := Lib.hid (Fr.out.on z5)
      have NB := Lib.hid (bel_tr BW.out z5)
      clear BW z5 Fr
      have Fr := Nr
      have BW := NB
      clear NB Nr
      go_wp2
      go_ret
      exact ⟨rfl, BW.out⟩
    · have hh := HV.out.symm
      have HH := Lib.hid hh
      have HPR := Lib.hid (Pr.holds_pri (r := .mk N Y ps) hh)
      obtain ⟨M, c, hM, hc, he, CS⟩ := sub_ex N 1 HN.out (by decide)
      have hN2 := HPR.out.1
      simp only [Pr.Rsn.n] at hN2
      have hc0 : c = 0 := by omega
      have hSN : M = N - 1 := by omega
      subst hc0
      have HCS := Lib.hid CS; have HMN := Lib.hid hSN; have HM := Lib.hid hM
      have hl32 : l < 32 := by have := Pr.holds_len hh; rw [← HL.out]; exact this
      have HL32 := Lib.hid hl32
      clear HCK HSZ HV hN2 hc he CS hSN hh hM hl32
      go_upto_region 3 with fail
      clear hz
      try simp only [List.append_eq, List.cons_append, List.nil_append]
      refine wp_region_noPanic ?_
      refine wp_region_held_drew (S := fun w' => At w' gr 28 #[.int .u64 (wd N 0 : Nat), .int .u64 (wd N 1 : Nat), .int .u64 (wd N 2 : Nat), .int .u64 (wd N 3 : Nat), .int .u64 (wd Y 0 : Nat), .int .u64 (wd Y 1 : Nat), .int .u64 (wd Y 2 : Nat), .int .u64 (wd Y 3 : Nat), .slice a l cap]) (by kernel_rfl) (Fr.out.drew) (fun _ => ?_)
      refine wpAnyH_cores (fuel := 2) (⟨0, 25, [], Kind.val (.pointer (some ⟨gr, 0, none⟩)), true⟩ :: ⟨1, 26, [0], Kind.val (.agg #[.int .u64 (wd N 0 : Nat), .int .u64 (wd N 1 : Nat), .int .u64 (wd N 2 : Nat), .int .u64 (wd N 3 : Nat)]), true⟩ :: ⟨2, 27, [], Kind.val (.agg #[.int .u64 (wd 1 0 : Nat), .int .u64 (wd 1 1 : Nat), .int .u64 (wd 1 2 : Nat), .int .u64 (wd 1 3 : Nat)]), false⟩ :: ⟨3, 28, [1, 2], Kind.val (.tuple #[.agg #[.int .u64 (wd M 0 : Nat), .int .u64 (wd M 1 : Nat), .int .u64 (wd M 2 : Nat), .int .u64 (wd M 3 : Nat)], .int .u64 0]), false⟩ :: ⟨4, 24, [3], Kind.val (.tuple #[.agg #[.int .u64 (wd M 0 : Nat), .int .u64 (wd M 1 : Nat), .int .u64 (wd M 2 : Nat), .int .u64 (wd M 3 : Nat)], .int .u64 0]), true⟩ :: ⟨5, 29, [4], Kind.val (.agg #[.int .u64 (wd M 0 : Nat), .int .u64 (wd M 1 : Nat), .int .u64 (wd M 2 : Nat), .int .u64 (wd M 3 : Nat)]), true⟩ :: ⟨6, 30, [4], Kind.val (.int .u64 0), true⟩ :: ⟨7, 3, [], Kind.cell v4.heap.size 25 #[.int .u64 0, .int .u64 0, .int .u64 0, .int .u64 0], false⟩ :: []) _ _ v4 _ ?_ ?_ ?_ ?_ ?_ ?_ ?_ ?_ ?_ ?_ ?_
      · rfl
      · kernel_rfl
      · exact of_decide_eq_true rfl
      · exact all_cons ⟨_, rfl, rfl⟩ (all_cons ⟨_, rfl, rfl⟩ (all_cons ⟨_, rfl, rfl⟩ (all_cons ⟨_, rfl, rfl⟩ (all_cons ⟨_, rfl, rfl⟩ (all_cons ⟨_, rfl, rfl⟩ (all_cons ⟨_, rfl, rfl⟩ (all_cons ⟨_, rfl, rfl⟩ (all_nil))))))))
      · exact fun _ hb => Fr.out.on hb
      · exact (Below.refl _ _).drew
      · kernel_rfl
      · exact fun _ _ _ _ _ h => h
      · refine all_cons ?_ (all_cons ?_ (all_cons ?_ (all_cons ?_ (all_cons ?_ (all_cons ?_ (all_cons ?_ (all_cons ?_ (all_nil))))))))
        · exact core_held _ _ _ _ _ _ _ _ (by rfl) (by rfl) (known_old 1 _ (of_decide_eq_true (by rfl)) (by rfl)) (fun ρ w hx _ => fieldR0 _ _ _ _ _ _ ρ w gr hx)
        · exact core_held _ _ _ _ _ _ _ _ (by rfl) (by rfl) (known_core 0 25 _ _ (of_decide_eq_true (by rfl)) (by rfl) (by rfl) (by rfl)) (fun ρ w hx hs => loadR0 _ _ _ _ _ _ ρ w gr _ _ _ _ _ _ _ _ _ hx hs)
        · exact core_pureAs _ (by rfl)
        · exact core_pureAs _ (by rfl)
        · exact core_move _ _ _ _ _ _ (by rfl) (by rfl) (known_core 3 28 _ _ (of_decide_eq_true (by rfl)) (by rfl) (by rfl) (by rfl))
        · exact core_extract _ _ 0 _ _ _ _ _ (by rfl) (by rfl) (known_core 4 24 _ _ (of_decide_eq_true (by rfl)) (by rfl) (by rfl) (by rfl)) (by rfl)
        · exact core_extract _ _ 1 _ _ _ _ _ (by rfl) (by rfl) (known_core 4 24 _ _ (of_decide_eq_true (by rfl)) (by rfl) (by rfl) (by rfl)) (by rfl)
        · exact core_pureAs _ (by rfl)
      · refine all_cons ?_ (all_cons ?_ (all_cons ?_ (all_cons ?_ (all_cons ?_ (all_cons ?_ (all_cons ?_ (all_cons ?_ (all_nil))))))))
        · exact core_stepAs _ (by rfl)
        · exact core_stepAs _ (by rfl)
        · exact fun _ => core_call _ 19 _ _ [.const (.int .u64 1)] _ _ _ _ _ _ (by rfl) Try.func19 (by kernel_rfl) (by rfl) (by rfl) (.cons (known_const _) .nil) (HO.out)
        · exact fun _ => core_call _ 23 _ _ [.tmp 26, .tmp 27] _ _ _ _ _ _ (by rfl) Try.func23 (by kernel_rfl) (by rfl) (by rfl) (.cons (known_core 1 26 _ _ (of_decide_eq_true (by rfl)) (by rfl) (by rfl) (by rfl)) (.cons (known_core 2 27 _ _ (of_decide_eq_true (by rfl)) (by rfl) (by rfl) (by rfl)) .nil)) (HCS.out)
        · exact core_stepAs _ (by rfl)
        · exact core_stepAs _ (by rfl)
        · exact core_stepAs _ (by rfl)
        · exact fun _ => core_alloc _ _ _ _ _ (by rfl) (by rfl) (Nat.le_refl _)
      intro vs y5 hc
      obtain ⟨vv0, vv1, vv2, vv3, vv4, vv5, vv6, vv7, rfl⟩ := len8 vs hc.lv
      have qq0 : vv0 = .pointer (some ⟨gr, 0, none⟩) := by obtain ⟨xx, hx, hy⟩ := hc.ok 0 _ rfl rfl; exact (Option.some.inj (show some vv0 = some xx from hx)).trans hy
      have qq1 : vv1 = .agg #[.int .u64 (wd N 0 : Nat), .int .u64 (wd N 1 : Nat), .int .u64 (wd N 2 : Nat), .int .u64 (wd N 3 : Nat)] := by obtain ⟨xx, hx, hy⟩ := hc.ok 1 _ rfl rfl; exact (Option.some.inj (show some vv1 = some xx from hx)).trans hy
      have qq2 : vv2 = .agg #[.int .u64 (wd 1 0 : Nat), .int .u64 (wd 1 1 : Nat), .int .u64 (wd 1 2 : Nat), .int .u64 (wd 1 3 : Nat)] := by obtain ⟨xx, hx, hy⟩ := hc.ok 2 _ rfl rfl; exact (Option.some.inj (show some vv2 = some xx from hx)).trans hy
      have qq3 : vv3 = .tuple #[.agg #[.int .u64 (wd M 0 : Nat), .int .u64 (wd M 1 : Nat), .int .u64 (wd M 2 : Nat), .int .u64 (wd M 3 : Nat)], .int .u64 0] := by obtain ⟨xx, hx, hy⟩ := hc.ok 3 _ rfl rfl; exact (Option.some.inj (show some vv3 = some xx from hx)).trans hy
      have qq4 : vv4 = .tuple #[.agg #[.int .u64 (wd M 0 : Nat), .int .u64 (wd M 1 : Nat), .int .u64 (wd M 2 : Nat), .int .u64 (wd M 3 : Nat)], .int .u64 0] := by obtain ⟨xx, hx, hy⟩ := hc.ok 4 _ rfl rfl; exact (Option.some.inj (show some vv4 = some xx from hx)).trans hy
      have qq5 : vv5 = .agg #[.int .u64 (wd M 0 : Nat), .int .u64 (wd M 1 : Nat), .int .u64 (wd M 2 : Nat), .int .u64 (wd M 3 : Nat)] := by obtain ⟨xx, hx, hy⟩ := hc.ok 5 _ rfl rfl; exact (Option.some.inj (show some vv5 = some xx from hx)).trans hy
      have qq6 : vv6 = .int .u64 0 := by obtain ⟨xx, hx, hy⟩ := hc.ok 6 _ rfl rfl; exact (Option.some.inj (show some vv6 = some xx from hx)).trans hy
      obtain ⟨xx, hx, gm, hv, Em, Am⟩ := hc.ok 7 _ rfl rfl
      have qq7 : vv7 = .pointer (some ⟨gm, 0, none⟩) := (Option.some.inj (show some vv7 = some xx from hx)).trans hv
      clear hx hv
      have BZ := hc.bel
      clear hc
      have Nr := Fr.out.on BZ
      have Drm : gr ≠ gm := by have := Fr.out.lt; omega
      have EEm : w.heap.size ≤ gm := Nat.le_trans BW.out.size Em
      have HSZ5 := BW.out.size
      have NB := bel_tr BW.out BZ
      clear BW BZ Fr
      subst qq0 qq1 qq2 qq3 qq4 qq5 qq6 qq7
      simp only [List.map_cons, List.map_nil, over, Act.put, List.setIfInBounds_toArray, List.set_cons_zero, List.set_cons_succ]
      have OLD := Am
      replace Nr := put4_far Nr Drm (.int .u64 (wd M 0 : Nat)) (.int .u64 (wd M 1 : Nat)) (.int .u64 (wd M 2 : Nat)) (.int .u64 (wd M 3 : Nat))
      replace Am := put4_at Am (.int .u64 (wd M 0 : Nat)) (.int .u64 (wd M 1 : Nat)) (.int .u64 (wd M 2 : Nat)) (.int .u64 (wd M 3 : Nat))
      replace NB := put4_below NB (Nat.le_trans HSZ5 Em) (.int .u64 (wd M 0 : Nat)) (.int .u64 (wd M 1 : Nat)) (.int .u64 (wd M 2 : Nat)) (.int .u64 (wd M 3 : Nat))
      refine store_one (i := 8) _ _ _ _ _ gm _ _ _ _ _ _ _ _ (by kernel_rfl) (by rfl) (by rfl) (by rfl) OLD (Nr) ?_
      clear OLD
      generalize (put4 y5 gm (.int .u64 (wd M 0 : Nat)) (.int .u64 (wd M 1 : Nat)) (.int .u64 (wd M 2 : Nat)) (.int .u64 (wd M 3 : Nat))) = y5_8 at *
      refine assign_one (i := 9) _ 4 _ _ _ (.int .u64 0) (by kernel_rfl) (by rfl) (by rfl) (Nr) ?_
      try simp only [Act.put, List.setIfInBounds_toArray, List.set_cons_zero, List.set_cons_succ]
      refine wpAnyH_done (by kernel_rfl) ?_ _
      refine NoPanic.normal ?_
      have Fr := Lib.hid Nr
      have Fm := Lib.hid Am
      have BW := Lib.hid NB
      clear NB Nr Am
      clear Em
      have Em := EEm
      clear HSZ5
      go_wp2_with fail
      go_loopw [5] (fun s wr => ∃ i : Nat, i ≤ l ∧ s = .int .i64 (i : Nat) ∧ Hid (At wr gr 28 #[.int .u64 (wd N 0 : Nat), .int .u64 (wd N 1 : Nat), .int .u64 (wd N 2 : Nat), .int .u64 (wd N 3 : Nat), .int .u64 (wd Y 0 : Nat), .int .u64 (wd Y 1 : Nat), .int .u64 (wd Y 2 : Nat), .int .u64 (wd Y 3 : Nat), .slice a l cap] ∧ At wr gm 25 #[.int .u64 (wd M 0 : Nat), .int .u64 (wd M 1 : Nat), .int .u64 (wd M 2 : Nat), .int .u64 (wd M 3 : Nat)] ∧ Below w.heap.size w wr ∧ (True))) (fun s _ => l - (intOf s).toNat)
      case atStart => exact ⟨0, by omega, rfl, Fr.out, Fm.out, BW.out, trivial⟩
      case round =>
        obtain ⟨i, hi, rfl, hM⟩ := hrel
        clear BW Fr Fm
        have Fr := Lib.hid hM.out.1
        have Fm := Lib.hid hM.out.2.1
        have BW := Lib.hid hM.out.2.2.1
        have HT := Lib.hid hM.out.2.2.2
        clear hM
        clear HT
        by_cases hlt : i < l
        · have hlt2 : (i : Int) < (l : Int) := by omega
          have hil : i < ps.length := by rw [HL.out]; exact hlt
          have hng : ¬ N < 4294967296 := fun h => by have := (holds_small HH.out h).2; rw [this] at hil; simp at hil
          have hgr := holds_great HH.out hng
          obtain ⟨gs, os, a2, cap2, q, y2, l2, ha, hq1, hq2, hq3, hqb, hyb, hs2, hc9⟩ := HS.out.c9 hil
          have hpq : (ps[i]).holds = true := Pr.holds_parts HH.out (List.getElem_mem hil)
          have CP := HCP.out (ps[i]) a2 cap2 (by rw [hq1]; exact hqb) (by rw [hq2]; exact hyb) hs2
          rw [hpq, hq1, hq2, hq3] at CP
          have hpri := Pr.holds_pri hpq
          rw [hq1] at hpri
          have hdv := hgr.2.2.1 i hil
          rw [hq1, ← HMN.out] at hdv
          obtain ⟨D, u, hD, hu, hmq, CD⟩ := div_ex M q HM.out hqb (by have := hpri.1; omega)
          have hu0 : u = 0 := by have h1 := Nat.mod_eq_zero_of_dvd hdv; rw [hmq, Nat.mul_comm, Nat.mul_add_mod, Nat.mod_eq_of_lt hu] at h1; exact h1
          subst hu0
          have hE0 := eqN 0 0 (by decide) (by decide)
          simp only [decide_true] at hE0
          have HE0 := Lib.hid hE0; have HCD := Lib.hid CD; have HPA := Lib.hid CP; have HC := Lib.hid hc9; have HLT := Lib.hid hlt
          have HRI := Lib.hid (fun (j q2 : Nat) (hj : i = j + 1) (h2 : ∃ h : j < ps.length, (ps[j]).n = q2) => show q2 < q from by obtain ⟨h3, h4⟩ := h2; subst hj; rw [← hq1, ← h4]; exact hgr.2.2.2 j hil)
          have HQB := Lib.hid hqb
          have hiw : (i : Int) + 1 ≤ 9223372036854775807 := by have := HLC.out; omega
          have HIW := Lib.hid hiw
          subst ha
          clear hdv hD hu hmq CD hE0 CP hc9 hpri hpq hs2 hyb hqb hq3 hq2 hq1 hgr hng hil hiw hlt
          have Lr := Fr.out.lt
          have cr0 : wr.cell? ⟨gr, 0, none⟩ = some (.int .u64 (wd N 0 : Nat)) := Fr.out.cell 0
          have cr1 : wr.cell? ⟨gr, 1, none⟩ = some (.int .u64 (wd N 1 : Nat)) := Fr.out.cell 1
          have cr2 : wr.cell? ⟨gr, 2, none⟩ = some (.int .u64 (wd N 2 : Nat)) := Fr.out.cell 2
          have cr3 : wr.cell? ⟨gr, 3, none⟩ = some (.int .u64 (wd N 3 : Nat)) := Fr.out.cell 3
          have cr4 : wr.cell? ⟨gr, 4, none⟩ = some (.int .u64 (wd Y 0 : Nat)) := Fr.out.cell 4
          have cr5 : wr.cell? ⟨gr, 5, none⟩ = some (.int .u64 (wd Y 1 : Nat)) := Fr.out.cell 5
          have cr6 : wr.cell? ⟨gr, 6, none⟩ = some (.int .u64 (wd Y 2 : Nat)) := Fr.out.cell 6
          have cr7 : wr.cell? ⟨gr, 7, none⟩ = some (.int .u64 (wd Y 3 : Nat)) := Fr.out.cell 7
          have cr8 : wr.cell? ⟨gr, 8, none⟩ = some (.slice (some ⟨gs, os, none⟩) l cap) := Fr.out.cell 8
          go_upto_region 7 with fail
          clear Lr cr0 cr1 cr2 cr3 cr4 cr5 cr6 cr7 cr8
          clear hlt2
          try simp only [List.append_eq, List.cons_append, List.nil_append]
          refine wp_region_noPanic ?_
          refine wp_region_held_drew (S := fun w' => At w' gr 28 #[.int .u64 (wd N 0 : Nat), .int .u64 (wd N 1 : Nat), .int .u64 (wd N 2 : Nat), .int .u64 (wd N 3 : Nat), .int .u64 (wd Y 0 : Nat), .int .u64 (wd Y 1 : Nat), .int .u64 (wd Y 2 : Nat), .int .u64 (wd Y 3 : Nat), .slice (some ⟨gs, os, none⟩) l cap] ∧ Below w.heap.size w w') (by kernel_rfl) (⟨Fr.out.drew, BW.out.drew⟩) (fun _ => ?_)
          refine wpAnyH_cores (fuel := 3) (⟨0, 39, [], Kind.val (.agg #[.int .u64 (wd M 0 : Nat), .int .u64 (wd M 1 : Nat), .int .u64 (wd M 2 : Nat), .int .u64 (wd M 3 : Nat)]), false⟩ :: ⟨1, 40, [], Kind.val (.pointer (some ⟨gr, 8, none⟩)), true⟩ :: ⟨2, 41, [1], Kind.val (.slice (some ⟨gs, os, none⟩) l cap), true⟩ :: ⟨3, 42, [], Kind.val (.int .i64 (i : Nat)), true⟩ :: ⟨4, 43, [2, 3], Kind.val (.pointer (some ⟨gs, os + i * 9, none⟩)), true⟩ :: ⟨5, 44, [4], Kind.val (.pointer (some ⟨gs, os + i * 9, none⟩)), true⟩ :: ⟨6, 45, [5], Kind.val (.agg #[.int .u64 (wd q 0 : Nat), .int .u64 (wd q 1 : Nat), .int .u64 (wd q 2 : Nat), .int .u64 (wd q 3 : Nat)]), true⟩ :: ⟨7, 46, [0, 6], Kind.val (.tuple #[.agg #[.int .u64 (wd D 0 : Nat), .int .u64 (wd D 1 : Nat), .int .u64 (wd D 2 : Nat), .int .u64 (wd D 3 : Nat)], .agg #[.int .u64 (wd 0 0 : Nat), .int .u64 (wd 0 1 : Nat), .int .u64 (wd 0 2 : Nat), .int .u64 (wd 0 3 : Nat)], .int .i64 0]), false⟩ :: ⟨8, 38, [7], Kind.val (.tuple #[.agg #[.int .u64 (wd D 0 : Nat), .int .u64 (wd D 1 : Nat), .int .u64 (wd D 2 : Nat), .int .u64 (wd D 3 : Nat)], .agg #[.int .u64 (wd 0 0 : Nat), .int .u64 (wd 0 1 : Nat), .int .u64 (wd 0 2 : Nat), .int .u64 (wd 0 3 : Nat)], .int .i64 0]), true⟩ :: ⟨9, 47, [8], Kind.val (.agg #[.int .u64 (wd D 0 : Nat), .int .u64 (wd D 1 : Nat), .int .u64 (wd D 2 : Nat), .int .u64 (wd D 3 : Nat)]), true⟩ :: ⟨10, 48, [8], Kind.val (.agg #[.int .u64 (wd 0 0 : Nat), .int .u64 (wd 0 1 : Nat), .int .u64 (wd 0 2 : Nat), .int .u64 (wd 0 3 : Nat)]), true⟩ :: ⟨11, 49, [8], Kind.val (.int .i64 0), true⟩ :: ⟨12, 6, [], Kind.cell wr.heap.size 25 #[.int .u64 0, .int .u64 0, .int .u64 0, .int .u64 0], false⟩ :: ⟨13, 7, [], Kind.cell wr.heap.size 25 #[.int .u64 0, .int .u64 0, .int .u64 0, .int .u64 0], false⟩ :: []) _ _ wr _ ?_ ?_ ?_ ?_ ?_ ?_ ?_ ?_ ?_ ?_ ?_
          · rfl
          · kernel_rfl
          · exact of_decide_eq_true rfl
          · exact all_cons ⟨_, rfl, rfl⟩ (all_cons ⟨_, rfl, rfl⟩ (all_cons ⟨_, rfl, rfl⟩ (all_cons ⟨_, rfl, rfl⟩ (all_cons ⟨_, rfl, rfl⟩ (all_cons ⟨_, rfl, rfl⟩ (all_cons ⟨_, rfl, rfl⟩ (all_cons ⟨_, rfl, rfl⟩ (all_cons ⟨_, rfl, rfl⟩ (all_cons ⟨_, rfl, rfl⟩ (all_cons ⟨_, rfl, rfl⟩ (all_cons ⟨_, rfl, rfl⟩ (all_cons ⟨_, rfl, rfl⟩ (all_cons ⟨_, rfl, rfl⟩ (all_nil))))))))))))))
          · exact fun _ hb => ⟨Fr.out.on hb, bel_tr BW.out hb⟩
          · exact (Below.refl _ _).drew
          · kernel_rfl
          · exact fun _ _ _ _ _ h => h
          · refine all_cons ?_ (all_cons ?_ (all_cons ?_ (all_cons ?_ (all_cons ?_ (all_cons ?_ (all_cons ?_ (all_cons ?_ (all_cons ?_ (all_cons ?_ (all_cons ?_ (all_cons ?_ (all_cons ?_ (all_cons ?_ (all_nil))))))))))))))
            · exact core_pureAs _ (by rfl)
            · exact core_held _ _ _ _ _ _ _ _ (by rfl) (by rfl) (known_old 1 _ (of_decide_eq_true (by rfl)) (by rfl)) (fun ρ w hx _ => fieldR2 _ _ _ _ _ _ ρ w gr hx)
            · exact core_held _ _ _ _ _ _ _ _ (by rfl) (by rfl) (known_core 1 40 _ _ (of_decide_eq_true (by rfl)) (by rfl) (by rfl) (by rfl)) (fun ρ w hx hs => loadR2 _ _ _ _ _ _ ρ w gr _ _ _ _ _ _ _ _ _ hx hs.1)
            · exact core_move _ _ _ _ _ _ (by rfl) (by rfl) (known_old 5 _ (of_decide_eq_true (by rfl)) (by rfl))
            · exact core_held2 _ _ _ _ _ _ _ _ _ _ (by rfl) (by rfl) (known_core 2 41 _ _ (of_decide_eq_true (by rfl)) (by rfl) (by rfl) (by rfl)) (known_core 3 42 _ _ (of_decide_eq_true (by rfl)) (by rfl) (by rfl) (by rfl)) (fun ρ w hx hy _ => idxR _ _ _ _ _ _ _ ρ w gs os i l cap HLT.out hx hy)
            · exact core_held _ _ _ _ _ _ _ _ (by rfl) (by rfl) (known_core 4 43 _ _ (of_decide_eq_true (by rfl)) (by rfl) (by rfl) (by rfl)) (fun ρ w hx _ => fieldC0 _ _ _ _ _ _ ρ w gs _ hx)
            · exact core_held _ _ _ _ _ _ _ _ (by rfl) (by rfl) (known_core 5 44 _ _ (of_decide_eq_true (by rfl)) (by rfl) (by rfl) (by rfl)) (fun ρ w hx hs => loadC0 _ _ _ _ _ _ ρ w gs _ q y2 _ hx (HC.out _ hs.2))
            · exact core_pureAs _ (by rfl)
            · exact core_move _ _ _ _ _ _ (by rfl) (by rfl) (known_core 7 46 _ _ (of_decide_eq_true (by rfl)) (by rfl) (by rfl) (by rfl))
            · exact core_extract _ _ 0 _ _ _ _ _ (by rfl) (by rfl) (known_core 8 38 _ _ (of_decide_eq_true (by rfl)) (by rfl) (by rfl) (by rfl)) (by rfl)
            · exact core_extract _ _ 1 _ _ _ _ _ (by rfl) (by rfl) (known_core 8 38 _ _ (of_decide_eq_true (by rfl)) (by rfl) (by rfl) (by rfl)) (by rfl)
            · exact core_extract _ _ 2 _ _ _ _ _ (by rfl) (by rfl) (known_core 8 38 _ _ (of_decide_eq_true (by rfl)) (by rfl) (by rfl) (by rfl)) (by rfl)
            · exact core_pureAs _ (by rfl)
            · exact core_pureAs _ (by rfl)
          · refine all_cons ?_ (all_cons ?_ (all_cons ?_ (all_cons ?_ (all_cons ?_ (all_cons ?_ (all_cons ?_ (all_cons ?_ (all_cons ?_ (all_cons ?_ (all_cons ?_ (all_cons ?_ (all_cons ?_ (all_cons ?_ (all_nil))))))))))))))
            · exact fun _ => core_load _ _ _ _ _ gm _ _ _ _ (by rfl) (by rfl) (known_old 3 _ (of_decide_eq_true (by rfl)) (by rfl)) Fm.out
            · exact core_stepAs _ (by rfl)
            · exact core_stepAs _ (by rfl)
            · exact core_stepAs _ (by rfl)
            · exact core_stepAs _ (by rfl)
            · exact core_stepAs _ (by rfl)
            · exact core_stepAs _ (by rfl)
            · exact fun _ => core_call _ 22 _ _ [.tmp 39, .tmp 45] _ _ _ _ _ _ (by rfl) Try.func22 (by kernel_rfl) (by rfl) (by rfl) (.cons (known_core 0 39 _ _ (of_decide_eq_true (by rfl)) (by rfl) (by rfl) (by rfl)) (.cons (known_core 6 45 _ _ (of_decide_eq_true (by rfl)) (by rfl) (by rfl) (by rfl)) .nil)) (HCD.out)
            · exact core_stepAs _ (by rfl)
            · exact core_stepAs _ (by rfl)
            · exact core_stepAs _ (by rfl)
            · exact core_stepAs _ (by rfl)
            · exact fun _ => core_alloc _ _ _ _ _ (by rfl) (by rfl) (Nat.le_refl _)
            · exact fun _ => core_alloc _ _ _ _ _ (by rfl) (by rfl) (Nat.le_refl _)
          intro vs y6 hc
          obtain ⟨vv0, vv1, vv2, vv3, vv4, vv5, vv6, vv7, vv8, vv9, vv10, vv11, vv12, vv13, rfl⟩ := len14 vs hc.lv
          have qq0 : vv0 = .agg #[.int .u64 (wd M 0 : Nat), .int .u64 (wd M 1 : Nat), .int .u64 (wd M 2 : Nat), .int .u64 (wd M 3 : Nat)] := by obtain ⟨xx, hx, hy⟩ := hc.ok 0 _ rfl rfl; exact (Option.some.inj (show some vv0 = some xx from hx)).trans hy
          have qq1 : vv1 = .pointer (some ⟨gr, 8, none⟩) := by obtain ⟨xx, hx, hy⟩ := hc.ok 1 _ rfl rfl; exact (Option.some.inj (show some vv1 = some xx from hx)).trans hy
          have qq2 : vv2 = .slice (some ⟨gs, os, none⟩) l cap := by obtain ⟨xx, hx, hy⟩ := hc.ok 2 _ rfl rfl; exact (Option.some.inj (show some vv2 = some xx from hx)).trans hy
          have qq3 : vv3 = .int .i64 (i : Nat) := by obtain ⟨xx, hx, hy⟩ := hc.ok 3 _ rfl rfl; exact (Option.some.inj (show some vv3 = some xx from hx)).trans hy
          have qq4 : vv4 = .pointer (some ⟨gs, os + i * 9, none⟩) := by obtain ⟨xx, hx, hy⟩ := hc.ok 4 _ rfl rfl; exact (Option.some.inj (show some vv4 = some xx from hx)).trans hy
          have qq5 : vv5 = .pointer (some ⟨gs, os + i * 9, none⟩) := by obtain ⟨xx, hx, hy⟩ := hc.ok 5 _ rfl rfl; exact (Option.some.inj (show some vv5 = some xx from hx)).trans hy
          have qq6 : vv6 = .agg #[.int .u64 (wd q 0 : Nat), .int .u64 (wd q 1 : Nat), .int .u64 (wd q 2 : Nat), .int .u64 (wd q 3 : Nat)] := by obtain ⟨xx, hx, hy⟩ := hc.ok 6 _ rfl rfl; exact (Option.some.inj (show some vv6 = some xx from hx)).trans hy
          have qq7 : vv7 = .tuple #[.agg #[.int .u64 (wd D 0 : Nat), .int .u64 (wd D 1 : Nat), .int .u64 (wd D 2 : Nat), .int .u64 (wd D 3 : Nat)], .agg #[.int .u64 (wd 0 0 : Nat), .int .u64 (wd 0 1 : Nat), .int .u64 (wd 0 2 : Nat), .int .u64 (wd 0 3 : Nat)], .int .i64 0] := by obtain ⟨xx, hx, hy⟩ := hc.ok 7 _ rfl rfl; exact (Option.some.inj (show some vv7 = some xx from hx)).trans hy
          have qq8 : vv8 = .tuple #[.agg #[.int .u64 (wd D 0 : Nat), .int .u64 (wd D 1 : Nat), .int .u64 (wd D 2 : Nat), .int .u64 (wd D 3 : Nat)], .agg #[.int .u64 (wd 0 0 : Nat), .int .u64 (wd 0 1 : Nat), .int .u64 (wd 0 2 : Nat), .int .u64 (wd 0 3 : Nat)], .int .i64 0] := by obtain ⟨xx, hx, hy⟩ := hc.ok 8 _ rfl rfl; exact (Option.some.inj (show some vv8 = some xx from hx)).trans hy
          have qq9 : vv9 = .agg #[.int .u64 (wd D 0 : Nat), .int .u64 (wd D 1 : Nat), .int .u64 (wd D 2 : Nat), .int .u64 (wd D 3 : Nat)] := by obtain ⟨xx, hx, hy⟩ := hc.ok 9 _ rfl rfl; exact (Option.some.inj (show some vv9 = some xx from hx)).trans hy
          have qq10 : vv10 = .agg #[.int .u64 (wd 0 0 : Nat), .int .u64 (wd 0 1 : Nat), .int .u64 (wd 0 2 : Nat), .int .u64 (wd 0 3 : Nat)] := by obtain ⟨xx, hx, hy⟩ := hc.ok 10 _ rfl rfl; exact (Option.some.inj (show some vv10 = some xx from hx)).trans hy
          have qq11 : vv11 = .int .i64 0 := by obtain ⟨xx, hx, hy⟩ := hc.ok 11 _ rfl rfl; exact (Option.some.inj (show some vv11 = some xx from hx)).trans hy
          obtain ⟨xx, hx, gd, hv, Ed, Ad⟩ := hc.ok 12 _ rfl rfl
          have qq12 : vv12 = .pointer (some ⟨gd, 0, none⟩) := (Option.some.inj (show some vv12 = some xx from hx)).trans hv
          clear hx hv
          obtain ⟨xx, hx, gt, hv, Et, At⟩ := hc.ok 13 _ rfl rfl
          have qq13 : vv13 = .pointer (some ⟨gt, 0, none⟩) := (Option.some.inj (show some vv13 = some xx from hx)).trans hv
          clear hx hv
          have Ddt : gd ≠ gt := fun e => hc.far 12 13 _ _ rfl rfl rfl rfl (by decide) rfl rfl (by show some vv12 = some vv13; rw [qq12, qq13, e])
          have BZ := hc.bel
          clear hc
          have Nr := Fr.out.on BZ
          have Nm := Fm.out.on BZ
          have Drd : gr ≠ gd := by have := Fr.out.lt; omega
          have Dmd : gm ≠ gd := by have := Fm.out.lt; omega
          have Drt : gr ≠ gt := by have := Fr.out.lt; omega
          have Dmt : gm ≠ gt := by have := Fm.out.lt; omega
          have EEt : w.heap.size ≤ gt := Nat.le_trans BW.out.size Et
          have HSZ6 := BW.out.size
          have NB := bel_tr BW.out BZ
          clear BW BZ Fr Fm
          subst qq0 qq1 qq2 qq3 qq4 qq5 qq6 qq7 qq8 qq9 qq10 qq11 qq12 qq13
          simp only [List.map_cons, List.map_nil, over, Act.put, List.setIfInBounds_toArray, List.set_cons_zero, List.set_cons_succ]
          have OLD := Ad
          replace Nr := put4_far Nr Drd (.int .u64 (wd D 0 : Nat)) (.int .u64 (wd D 1 : Nat)) (.int .u64 (wd D 2 : Nat)) (.int .u64 (wd D 3 : Nat))
          replace Nm := put4_far Nm Dmd (.int .u64 (wd D 0 : Nat)) (.int .u64 (wd D 1 : Nat)) (.int .u64 (wd D 2 : Nat)) (.int .u64 (wd D 3 : Nat))
          replace Ad := put4_at Ad (.int .u64 (wd D 0 : Nat)) (.int .u64 (wd D 1 : Nat)) (.int .u64 (wd D 2 : Nat)) (.int .u64 (wd D 3 : Nat))
          replace At := put4_far At Ddt.symm (.int .u64 (wd D 0 : Nat)) (.int .u64 (wd D 1 : Nat)) (.int .u64 (wd D 2 : Nat)) (.int .u64 (wd D 3 : Nat))
          replace NB := put4_below NB (Nat.le_trans HSZ6 Ed) (.int .u64 (wd D 0 : Nat)) (.int .u64 (wd D 1 : Nat)) (.int .u64 (wd D 2 : Nat)) (.int .u64 (wd D 3 : Nat))
          refine store_one (i := 14) _ _ _ _ _ gd _ _ _ _ _ _ _ _ (by kernel_rfl) (by rfl) (by rfl) (by rfl) OLD (⟨Nr, NB⟩) ?_
          clear OLD
          generalize (put4 y6 gd (.int .u64 (wd D 0 : Nat)) (.int .u64 (wd D 1 : Nat)) (.int .u64 (wd D 2 : Nat)) (.int .u64 (wd D 3 : Nat))) = y6_14 at *
          have OLD := At
          replace Nr := put4_far Nr Drt (.int .u64 (wd 0 0 : Nat)) (.int .u64 (wd 0 1 : Nat)) (.int .u64 (wd 0 2 : Nat)) (.int .u64 (wd 0 3 : Nat))
          replace Nm := put4_far Nm Dmt (.int .u64 (wd 0 0 : Nat)) (.int .u64 (wd 0 1 : Nat)) (.int .u64 (wd 0 2 : Nat)) (.int .u64 (wd 0 3 : Nat))
          replace Ad := put4_far Ad Ddt (.int .u64 (wd 0 0 : Nat)) (.int .u64 (wd 0 1 : Nat)) (.int .u64 (wd 0 2 : Nat)) (.int .u64 (wd 0 3 : Nat))
          replace At := put4_at At (.int .u64 (wd 0 0 : Nat)) (.int .u64 (wd 0 1 : Nat)) (.int .u64 (wd 0 2 : Nat)) (.int .u64 (wd 0 3 : Nat))
          replace NB := put4_below NB (Nat.le_trans HSZ6 Et) (.int .u64 (wd 0 0 : Nat)) (.int .u64 (wd 0 1 : Nat)) (.int .u64 (wd 0 2 : Nat)) (.int .u64 (wd 0 3 : Nat))
          refine store_one (i := 15) _ _ _ _ _ gt _ _ _ _ _ _ _ _ (by kernel_rfl) (by rfl) (by rfl) (by rfl) OLD (⟨Nr, NB⟩) ?_
          clear OLD
          generalize (put4 y6_14 gt (.int .u64 (wd 0 0 : Nat)) (.int .u64 (wd 0 1 : Nat)) (.int .u64 (wd 0 2 : Nat)) (.int .u64 (wd 0 3 : Nat))) = y6_15 at *
          refine assign_one (i := 16) _ 8 _ _ _ (.int .i64 0) (by kernel_rfl) (by rfl) (by rfl) (⟨Nr, NB⟩) ?_
          try simp only [Act.put, List.setIfInBounds_toArray, List.set_cons_zero, List.set_cons_succ]
          refine wpAnyH_done (by kernel_rfl) ?_ _
          refine NoPanic.normal ?_
          have Fr := Lib.hid Nr
          have Fm := Lib.hid Nm
          have Fd := Lib.hid Ad
          have Ft := Lib.hid At
          have BW := Lib.hid NB
          clear NB Nr Nm Ad At
          clear Ed
          clear Et
          have Et := EEt
          clear HSZ6
          go_upto_region 8 with fail
          rcases Nat.eq_zero_or_pos i with hi0 | hi0
          · have HI0 := Lib.hid (show i = 0 from hi0)
            clear hi0
            try simp only [List.append_eq, List.cons_append, List.nil_append]
            refine wp_region_noPanic ?_
            refine wp_region_held_drew (S := fun w' => Below w.heap.size w w' ∧ At w' gt 25 #[.int .u64 (wd 0 0 : Nat), .int .u64 (wd 0 1 : Nat), .int .u64 (wd 0 2 : Nat), .int .u64 (wd 0 3 : Nat)] ∧ At w' gr 28 #[.int .u64 (wd N 0 : Nat), .int .u64 (wd N 1 : Nat), .int .u64 (wd N 2 : Nat), .int .u64 (wd N 3 : Nat), .int .u64 (wd Y 0 : Nat), .int .u64 (wd Y 1 : Nat), .int .u64 (wd Y 2 : Nat), .int .u64 (wd Y 3 : Nat), .slice (some ⟨gs, os, none⟩) l cap]) (by kernel_rfl) (⟨BW.out.drew, Ft.out.drew, Fr.out.drew⟩) (fun _ => ?_)
            refine wpAnyH_cores (fuel := 0) (⟨0, 50, [], Kind.val (.int .i64 0), true⟩ :: ⟨1, 51, [0], Kind.val (.bool false), true⟩ :: ⟨2, 52, [1], Kind.val (.bool false), true⟩ :: ⟨3, 53, [2], Kind.val (.agg #[.int .u64 (wd 0 0 : Nat), .int .u64 (wd 0 1 : Nat), .int .u64 (wd 0 2 : Nat), .int .u64 (wd 0 3 : Nat)]), true⟩ :: ⟨4, 54, [2, 3], Kind.val (.agg #[.int .u64 (wd 0 0 : Nat), .int .u64 (wd 0 1 : Nat), .int .u64 (wd 0 2 : Nat), .int .u64 (wd 0 3 : Nat)]), false⟩ :: ⟨5, 55, [2, 3, 4], Kind.val (.bool false), true⟩ :: ⟨6, 56, [2, 5], Kind.val (.bool false), true⟩ :: ⟨7, 57, [6], Kind.val (.bool false), true⟩ :: ⟨8, 58, [7], Kind.val (.pointer (some ⟨gr, 8, none⟩)), true⟩ :: ⟨9, 59, [7, 8], Kind.val (.slice (some ⟨gs, os, none⟩) l cap), true⟩ :: ⟨10, 60, [7, 9], Kind.val (.int .i64 (i : Nat)), true⟩ :: ⟨11, 61, [7, 9, 10], Kind.val (.pointer (some ⟨gs, os + i * 9, none⟩)), true⟩ :: ⟨12, 62, [7, 11], Kind.val (.agg #[.int .u64 (wd q 0 : Nat), .int .u64 (wd q 1 : Nat), .int .u64 (wd q 2 : Nat), .int .u64 (wd q 3 : Nat), .int .u64 (wd y2 0 : Nat), .int .u64 (wd y2 1 : Nat), .int .u64 (wd y2 2 : Nat), .int .u64 (wd y2 3 : Nat), .slice a2 l2 cap2]), true⟩ :: ⟨13, 63, [7, 12], Kind.val (.bool true), false⟩ :: ⟨14, 64, [7, 13], Kind.val (.bool false), true⟩ :: ⟨15, 65, [7, 14], Kind.val (.bool false), true⟩ :: ⟨16, 66, [15], Kind.val (.bool false), true⟩ :: ⟨17, 67, [16], Kind.val (.int .i64 (i : Nat)), true⟩ :: ⟨18, 68, [16, 17], Kind.val (.bool false), true⟩ :: ⟨19, 69, [16, 18], Kind.val (.bool false), true⟩ :: ⟨20, 70, [19], Kind.val (undef), true⟩ :: ⟨21, 71, [19, 20], Kind.val (undef), true⟩ :: ⟨22, 72, [19, 21], Kind.val (undef), true⟩ :: ⟨23, 73, [19, 22], Kind.val (undef), true⟩ :: ⟨24, 74, [19, 21, 23], Kind.val (undef), true⟩ :: ⟨25, 75, [19, 24], Kind.val (undef), true⟩ :: ⟨26, 76, [19, 25], Kind.val (undef), true⟩ :: ⟨27, 77, [19, 26], Kind.val (undef), true⟩ :: ⟨28, 78, [19, 27], Kind.val (undef), true⟩ :: ⟨29, 79, [19, 28], Kind.val (undef), true⟩ :: ⟨30, 80, [19, 28, 29], Kind.val (undef), true⟩ :: ⟨31, 81, [19, 30], Kind.val (undef), true⟩ :: ⟨32, 82, [19, 31], Kind.val (undef), true⟩ :: ⟨33, 83, [19, 26, 32], Kind.val (undef), true⟩ :: ⟨34, 84, [19, 33], Kind.val (undef), true⟩ :: ⟨35, 85, [16, 19, 34], Kind.val (.bool false), true⟩ :: ⟨36, 86, [16, 35], Kind.val (.bool false), true⟩ :: []) _ _ y6_15 _ ?_ ?_ ?_ ?_ ?_ ?_ ?_ ?_ ?_ ?_ ?_
            · rfl
            · kernel_rfl
            · exact of_decide_eq_true (by kernel_rfl)
            · exact all_cons ⟨_, by rfl, by rfl⟩ (all_cons ⟨_, by rfl, by rfl⟩ (all_cons ⟨_, by rfl, by rfl⟩ (all_cons ⟨_, by rfl, by rfl⟩ (all_cons ⟨_, by rfl, by rfl⟩ (all_cons ⟨_, by rfl, by rfl⟩ (all_cons ⟨_, by rfl, by rfl⟩ (all_cons ⟨_, by rfl, by rfl⟩ (all_cons ⟨_, by rfl, by rfl⟩ (all_cons ⟨_, by rfl, by rfl⟩ (all_cons ⟨_, by rfl, by rfl⟩ (all_cons ⟨_, by rfl, by rfl⟩ (all_cons ⟨_, by rfl, by rfl⟩ (all_cons ⟨_, by rfl, by rfl⟩ (all_cons ⟨_, by rfl, by rfl⟩ (all_cons ⟨_, by rfl, by rfl⟩ (all_cons ⟨_, by rfl, by rfl⟩ (all_cons ⟨_, by rfl, by rfl⟩ (all_cons ⟨_, by rfl, by rfl⟩ (all_cons ⟨_, by rfl, by rfl⟩ (all_cons ⟨_, by rfl, by rfl⟩ (all_cons ⟨_, by rfl, by rfl⟩ (all_cons ⟨_, by rfl, by rfl⟩ (all_cons ⟨_, by rfl, by rfl⟩ (all_cons ⟨_, by rfl, by rfl⟩ (all_cons ⟨_, by rfl, by rfl⟩ (all_cons ⟨_, by rfl, by rfl⟩ (all_cons ⟨_, by rfl, by rfl⟩ (all_cons ⟨_, by rfl, by rfl⟩ (all_cons ⟨_, by rfl, by rfl⟩ (all_cons ⟨_, by rfl, by rfl⟩ (all_cons ⟨_, by rfl, by rfl⟩ (all_cons ⟨_, by rfl, by rfl⟩ (all_cons ⟨_, by rfl, by rfl⟩ (all_cons ⟨_, by rfl, by rfl⟩ (all_cons ⟨_, by rfl, by rfl⟩ (all_cons ⟨_, by rfl, by rfl⟩ (all_nil)))))))))))))))))))))))))))))))))))))
            · exact fun _ hb => ⟨bel_tr BW.out hb, Ft.out.on hb, Fr.out.on hb⟩
            · exact (Below.refl _ _).drew
            · kernel_rfl
            · exact fun _ _ _ _ _ h => h
            · refine all_cons ?_ (all_cons ?_ (all_cons ?_ (all_cons ?_ (all_cons ?_ (all_cons ?_ (all_cons ?_ (all_cons ?_ (all_cons ?_ (all_cons ?_ (all_cons ?_ (all_cons ?_ (all_cons ?_ (all_cons ?_ (all_cons ?_ (all_cons ?_ (all_cons ?_ (all_cons ?_ (all_cons ?_ (all_cons ?_ (all_cons ?_ (all_cons ?_ (all_cons ?_ (all_cons ?_ (all_cons ?_ (all_cons ?_ (all_cons ?_ (all_cons ?_ (all_cons ?_ (all_cons ?_ (all_cons ?_ (all_cons ?_ (all_cons ?_ (all_cons ?_ (all_cons ?_ (all_cons ?_ (all_cons ?_ (all_nil)))))))))))))))))))))))))))))))))))))
              · exact coreG_move _ _ _ _ _ _ _ (by rfl) (by rfl) (wants_none) (known_old 8 _ (of_decide_eq_true (by rfl)) (by rfl))
              · exact coreG_bin _ _ _ _ _ _ _ _ _ _ _ _ _ (by rfl) (by rfl) (wants_none) (known_core 0 50 _ _ (of_decide_eq_true (by rfl)) (by rfl) (by rfl) (by rfl)) (known_const _) ((fun ρ w hx hy => by simp only [execOp, hx, hy]; simp [go_sem]))
              · exact coreG_move _ _ _ _ _ _ _ (by rfl) (by rfl) (wants_none) (known_core 1 51 _ _ (of_decide_eq_true (by rfl)) (by rfl) (by rfl) (by rfl))
              · exact coreG_loadP _ _ _ _ _ _ gt _ _ _ _ (by rfl) (by rfl) (wants_core 2 52 2 _ _ _ (by rfl) (by rfl) (by rfl) (known_core 2 52 _ _ (of_decide_eq_true (by rfl)) (by rfl) (by rfl) (by rfl)) _ (by rfl)) (known_old 7 _ (of_decide_eq_true (by rfl)) (by rfl)) (fun _ hs => hs.2.1)
              · exact core_pureAs _ (by rfl)
              · exact coreG_bin _ _ _ _ _ _ _ _ _ _ _ _ _ (by rfl) (by rfl) (wants_core 2 52 2 _ _ _ (by rfl) (by rfl) (by rfl) (known_core 2 52 _ _ (of_decide_eq_true (by rfl)) (by rfl) (by rfl) (by rfl)) _ (by rfl)) (known_core 3 53 _ _ (of_decide_eq_true (by rfl)) (by rfl) (by rfl) (by rfl)) (known_core 4 54 _ _ (of_decide_eq_true (by rfl)) (by rfl) (by rfl) (by rfl)) (neq_run true _ _ _ _ _ _ _ _ _ _ _ _ _ _ _ (HE0.out))
              · exact coreG_pick _ _ _ _ _ _ _ _ _ _ _ _ (by rfl) (by rfl) (wants_none) (known_core 2 52 _ _ (of_decide_eq_true (by rfl)) (by rfl) (by rfl) (by rfl)) (known_const _) (known_core 5 55 _ _ (of_decide_eq_true (by rfl)) (by rfl) (by rfl) (by rfl)) (by rfl)
              · exact coreG_move _ _ _ _ _ _ _ (by rfl) (by rfl) (wants_none) (known_core 6 56 _ _ (of_decide_eq_true (by rfl)) (by rfl) (by rfl) (by rfl))
              · exact coreG_held _ _ _ _ _ _ _ _ _ (by rfl) (by rfl) (wants_core 7 57 7 _ _ _ (by rfl) (by rfl) (by rfl) (known_core 7 57 _ _ (of_decide_eq_true (by rfl)) (by rfl) (by rfl) (by rfl)) _ (by rfl)) (known_old 1 _ (of_decide_eq_true (by rfl)) (by rfl)) (fun ρ w hx _ => fieldR2 _ _ _ _ _ _ ρ w gr hx)
              · exact coreG_held _ _ _ _ _ _ _ _ _ (by rfl) (by rfl) (wants_core 7 57 7 _ _ _ (by rfl) (by rfl) (by rfl) (known_core 7 57 _ _ (of_decide_eq_true (by rfl)) (by rfl) (by rfl) (by rfl)) _ (by rfl)) (known_core 8 58 _ _ (of_decide_eq_true (by rfl)) (by rfl) (by rfl) (by rfl)) (fun ρ w hx hs => loadR2 _ _ _ _ _ _ ρ w gr _ _ _ _ _ _ _ _ _ hx (hs.2.2))
              · exact coreG_move _ _ _ _ _ _ _ (by rfl) (by rfl) (wants_core 7 57 7 _ _ _ (by rfl) (by rfl) (by rfl) (known_core 7 57 _ _ (of_decide_eq_true (by rfl)) (by rfl) (by rfl) (by rfl)) _ (by rfl)) (known_old 5 _ (of_decide_eq_true (by rfl)) (by rfl))
              · exact coreG_held2 _ _ _ _ _ _ _ _ _ _ _ (by rfl) (by rfl) (wants_core 7 57 7 _ _ _ (by rfl) (by rfl) (by rfl) (known_core 7 57 _ _ (of_decide_eq_true (by rfl)) (by rfl) (by rfl) (by rfl)) _ (by rfl)) (known_core 9 59 _ _ (of_decide_eq_true (by rfl)) (by rfl) (by rfl) (by rfl)) (known_core 10 60 _ _ (of_decide_eq_true (by rfl)) (by rfl) (by rfl) (by rfl)) (fun ρ w hx hy _ => idxR _ _ _ _ _ _ _ ρ w gs os i l cap HLT.out hx hy)
              · exact coreG_held _ _ _ _ _ _ _ _ _ (by rfl) (by rfl) (wants_core 7 57 7 _ _ _ (by rfl) (by rfl) (by rfl) (known_core 7 57 _ _ (of_decide_eq_true (by rfl)) (by rfl) (by rfl) (by rfl)) _ (by rfl)) (known_core 11 61 _ _ (of_decide_eq_true (by rfl)) (by rfl) (by rfl) (by rfl)) (fun ρ w hx hs => loadC _ _ _ _ _ _ ρ w gs _ q y2 _ hx (HC.out _ hs.1))
              · exact core_pureAs _ (by rfl)
              · exact coreG_un _ _ _ _ _ _ _ _ _ _ (by rfl) (by rfl) (wants_core 7 57 7 _ _ _ (by rfl) (by rfl) (by rfl) (known_core 7 57 _ _ (of_decide_eq_true (by rfl)) (by rfl) (by rfl) (by rfl)) _ (by rfl)) (known_core 13 63 _ _ (of_decide_eq_true (by rfl)) (by rfl) (by rfl) (by rfl)) (fun ρ w hx => by simp only [execOp, hx]; simp [go_sem])
              · exact coreG_pick _ _ _ _ _ _ _ _ _ _ _ _ (by rfl) (by rfl) (wants_none) (known_core 7 57 _ _ (of_decide_eq_true (by rfl)) (by rfl) (by rfl) (by rfl)) (known_const _) (known_core 14 64 _ _ (of_decide_eq_true (by rfl)) (by rfl) (by rfl) (by rfl)) (by rfl)
              · exact coreG_move _ _ _ _ _ _ _ (by rfl) (by rfl) (wants_none) (known_core 15 65 _ _ (of_decide_eq_true (by rfl)) (by rfl) (by rfl) (by rfl))
              · exact coreG_move _ _ _ _ _ _ _ (by rfl) (by rfl) (wants_core 16 66 16 _ _ _ (by rfl) (by rfl) (by rfl) (known_core 16 66 _ _ (of_decide_eq_true (by rfl)) (by rfl) (by rfl) (by rfl)) _ (by rfl)) (known_old 5 _ (of_decide_eq_true (by rfl)) (by rfl))
              · exact coreG_bin _ _ _ _ _ _ _ _ _ _ _ _ _ (by rfl) (by rfl) (wants_core 16 66 16 _ _ _ (by rfl) (by rfl) (by rfl) (known_core 16 66 _ _ (of_decide_eq_true (by rfl)) (by rfl) (by rfl) (by rfl)) _ (by rfl)) (known_core 17 67 _ _ (of_decide_eq_true (by rfl)) (by rfl) (by rfl) (by rfl)) (known_const _) ((fun ρ w hx hy => by simp only [execOp, hx, hy]; simp [go_sem, HI0.out]))
              · exact coreG_move _ _ _ _ _ _ _ (by rfl) (by rfl) (wants_core 16 66 16 _ _ _ (by rfl) (by rfl) (by rfl) (known_core 16 66 _ _ (of_decide_eq_true (by rfl)) (by rfl) (by rfl) (by rfl)) _ (by rfl)) (known_core 18 68 _ _ (of_decide_eq_true (by rfl)) (by rfl) (by rfl) (by rfl))
              · exact coreG_skip _ _ _ _ _ _ (by rfl) (by rfl) (wants_core 19 69 19 _ _ _ (by rfl) (by rfl) (by rfl) (known_core 19 69 _ _ (of_decide_eq_true (by rfl)) (by rfl) (by rfl) (by rfl)) _ (by rfl))
              · exact coreG_skip _ _ _ _ _ _ (by rfl) (by rfl) (wants_core 19 69 19 _ _ _ (by rfl) (by rfl) (by rfl) (known_core 19 69 _ _ (of_decide_eq_true (by rfl)) (by rfl) (by rfl) (by rfl)) _ (by rfl))
              · exact coreG_skip _ _ _ _ _ _ (by rfl) (by rfl) (wants_core 19 69 19 _ _ _ (by rfl) (by rfl) (by rfl) (known_core 19 69 _ _ (of_decide_eq_true (by rfl)) (by rfl) (by rfl) (by rfl)) _ (by rfl))
              · exact coreG_skip _ _ _ _ _ _ (by rfl) (by rfl) (wants_core 19 69 19 _ _ _ (by rfl) (by rfl) (by rfl) (known_core 19 69 _ _ (of_decide_eq_true (by rfl)) (by rfl) (by rfl) (by rfl)) _ (by rfl))
              · exact coreG_skip _ _ _ _ _ _ (by rfl) (by rfl) (wants_core 19 69 19 _ _ _ (by rfl) (by rfl) (by rfl) (known_core 19 69 _ _ (of_decide_eq_true (by rfl)) (by rfl) (by rfl) (by rfl)) _ (by rfl))
              · exact coreG_skip _ _ _ _ _ _ (by rfl) (by rfl) (wants_core 19 69 19 _ _ _ (by rfl) (by rfl) (by rfl) (known_core 19 69 _ _ (of_decide_eq_true (by rfl)) (by rfl) (by rfl) (by rfl)) _ (by rfl))
              · exact coreG_skip _ _ _ _ _ _ (by rfl) (by rfl) (wants_core 19 69 19 _ _ _ (by rfl) (by rfl) (by rfl) (known_core 19 69 _ _ (of_decide_eq_true (by rfl)) (by rfl) (by rfl) (by rfl)) _ (by rfl))
              · exact coreG_skip _ _ _ _ _ _ (by rfl) (by rfl) (wants_core 19 69 19 _ _ _ (by rfl) (by rfl) (by rfl) (known_core 19 69 _ _ (of_decide_eq_true (by rfl)) (by rfl) (by rfl) (by rfl)) _ (by rfl))
              · exact coreG_skip _ _ _ _ _ _ (by rfl) (by rfl) (wants_core 19 69 19 _ _ _ (by rfl) (by rfl) (by rfl) (known_core 19 69 _ _ (of_decide_eq_true (by rfl)) (by rfl) (by rfl) (by rfl)) _ (by rfl))
              · exact coreG_skip _ _ _ _ _ _ (by rfl) (by rfl) (wants_core 19 69 19 _ _ _ (by rfl) (by rfl) (by rfl) (known_core 19 69 _ _ (of_decide_eq_true (by rfl)) (by rfl) (by rfl) (by rfl)) _ (by rfl))
              · exact coreG_skip _ _ _ _ _ _ (by rfl) (by rfl) (wants_core 19 69 19 _ _ _ (by rfl) (by rfl) (by rfl) (known_core 19 69 _ _ (of_decide_eq_true (by rfl)) (by rfl) (by rfl) (by rfl)) _ (by rfl))
              · exact coreG_skip _ _ _ _ _ _ (by rfl) (by rfl) (wants_core 19 69 19 _ _ _ (by rfl) (by rfl) (by rfl) (known_core 19 69 _ _ (of_decide_eq_true (by rfl)) (by rfl) (by rfl) (by rfl)) _ (by rfl))
              · exact coreG_skip _ _ _ _ _ _ (by rfl) (by rfl) (wants_core 19 69 19 _ _ _ (by rfl) (by rfl) (by rfl) (known_core 19 69 _ _ (of_decide_eq_true (by rfl)) (by rfl) (by rfl) (by rfl)) _ (by rfl))
              · exact coreG_skip _ _ _ _ _ _ (by rfl) (by rfl) (wants_core 19 69 19 _ _ _ (by rfl) (by rfl) (by rfl) (known_core 19 69 _ _ (of_decide_eq_true (by rfl)) (by rfl) (by rfl) (by rfl)) _ (by rfl))
              · exact coreG_skip _ _ _ _ _ _ (by rfl) (by rfl) (wants_core 19 69 19 _ _ _ (by rfl) (by rfl) (by rfl) (known_core 19 69 _ _ (of_decide_eq_true (by rfl)) (by rfl) (by rfl) (by rfl)) _ (by rfl))
              · exact coreG_pick _ _ _ _ _ _ _ _ _ _ _ _ (by rfl) (by rfl) (wants_core 16 66 16 _ _ _ (by rfl) (by rfl) (by rfl) (known_core 16 66 _ _ (of_decide_eq_true (by rfl)) (by rfl) (by rfl) (by rfl)) _ (by rfl)) (known_core 19 69 _ _ (of_decide_eq_true (by rfl)) (by rfl) (by rfl) (by rfl)) (known_core 34 84 _ _ (of_decide_eq_true (by rfl)) (by rfl) (by rfl) (by rfl)) (known_const _) (by rfl)
              · exact coreG_pick _ _ _ _ _ _ _ _ _ _ _ _ (by rfl) (by rfl) (wants_none) (known_core 16 66 _ _ (of_decide_eq_true (by rfl)) (by rfl) (by rfl) (by rfl)) (known_const _) (known_core 35 85 _ _ (of_decide_eq_true (by rfl)) (by rfl) (by rfl) (by rfl)) (by rfl)
            · refine all_cons ?_ (all_cons ?_ (all_cons ?_ (all_cons ?_ (all_cons ?_ (all_cons ?_ (all_cons ?_ (all_cons ?_ (all_cons ?_ (all_cons ?_ (all_cons ?_ (all_cons ?_ (all_cons ?_ (all_cons ?_ (all_cons ?_ (all_cons ?_ (all_cons ?_ (all_cons ?_ (all_cons ?_ (all_cons ?_ (all_cons ?_ (all_cons ?_ (all_cons ?_ (all_cons ?_ (all_cons ?_ (all_cons ?_ (all_cons ?_ (all_cons ?_ (all_cons ?_ (all_cons ?_ (all_cons ?_ (all_cons ?_ (all_cons ?_ (all_cons ?_ (all_cons ?_ (all_cons ?_ (all_cons ?_ (all_nil)))))))))))))))))))))))))))))))))))))
              · exact core_stepAs _ (by rfl)
              · exact core_stepAs _ (by rfl)
              · exact core_stepAs _ (by rfl)
              · exact core_stepAs _ (by rfl)
              · exact fun _ => coreG_call _ 19 _ _ [.const (.int .u64 0)] _ _ _ _ _ _ _ (by rfl) Try.func19 (by kernel_rfl) (by rfl) (by rfl) (wants_core 2 52 2 _ _ _ (by rfl) (by rfl) (by rfl) (known_core 2 52 _ _ (of_decide_eq_true (by rfl)) (by rfl) (by rfl) (by rfl)) _ (by rfl)) (.cons (known_const _) .nil) (HO0.out)
              · exact core_stepAs _ (by rfl)
              · exact core_stepAs _ (by rfl)
              · exact core_stepAs _ (by rfl)
              · exact core_stepAs _ (by rfl)
              · exact core_stepAs _ (by rfl)
              · exact core_stepAs _ (by rfl)
              · exact core_stepAs _ (by rfl)
              · exact core_stepAs _ (by rfl)
              · exact fun _ => coreG_callB _ 14 _ _ [.tmp 62] _ _ _ _ _ _ _ (by rfl) Try.func14 (by kernel_rfl) (by rfl) (by rfl) (wants_core 7 57 7 _ _ _ (by rfl) (by rfl) (by rfl) (known_core 7 57 _ _ (of_decide_eq_true (by rfl)) (by rfl) (by rfl) (by rfl)) _ (by rfl)) (.cons (known_core 12 62 _ _ (of_decide_eq_true (by rfl)) (by rfl) (by rfl) (by rfl)) .nil) ((fun u hb => HPA.out u (bel_tr BW.out hb)))
              · exact core_stepAs _ (by rfl)
              · exact core_stepAs _ (by rfl)
              · exact core_stepAs _ (by rfl)
              · exact core_stepAs _ (by rfl)
              · exact core_stepAs _ (by rfl)
              · exact core_stepAs _ (by rfl)
              · exact core_stepAs _ (by rfl)
              · exact core_stepAs _ (by rfl)
              · exact core_stepAs _ (by rfl)
              · exact core_stepAs _ (by rfl)
              · exact core_stepAs _ (by rfl)
              · exact core_stepAs _ (by rfl)
              · exact core_stepAs _ (by rfl)
              · exact core_stepAs _ (by rfl)
              · exact core_stepAs _ (by rfl)
              · exact core_stepAs _ (by rfl)
              · exact core_stepAs _ (by rfl)
              · exact core_stepAs _ (by rfl)
              · exact core_stepAs _ (by rfl)
              · exact core_stepAs _ (by rfl)
              · exact core_stepAs _ (by rfl)
              · exact core_stepAs _ (by rfl)
              · exact core_stepAs _ (by rfl)
            intro vs y7 hc
            obtain ⟨vv0, vv1, vv2, vv3, vv4, vv5, vv6, vv7, vv8, vv9, vv10, vv11, vv12, vv13, vv14, vv15, vv16, vv17, vv18, vv19, vv20, vv21, vv22, vv23, vv24, vv25, vv26, vv27, vv28, vv29, vv30, vv31, vv32, vv33, vv34, vv35, vv36, rfl⟩ := len37 vs hc.lv
            have qq0 : vv0 = .int .i64 0 := by obtain ⟨xx, hx, hy⟩ := hc.ok 0 _ rfl rfl; exact (Option.some.inj (show some vv0 = some xx from hx)).trans hy
            have qq1 : vv1 = .bool false := by obtain ⟨xx, hx, hy⟩ := hc.ok 1 _ rfl rfl; exact (Option.some.inj (show some vv1 = some xx from hx)).trans hy
            have qq2 : vv2 = .bool false := by obtain ⟨xx, hx, hy⟩ := hc.ok 2 _ rfl rfl; exact (Option.some.inj (show some vv2 = some xx from hx)).trans hy
            have qq3 : vv3 = .agg #[.int .u64 (wd 0 0 : Nat), .int .u64 (wd 0 1 : Nat), .int .u64 (wd 0 2 : Nat), .int .u64 (wd 0 3 : Nat)] := by obtain ⟨xx, hx, hy⟩ := hc.ok 3 _ rfl rfl; exact (Option.some.inj (show some vv3 = some xx from hx)).trans hy
            have qq4 : vv4 = .agg #[.int .u64 (wd 0 0 : Nat), .int .u64 (wd 0 1 : Nat), .int .u64 (wd 0 2 : Nat), .int .u64 (wd 0 3 : Nat)] := by obtain ⟨xx, hx, hy⟩ := hc.ok 4 _ rfl rfl; exact (Option.some.inj (show some vv4 = some xx from hx)).trans hy
            have qq5 : vv5 = .bool false := by obtain ⟨xx, hx, hy⟩ := hc.ok 5 _ rfl rfl; exact (Option.some.inj (show some vv5 = some xx from hx)).trans hy
            have qq6 : vv6 = .bool false := by obtain ⟨xx, hx, hy⟩ := hc.ok 6 _ rfl rfl; exact (Option.some.inj (show some vv6 = some xx from hx)).trans hy
            have qq7 : vv7 = .bool false := by obtain ⟨xx, hx, hy⟩ := hc.ok 7 _ rfl rfl; exact (Option.some.inj (show some vv7 = some xx from hx)).trans hy
            have qq8 : vv8 = .pointer (some ⟨gr, 8, none⟩) := by obtain ⟨xx, hx, hy⟩ := hc.ok 8 _ rfl rfl; exact (Option.some.inj (show some vv8 = some xx from hx)).trans hy
            have qq9 : vv9 = .slice (some ⟨gs, os, none⟩) l cap := by obtain ⟨xx, hx, hy⟩ := hc.ok 9 _ rfl rfl; exact (Option.some.inj (show some vv9 = some xx from hx)).trans hy
            have qq10 : vv10 = .int .i64 (i : Nat) := by obtain ⟨xx, hx, hy⟩ := hc.ok 10 _ rfl rfl; exact (Option.some.inj (show some vv10 = some xx from hx)).trans hy
            have qq11 : vv11 = .pointer (some ⟨gs, os + i * 9, none⟩) := by obtain ⟨xx, hx, hy⟩ := hc.ok 11 _ rfl rfl; exact (Option.some.inj (show some vv11 = some xx from hx)).trans hy
            have qq12 : vv12 = .agg #[.int .u64 (wd q 0 : Nat), .int .u64 (wd q 1 : Nat), .int .u64 (wd q 2 : Nat), .int .u64 (wd q 3 : Nat), .int .u64 (wd y2 0 : Nat), .int .u64 (wd y2 1 : Nat), .int .u64 (wd y2 2 : Nat), .int .u64 (wd y2 3 : Nat), .slice a2 l2 cap2] := by obtain ⟨xx, hx, hy⟩ := hc.ok 12 _ rfl rfl; exact (Option.some.inj (show some vv12 = some xx from hx)).trans hy
            have qq13 : vv13 = .bool true := by obtain ⟨xx, hx, hy⟩ := hc.ok 13 _ rfl rfl; exact (Option.some.inj (show some vv13 = some xx from hx)).trans hy
            have qq14 : vv14 = .bool false := by obtain ⟨xx, hx, hy⟩ := hc.ok 14 _ rfl rfl; exact (Option.some.inj (show some vv14 = some xx from hx)).trans hy
            have qq15 : vv15 = .bool false := by obtain ⟨xx, hx, hy⟩ := hc.ok 15 _ rfl rfl; exact (Option.some.inj (show some vv15 = some xx from hx)).trans hy
            have qq16 : vv16 = .bool false := by obtain ⟨xx, hx, hy⟩ := hc.ok 16 _ rfl rfl; exact (Option.some.inj (show some vv16 = some xx from hx)).trans hy
            have qq17 : vv17 = .int .i64 (i : Nat) := by obtain ⟨xx, hx, hy⟩ := hc.ok 17 _ rfl rfl; exact (Option.some.inj (show some vv17 = some xx from hx)).trans hy
            have qq18 : vv18 = .bool false := by obtain ⟨xx, hx, hy⟩ := hc.ok 18 _ rfl rfl; exact (Option.some.inj (show some vv18 = some xx from hx)).trans hy
            have qq19 : vv19 = .bool false := by obtain ⟨xx, hx, hy⟩ := hc.ok 19 _ rfl rfl; exact (Option.some.inj (show some vv19 = some xx from hx)).trans hy
            have qq20 : vv20 = undef := by obtain ⟨xx, hx, hy⟩ := hc.ok 20 _ rfl rfl; exact (Option.some.inj (show some vv20 = some xx from hx)).trans hy
            have qq21 : vv21 = undef := by obtain ⟨xx, hx, hy⟩ := hc.ok 21 _ rfl rfl; exact (Option.some.inj (show some vv21 = some xx from hx)).trans hy
            have qq22 : vv22 = undef := by obtain ⟨xx, hx, hy⟩ := hc.ok 22 _ rfl rfl; exact (Option.some.inj (show some vv22 = some xx from hx)).trans hy
            have qq23 : vv23 = undef := by obtain ⟨xx, hx, hy⟩ := hc.ok 23 _ rfl rfl; exact (Option.some.inj (show some vv23 = some xx from hx)).trans hy
            have qq24 : vv24 = undef := by obtain ⟨xx, hx, hy⟩ := hc.ok 24 _ rfl rfl; exact (Option.some.inj (show some vv24 = some xx from hx)).trans hy
            have qq25 : vv25 = undef := by obtain ⟨xx, hx, hy⟩ := hc.ok 25 _ rfl rfl; exact (Option.some.inj (show some vv25 = some xx from hx)).trans hy
            have qq26 : vv26 = undef := by obtain ⟨xx, hx, hy⟩ := hc.ok 26 _ rfl rfl; exact (Option.some.inj (show some vv26 = some xx from hx)).trans hy
            have qq27 : vv27 = undef := by obtain ⟨xx, hx, hy⟩ := hc.ok 27 _ rfl rfl; exact (Option.some.inj (show some vv27 = some xx from hx)).trans hy
            have qq28 : vv28 = undef := by obtain ⟨xx, hx, hy⟩ := hc.ok 28 _ rfl rfl; exact (Option.some.inj (show some vv28 = some xx from hx)).trans hy
            have qq29 : vv29 = undef := by obtain ⟨xx, hx, hy⟩ := hc.ok 29 _ rfl rfl; exact (Option.some.inj (show some vv29 = some xx from hx)).trans hy
            have qq30 : vv30 = undef := by obtain ⟨xx, hx, hy⟩ := hc.ok 30 _ rfl rfl; exact (Option.some.inj (show some vv30 = some xx from hx)).trans hy
            have qq31 : vv31 = undef := by obtain ⟨xx, hx, hy⟩ := hc.ok 31 _ rfl rfl; exact (Option.some.inj (show some vv31 = some xx from hx)).trans hy
            have qq32 : vv32 = undef := by obtain ⟨xx, hx, hy⟩ := hc.ok 32 _ rfl rfl; exact (Option.some.inj (show some vv32 = some xx from hx)).trans hy
            have qq33 : vv33 = undef := by obtain ⟨xx, hx, hy⟩ := hc.ok 33 _ rfl rfl; exact (Option.some.inj (show some vv33 = some xx from hx)).trans hy
            have qq34 : vv34 = undef := by obtain ⟨xx, hx, hy⟩ := hc.ok 34 _ rfl rfl; exact (Option.some.inj (show some vv34 = some xx from hx)).trans hy
            have qq35 : vv35 = .bool false := by obtain ⟨xx, hx, hy⟩ := hc.ok 35 _ rfl rfl; exact (Option.some.inj (show some vv35 = some xx from hx)).trans hy
            have qq36 : vv36 = .bool false := by obtain ⟨xx, hx, hy⟩ := hc.ok 36 _ rfl rfl; exact (Option.some.inj (show some vv36 = some xx from hx)).trans hy
            have BZ := hc.bel
            clear hc
            have Nr := Fr.out.on BZ
            have Nm := Fm.out.on BZ
            have Nd := Fd.out.on BZ
            have Nt := Ft.out.on BZ
            have NB := bel_tr BW.out BZ
            clear BW BZ Fr Fm Fd Ft
            subst qq0 qq1 qq2 qq3 qq4 qq5 qq6 qq7 qq8 qq9 qq10 qq11 qq12 qq13 qq14 qq15 qq16 qq17 qq18 qq19 qq20 qq21 qq22 qq23 qq24 qq25 qq26 qq27 qq28 qq29 qq30 qq31 qq32 qq33 qq34 qq35 qq36
            simp only [List.map_cons, List.map_nil, over, Act.put, List.setIfInBounds_toArray, List.set_cons_zero, List.set_cons_succ]
            refine wpAnyH_done (by kernel_rfl) ?_ _
            refine NoPanic.normal ?_
            have Fr := Lib.hid Nr
            have Fm := Lib.hid Nm
            have Fd := Lib.hid Nd
            have Ft := Lib.hid Nt
            have BW := Lib.hid NB
            clear NB Nr Nm Nd Nt
            have hiw := HIW.out
            go_wp2_with fail
            go_roundw
            case measure => (have := HLT.out; simp [intOf]; omega)
            case rel =>
              have hlt := HLT.out
              first
                | exact ⟨i + 1, by omega, by go_num, Fr.out, Fm.out, BW.out, trivial⟩
                | ((repeat apply Exists.intro); exact ⟨⟨i + 1, by omega, by go_num, Fr.out, Fm.out, BW.out, trivial⟩, rfl⟩)
          · obtain ⟨j, hj⟩ : ∃ j, i = j + 1 := ⟨i - 1, by omega⟩
            have hjl : j < ps.length := by rw [HL.out]; have := HLT.out; omega
            obtain ⟨gs3, os3, a3, cap3, q3, y3, l3, ha3, hq31, hq32, hq33, hqb3, hyb3, hs3, hc3⟩ := HS.out.c9 hjl
            obtain ⟨rfl, rfl⟩ : gs3 = gs ∧ os3 = os := by cases ha3; exact ⟨rfl, rfl⟩
            have hlt3 := HRI.out j q3 hj ⟨hjl, hq31⟩
            have HK3 := Lib.hid (fun w => cmp_any q3 q hqb3 HQB.out w)
            have HKL := Lib.hid (cmpN_lt0 hlt3)
            have HC3 := Lib.hid hc3
            have HJL := Lib.hid (show j < l by have := HLT.out; omega)
            have HI0 := Lib.hid (show 0 < i from hi0)
            have HIJ := Lib.hid (show (i : Int) - 1 = (j : Nat) by omega)
            have HJW := Lib.hid (show IntKind.wrap .i64 (j : Int) = (j : Int) by rw [IntKind.wrap_i64]; have := HIW.out; omega)
            clear hi0 hj hjl hq31 hq32 hq33 hqb3 hyb3 hs3 hc3 hlt3 ha3
            generalize cmpN q3 q = k at *
            try simp only [List.append_eq, List.cons_append, List.nil_append]
            refine wp_region_noPanic ?_
            refine wp_region_held_drew (S := fun w' => Below w.heap.size w w' ∧ At w' gt 25 #[.int .u64 (wd 0 0 : Nat), .int .u64 (wd 0 1 : Nat), .int .u64 (wd 0 2 : Nat), .int .u64 (wd 0 3 : Nat)] ∧ At w' gr 28 #[.int .u64 (wd N 0 : Nat), .int .u64 (wd N 1 : Nat), .int .u64 (wd N 2 : Nat), .int .u64 (wd N 3 : Nat), .int .u64 (wd Y 0 : Nat), .int .u64 (wd Y 1 : Nat), .int .u64 (wd Y 2 : Nat), .int .u64 (wd Y 3 : Nat), .slice (some ⟨gs3, os3, none⟩) l cap]) (by kernel_rfl) (⟨BW.out.drew, Ft.out.drew, Fr.out.drew⟩) (fun _ => ?_)
            refine wpAnyH_cores (fuel := 0) (⟨0, 50, [], Kind.val (.int .i64 0), true⟩ :: ⟨1, 51, [0], Kind.val (.bool false), true⟩ :: ⟨2, 52, [1], Kind.val (.bool false), true⟩ :: ⟨3, 53, [2], Kind.val (.agg #[.int .u64 (wd 0 0 : Nat), .int .u64 (wd 0 1 : Nat), .int .u64 (wd 0 2 : Nat), .int .u64 (wd 0 3 : Nat)]), true⟩ :: ⟨4, 54, [2, 3], Kind.val (.agg #[.int .u64 (wd 0 0 : Nat), .int .u64 (wd 0 1 : Nat), .int .u64 (wd 0 2 : Nat), .int .u64 (wd 0 3 : Nat)]), false⟩ :: ⟨5, 55, [2, 3, 4], Kind.val (.bool false), true⟩ :: ⟨6, 56, [2, 5], Kind.val (.bool false), true⟩ :: ⟨7, 57, [6], Kind.val (.bool false), true⟩ :: ⟨8, 58, [7], Kind.val (.pointer (some ⟨gr, 8, none⟩)), true⟩ :: ⟨9, 59, [7, 8], Kind.val (.slice (some ⟨gs3, os3, none⟩) l cap), true⟩ :: ⟨10, 60, [7, 9], Kind.val (.int .i64 (i : Nat)), true⟩ :: ⟨11, 61, [7, 9, 10], Kind.val (.pointer (some ⟨gs3, os3 + i * 9, none⟩)), true⟩ :: ⟨12, 62, [7, 11], Kind.val (.agg #[.int .u64 (wd q 0 : Nat), .int .u64 (wd q 1 : Nat), .int .u64 (wd q 2 : Nat), .int .u64 (wd q 3 : Nat), .int .u64 (wd y2 0 : Nat), .int .u64 (wd y2 1 : Nat), .int .u64 (wd y2 2 : Nat), .int .u64 (wd y2 3 : Nat), .slice a2 l2 cap2]), true⟩ :: ⟨13, 63, [7, 12], Kind.val (.bool true), false⟩ :: ⟨14, 64, [7, 13], Kind.val (.bool false), true⟩ :: ⟨15, 65, [7, 14], Kind.val (.bool false), true⟩ :: ⟨16, 66, [15], Kind.val (.bool false), true⟩ :: ⟨17, 67, [16], Kind.val (.int .i64 (i : Nat)), true⟩ :: ⟨18, 68, [16, 17], Kind.val (.bool true), true⟩ :: ⟨19, 69, [16, 18], Kind.val (.bool true), true⟩ :: ⟨20, 70, [19], Kind.val (.pointer (some ⟨gr, 8, none⟩)), true⟩ :: ⟨21, 71, [19, 20], Kind.val (.slice (some ⟨gs3, os3, none⟩) l cap), true⟩ :: ⟨22, 72, [19, 21], Kind.val (.int .i64 (i : Nat)), true⟩ :: ⟨23, 73, [19, 22], Kind.val (.int .i64 (j : Nat)), true⟩ :: ⟨24, 74, [19, 21, 23], Kind.val (.pointer (some ⟨gs3, os3 + j * 9, none⟩)), true⟩ :: ⟨25, 75, [19, 24], Kind.val (.pointer (some ⟨gs3, os3 + j * 9, none⟩)), true⟩ :: ⟨26, 76, [19, 25], Kind.val (.agg #[.int .u64 (wd q3 0 : Nat), .int .u64 (wd q3 1 : Nat), .int .u64 (wd q3 2 : Nat), .int .u64 (wd q3 3 : Nat)]), true⟩ :: ⟨27, 77, [19, 26], Kind.val (.pointer (some ⟨gr, 8, none⟩)), true⟩ :: ⟨28, 78, [19, 27], Kind.val (.slice (some ⟨gs3, os3, none⟩) l cap), true⟩ :: ⟨29, 79, [19, 28], Kind.val (.int .i64 (i : Nat)), true⟩ :: ⟨30, 80, [19, 28, 29], Kind.val (.pointer (some ⟨gs3, os3 + i * 9, none⟩)), true⟩ :: ⟨31, 81, [19, 30], Kind.val (.pointer (some ⟨gs3, os3 + i * 9, none⟩)), true⟩ :: ⟨32, 82, [19, 31], Kind.val (.agg #[.int .u64 (wd q 0 : Nat), .int .u64 (wd q 1 : Nat), .int .u64 (wd q 2 : Nat), .int .u64 (wd q 3 : Nat)]), true⟩ :: ⟨33, 83, [19, 26, 32], Kind.val (.int .i64 k), false⟩ :: ⟨34, 84, [19, 33], Kind.val (.bool false), true⟩ :: ⟨35, 85, [16, 19, 34], Kind.val (.bool false), true⟩ :: ⟨36, 86, [16, 35], Kind.val (.bool false), true⟩ :: []) _ _ y6_15 _ ?_ ?_ ?_ ?_ ?_ ?_ ?_ ?_ ?_ ?_ ?_
            · rfl
            · kernel_rfl
            · exact of_decide_eq_true (by kernel_rfl)
            · exact all_cons ⟨_, by rfl, by rfl⟩ (all_cons ⟨_, by rfl, by rfl⟩ (all_cons ⟨_, by rfl, by rfl⟩ (all_cons ⟨_, by rfl, by rfl⟩ (all_cons ⟨_, by rfl, by rfl⟩ (all_cons ⟨_, by rfl, by rfl⟩ (all_cons ⟨_, by rfl, by rfl⟩ (all_cons ⟨_, by rfl, by rfl⟩ (all_cons ⟨_, by rfl, by rfl⟩ (all_cons ⟨_, by rfl, by rfl⟩ (all_cons ⟨_, by rfl, by rfl⟩ (all_cons ⟨_, by rfl, by rfl⟩ (all_cons ⟨_, by rfl, by rfl⟩ (all_cons ⟨_, by rfl, by rfl⟩ (all_cons ⟨_, by rfl, by rfl⟩ (all_cons ⟨_, by rfl, by rfl⟩ (all_cons ⟨_, by rfl, by rfl⟩ (all_cons ⟨_, by rfl, by rfl⟩ (all_cons ⟨_, by rfl, by rfl⟩ (all_cons ⟨_, by rfl, by rfl⟩ (all_cons ⟨_, by rfl, by rfl⟩ (all_cons ⟨_, by rfl, by rfl⟩ (all_cons ⟨_, by rfl, by rfl⟩ (all_cons ⟨_, by rfl, by rfl⟩ (all_cons ⟨_, by rfl, by rfl⟩ (all_cons ⟨_, by rfl, by rfl⟩ (all_cons ⟨_, by rfl, by rfl⟩ (all_cons ⟨_, by rfl, by rfl⟩ (all_cons ⟨_, by rfl, by rfl⟩ (all_cons ⟨_, by rfl, by rfl⟩ (all_cons ⟨_, by rfl, by rfl⟩ (all_cons ⟨_, by rfl, by rfl⟩ (all_cons ⟨_, by rfl, by rfl⟩ (all_cons ⟨_, by rfl, by rfl⟩ (all_cons ⟨_, by rfl, by rfl⟩ (all_cons ⟨_, by rfl, by rfl⟩ (all_cons ⟨_, by rfl, by rfl⟩ (all_nil)))))))))))))))))))))))))))))))))))))
            · exact fun _ hb => ⟨bel_tr BW.out hb, Ft.out.on hb, Fr.out.on hb⟩
            · exact (Below.refl _ _).drew
            · kernel_rfl
            · exact fun _ _ _ _ _ h => h
            · refine all_cons ?_ (all_cons ?_ (all_cons ?_ (all_cons ?_ (all_cons ?_ (all_cons ?_ (all_cons ?_ (all_cons ?_ (all_cons ?_ (all_cons ?_ (all_cons ?_ (all_cons ?_ (all_cons ?_ (all_cons ?_ (all_cons ?_ (all_cons ?_ (all_cons ?_ (all_cons ?_ (all_cons ?_ (all_cons ?_ (all_cons ?_ (all_cons ?_ (all_cons ?_ (all_cons ?_ (all_cons ?_ (all_cons ?_ (all_cons ?_ (all_cons ?_ (all_cons ?_ (all_cons ?_ (all_cons ?_ (all_cons ?_ (all_cons ?_ (all_cons ?_ (all_cons ?_ (all_cons ?_ (all_cons ?_ (all_nil)))))))))))))))))))))))))))))))))))))
              · exact coreG_move _ _ _ _ _ _ _ (by rfl) (by rfl) (wants_none) (known_old 8 _ (of_decide_eq_true (by rfl)) (by rfl))
              · exact coreG_bin _ _ _ _ _ _ _ _ _ _ _ _ _ (by rfl) (by rfl) (wants_none) (known_core 0 50 _ _ (of_decide_eq_true (by rfl)) (by rfl) (by rfl) (by rfl)) (known_const _) ((fun ρ w hx hy => by simp only [execOp, hx, hy]; simp [go_sem]))
              · exact coreG_move _ _ _ _ _ _ _ (by rfl) (by rfl) (wants_none) (known_core 1 51 _ _ (of_decide_eq_true (by rfl)) (by rfl) (by rfl) (by rfl))
              · exact coreG_loadP _ _ _ _ _ _ gt _ _ _ _ (by rfl) (by rfl) (wants_core 2 52 2 _ _ _ (by rfl) (by rfl) (by rfl) (known_core 2 52 _ _ (of_decide_eq_true (by rfl)) (by rfl) (by rfl) (by rfl)) _ (by rfl)) (known_old 7 _ (of_decide_eq_true (by rfl)) (by rfl)) (fun _ hs => hs.2.1)
              · exact core_pureAs _ (by rfl)
              · exact coreG_bin _ _ _ _ _ _ _ _ _ _ _ _ _ (by rfl) (by rfl) (wants_core 2 52 2 _ _ _ (by rfl) (by rfl) (by rfl) (known_core 2 52 _ _ (of_decide_eq_true (by rfl)) (by rfl) (by rfl) (by rfl)) _ (by rfl)) (known_core 3 53 _ _ (of_decide_eq_true (by rfl)) (by rfl) (by rfl) (by rfl)) (known_core 4 54 _ _ (of_decide_eq_true (by rfl)) (by rfl) (by rfl) (by rfl)) (neq_run true _ _ _ _ _ _ _ _ _ _ _ _ _ _ _ (HE0.out))
              · exact coreG_pick _ _ _ _ _ _ _ _ _ _ _ _ (by rfl) (by rfl) (wants_none) (known_core 2 52 _ _ (of_decide_eq_true (by rfl)) (by rfl) (by rfl) (by rfl)) (known_const _) (known_core 5 55 _ _ (of_decide_eq_true (by rfl)) (by rfl) (by rfl) (by rfl)) (by rfl)
              · exact coreG_move _ _ _ _ _ _ _ (by rfl) (by rfl) (wants_none) (known_core 6 56 _ _ (of_decide_eq_true (by rfl)) (by rfl) (by rfl) (by rfl))
              · exact coreG_held _ _ _ _ _ _ _ _ _ (by rfl) (by rfl) (wants_core 7 57 7 _ _ _ (by rfl) (by rfl) (by rfl) (known_core 7 57 _ _ (of_decide_eq_true (by rfl)) (by rfl) (by rfl) (by rfl)) _ (by rfl)) (known_old 1 _ (of_decide_eq_true (by rfl)) (by rfl)) (fun ρ w hx _ => fieldR2 _ _ _ _ _ _ ρ w gr hx)
              · exact coreG_held _ _ _ _ _ _ _ _ _ (by rfl) (by rfl) (wants_core 7 57 7 _ _ _ (by rfl) (by rfl) (by rfl) (known_core 7 57 _ _ (of_decide_eq_true (by rfl)) (by rfl) (by rfl) (by rfl)) _ (by rfl)) (known_core 8 58 _ _ (of_decide_eq_true (by rfl)) (by rfl) (by rfl) (by rfl)) (fun ρ w hx hs => loadR2 _ _ _ _ _ _ ρ w gr _ _ _ _ _ _ _ _ _ hx (hs.2.2))
              · exact coreG_move _ _ _ _ _ _ _ (by rfl) (by rfl) (wants_core 7 57 7 _ _ _ (by rfl) (by rfl) (by rfl) (known_core 7 57 _ _ (of_decide_eq_true (by rfl)) (by rfl) (by rfl) (by rfl)) _ (by rfl)) (known_old 5 _ (of_decide_eq_true (by rfl)) (by rfl))
              · exact coreG_held2 _ _ _ _ _ _ _ _ _ _ _ (by rfl) (by rfl) (wants_core 7 57 7 _ _ _ (by rfl) (by rfl) (by rfl) (known_core 7 57 _ _ (of_decide_eq_true (by rfl)) (by rfl) (by rfl) (by rfl)) _ (by rfl)) (known_core 9 59 _ _ (of_decide_eq_true (by rfl)) (by rfl) (by rfl) (by rfl)) (known_core 10 60 _ _ (of_decide_eq_true (by rfl)) (by rfl) (by rfl) (by rfl)) (fun ρ w hx hy _ => idxR _ _ _ _ _ _ _ ρ w gs3 os3 i l cap HLT.out hx hy)
              · exact coreG_held _ _ _ _ _ _ _ _ _ (by rfl) (by rfl) (wants_core 7 57 7 _ _ _ (by rfl) (by rfl) (by rfl) (known_core 7 57 _ _ (of_decide_eq_true (by rfl)) (by rfl) (by rfl) (by rfl)) _ (by rfl)) (known_core 11 61 _ _ (of_decide_eq_true (by rfl)) (by rfl) (by rfl) (by rfl)) (fun ρ w hx hs => loadC _ _ _ _ _ _ ρ w gs3 _ q y2 _ hx (HC.out _ hs.1))
              · exact core_pureAs _ (by rfl)
              · exact coreG_un _ _ _ _ _ _ _ _ _ _ (by rfl) (by rfl) (wants_core 7 57 7 _ _ _ (by rfl) (by rfl) (by rfl) (known_core 7 57 _ _ (of_decide_eq_true (by rfl)) (by rfl) (by rfl) (by rfl)) _ (by rfl)) (known_core 13 63 _ _ (of_decide_eq_true (by rfl)) (by rfl) (by rfl) (by rfl)) (fun ρ w hx => by simp only [execOp, hx]; simp [go_sem])
              · exact coreG_pick _ _ _ _ _ _ _ _ _ _ _ _ (by rfl) (by rfl) (wants_none) (known_core 7 57 _ _ (of_decide_eq_true (by rfl)) (by rfl) (by rfl) (by rfl)) (known_const _) (known_core 14 64 _ _ (of_decide_eq_true (by rfl)) (by rfl) (by rfl) (by rfl)) (by rfl)
              · exact coreG_move _ _ _ _ _ _ _ (by rfl) (by rfl) (wants_none) (known_core 15 65 _ _ (of_decide_eq_true (by rfl)) (by rfl) (by rfl) (by rfl))
              · exact coreG_move _ _ _ _ _ _ _ (by rfl) (by rfl) (wants_core 16 66 16 _ _ _ (by rfl) (by rfl) (by rfl) (known_core 16 66 _ _ (of_decide_eq_true (by rfl)) (by rfl) (by rfl) (by rfl)) _ (by rfl)) (known_old 5 _ (of_decide_eq_true (by rfl)) (by rfl))
              · exact coreG_bin _ _ _ _ _ _ _ _ _ _ _ _ _ (by rfl) (by rfl) (wants_core 16 66 16 _ _ _ (by rfl) (by rfl) (by rfl) (known_core 16 66 _ _ (of_decide_eq_true (by rfl)) (by rfl) (by rfl) (by rfl)) _ (by rfl)) (known_core 17 67 _ _ (of_decide_eq_true (by rfl)) (by rfl) (by rfl) (by rfl)) (known_const _) ((fun ρ w hx hy => by simp only [execOp, hx, hy]; simp [go_sem, HI0.out]))
              · exact coreG_move _ _ _ _ _ _ _ (by rfl) (by rfl) (wants_core 16 66 16 _ _ _ (by rfl) (by rfl) (by rfl) (known_core 16 66 _ _ (of_decide_eq_true (by rfl)) (by rfl) (by rfl) (by rfl)) _ (by rfl)) (known_core 18 68 _ _ (of_decide_eq_true (by rfl)) (by rfl) (by rfl) (by rfl))
              · exact coreG_held _ _ _ _ _ _ _ _ _ (by rfl) (by rfl) (wants_core 19 69 19 _ _ _ (by rfl) (by rfl) (by rfl) (known_core 19 69 _ _ (of_decide_eq_true (by rfl)) (by rfl) (by rfl) (by rfl)) _ (by rfl)) (known_old 1 _ (of_decide_eq_true (by rfl)) (by rfl)) (fun ρ w hx _ => fieldR2 _ _ _ _ _ _ ρ w gr hx)
              · exact coreG_held _ _ _ _ _ _ _ _ _ (by rfl) (by rfl) (wants_core 19 69 19 _ _ _ (by rfl) (by rfl) (by rfl) (known_core 19 69 _ _ (of_decide_eq_true (by rfl)) (by rfl) (by rfl) (by rfl)) _ (by rfl)) (known_core 20 70 _ _ (of_decide_eq_true (by rfl)) (by rfl) (by rfl) (by rfl)) (fun ρ w hx hs => loadR2 _ _ _ _ _ _ ρ w gr _ _ _ _ _ _ _ _ _ hx (hs.2.2))
              · exact coreG_move _ _ _ _ _ _ _ (by rfl) (by rfl) (wants_core 19 69 19 _ _ _ (by rfl) (by rfl) (by rfl) (known_core 19 69 _ _ (of_decide_eq_true (by rfl)) (by rfl) (by rfl) (by rfl)) _ (by rfl)) (known_old 5 _ (of_decide_eq_true (by rfl)) (by rfl))
              · exact coreG_bin _ _ _ _ _ _ _ _ _ _ _ _ _ (by rfl) (by rfl) (wants_core 19 69 19 _ _ _ (by rfl) (by rfl) (by rfl) (known_core 19 69 _ _ (of_decide_eq_true (by rfl)) (by rfl) (by rfl) (by rfl)) _ (by rfl)) (known_core 22 72 _ _ (of_decide_eq_true (by rfl)) (by rfl) (by rfl) (by rfl)) (known_const _) ((fun ρ w hx hy => by simp only [execOp, hx, hy]; simp [go_sem, HIJ.out, HJW.out]))
              · exact coreG_held2 _ _ _ _ _ _ _ _ _ _ _ (by rfl) (by rfl) (wants_core 19 69 19 _ _ _ (by rfl) (by rfl) (by rfl) (known_core 19 69 _ _ (of_decide_eq_true (by rfl)) (by rfl) (by rfl) (by rfl)) _ (by rfl)) (known_core 21 71 _ _ (of_decide_eq_true (by rfl)) (by rfl) (by rfl) (by rfl)) (known_core 23 73 _ _ (of_decide_eq_true (by rfl)) (by rfl) (by rfl) (by rfl)) (fun ρ w hx hy _ => idxR _ _ _ _ _ _ _ ρ w gs3 os3 j l cap HJL.out hx hy)
              · exact coreG_held _ _ _ _ _ _ _ _ _ (by rfl) (by rfl) (wants_core 19 69 19 _ _ _ (by rfl) (by rfl) (by rfl) (known_core 19 69 _ _ (of_decide_eq_true (by rfl)) (by rfl) (by rfl) (by rfl)) _ (by rfl)) (known_core 24 74 _ _ (of_decide_eq_true (by rfl)) (by rfl) (by rfl) (by rfl)) (fun ρ w hx _ => fieldC0 _ _ _ _ _ _ ρ w gs3 _ hx)
              · exact coreG_held _ _ _ _ _ _ _ _ _ (by rfl) (by rfl) (wants_core 19 69 19 _ _ _ (by rfl) (by rfl) (by rfl) (known_core 19 69 _ _ (of_decide_eq_true (by rfl)) (by rfl) (by rfl) (by rfl)) _ (by rfl)) (known_core 25 75 _ _ (of_decide_eq_true (by rfl)) (by rfl) (by rfl) (by rfl)) (fun ρ w hx hs => loadC0 _ _ _ _ _ _ ρ w gs3 _ q3 y3 _ hx (HC3.out _ hs.1))
              · exact coreG_held _ _ _ _ _ _ _ _ _ (by rfl) (by rfl) (wants_core 19 69 19 _ _ _ (by rfl) (by rfl) (by rfl) (known_core 19 69 _ _ (of_decide_eq_true (by rfl)) (by rfl) (by rfl) (by rfl)) _ (by rfl)) (known_old 1 _ (of_decide_eq_true (by rfl)) (by rfl)) (fun ρ w hx _ => fieldR2 _ _ _ _ _ _ ρ w gr hx)
              · exact coreG_held _ _ _ _ _ _ _ _ _ (by rfl) (by rfl) (wants_core 19 69 19 _ _ _ (by rfl) (by rfl) (by rfl) (known_core 19 69 _ _ (of_decide_eq_true (by rfl)) (by rfl) (by rfl) (by rfl)) _ (by rfl)) (known_core 27 77 _ _ (of_decide_eq_true (by rfl)) (by rfl) (by rfl) (by rfl)) (fun ρ w hx hs => loadR2 _ _ _ _ _ _ ρ w gr _ _ _ _ _ _ _ _ _ hx (hs.2.2))
              · exact coreG_move _ _ _ _ _ _ _ (by rfl) (by rfl) (wants_core 19 69 19 _ _ _ (by rfl) (by rfl) (by rfl) (known_core 19 69 _ _ (of_decide_eq_true (by rfl)) (by rfl) (by rfl) (by rfl)) _ (by rfl)) (known_old 5 _ (of_decide_eq_true (by rfl)) (by rfl))
              · exact coreG_held2 _ _ _ _ _ _ _ _ _ _ _ (by rfl) (by rfl) (wants_core 19 69 19 _ _ _ (by rfl) (by rfl) (by rfl) (known_core 19 69 _ _ (of_decide_eq_true (by rfl)) (by rfl) (by rfl) (by rfl)) _ (by rfl)) (known_core 28 78 _ _ (of_decide_eq_true (by rfl)) (by rfl) (by rfl) (by rfl)) (known_core 29 79 _ _ (of_decide_eq_true (by rfl)) (by rfl) (by rfl) (by rfl)) (fun ρ w hx hy _ => idxR _ _ _ _ _ _ _ ρ w gs3 os3 i l cap HLT.out hx hy)
              · exact coreG_held _ _ _ _ _ _ _ _ _ (by rfl) (by rfl) (wants_core 19 69 19 _ _ _ (by rfl) (by rfl) (by rfl) (known_core 19 69 _ _ (of_decide_eq_true (by rfl)) (by rfl) (by rfl) (by rfl)) _ (by rfl)) (known_core 30 80 _ _ (of_decide_eq_true (by rfl)) (by rfl) (by rfl) (by rfl)) (fun ρ w hx _ => fieldC0 _ _ _ _ _ _ ρ w gs3 _ hx)
              · exact coreG_held _ _ _ _ _ _ _ _ _ (by rfl) (by rfl) (wants_core 19 69 19 _ _ _ (by rfl) (by rfl) (by rfl) (known_core 19 69 _ _ (of_decide_eq_true (by rfl)) (by rfl) (by rfl) (by rfl)) _ (by rfl)) (known_core 31 81 _ _ (of_decide_eq_true (by rfl)) (by rfl) (by rfl) (by rfl)) (fun ρ w hx hs => loadC0 _ _ _ _ _ _ ρ w gs3 _ q y2 _ hx (HC.out _ hs.1))
              · exact core_pureAs _ (by rfl)
              · exact coreG_bin _ _ _ _ _ _ _ _ _ _ _ _ _ (by rfl) (by rfl) (wants_core 19 69 19 _ _ _ (by rfl) (by rfl) (by rfl) (known_core 19 69 _ _ (of_decide_eq_true (by rfl)) (by rfl) (by rfl) (by rfl)) _ (by rfl)) (known_core 33 83 _ _ (of_decide_eq_true (by rfl)) (by rfl) (by rfl) (by rfl)) (known_const _) ((fun ρ w hx hy => by simp only [execOp, hx, hy]; simp [go_sem, HKL.out]))
              · exact coreG_pick _ _ _ _ _ _ _ _ _ _ _ _ (by rfl) (by rfl) (wants_core 16 66 16 _ _ _ (by rfl) (by rfl) (by rfl) (known_core 16 66 _ _ (of_decide_eq_true (by rfl)) (by rfl) (by rfl) (by rfl)) _ (by rfl)) (known_core 19 69 _ _ (of_decide_eq_true (by rfl)) (by rfl) (by rfl) (by rfl)) (known_core 34 84 _ _ (of_decide_eq_true (by rfl)) (by rfl) (by rfl) (by rfl)) (known_const _) (by rfl)
              · exact coreG_pick _ _ _ _ _ _ _ _ _ _ _ _ (by rfl) (by rfl) (wants_none) (known_core 16 66 _ _ (of_decide_eq_true (by rfl)) (by rfl) (by rfl) (by rfl)) (known_const _) (known_core 35 85 _ _ (of_decide_eq_true (by rfl)) (by rfl) (by rfl) (by rfl)) (by rfl)
            · refine all_cons ?_ (all_cons ?_ (all_cons ?_ (all_cons ?_ (all_cons ?_ (all_cons ?_ (all_cons ?_ (all_cons ?_ (all_cons ?_ (all_cons ?_ (all_cons ?_ (all_cons ?_ (all_cons ?_ (all_cons ?_ (all_cons ?_ (all_cons ?_ (all_cons ?_ (all_cons ?_ (all_cons ?_ (all_cons ?_ (all_cons ?_ (all_cons ?_ (all_cons ?_ (all_cons ?_ (all_cons ?_ (all_cons ?_ (all_cons ?_ (all_cons ?_ (all_cons ?_ (all_cons ?_ (all_cons ?_ (all_cons ?_ (all_cons ?_ (all_cons ?_ (all_cons ?_ (all_cons ?_ (all_cons ?_ (all_nil)))))))))))))))))))))))))))))))))))))
              · exact core_stepAs _ (by rfl)
              · exact core_stepAs _ (by rfl)
              · exact core_stepAs _ (by rfl)
              · exact core_stepAs _ (by rfl)
              · exact fun _ => coreG_call _ 19 _ _ [.const (.int .u64 0)] _ _ _ _ _ _ _ (by rfl) Try.func19 (by kernel_rfl) (by rfl) (by rfl) (wants_core 2 52 2 _ _ _ (by rfl) (by rfl) (by rfl) (known_core 2 52 _ _ (of_decide_eq_true (by rfl)) (by rfl) (by rfl) (by rfl)) _ (by rfl)) (.cons (known_const _) .nil) (HO0.out)
              · exact core_stepAs _ (by rfl)
              · exact core_stepAs _ (by rfl)
              · exact core_stepAs _ (by rfl)
              · exact core_stepAs _ (by rfl)
              · exact core_stepAs _ (by rfl)
              · exact core_stepAs _ (by rfl)
              · exact core_stepAs _ (by rfl)
              · exact core_stepAs _ (by rfl)
              · exact fun _ => coreG_callB _ 14 _ _ [.tmp 62] _ _ _ _ _ _ _ (by rfl) Try.func14 (by kernel_rfl) (by rfl) (by rfl) (wants_core 7 57 7 _ _ _ (by rfl) (by rfl) (by rfl) (known_core 7 57 _ _ (of_decide_eq_true (by rfl)) (by rfl) (by rfl) (by rfl)) _ (by rfl)) (.cons (known_core 12 62 _ _ (of_decide_eq_true (by rfl)) (by rfl) (by rfl) (by rfl)) .nil) ((fun u hb => HPA.out u (bel_tr BW.out hb)))
              · exact core_stepAs _ (by rfl)
              · exact core_stepAs _ (by rfl)
              · exact core_stepAs _ (by rfl)
              · exact core_stepAs _ (by rfl)
              · exact core_stepAs _ (by rfl)
              · exact core_stepAs _ (by rfl)
              · exact core_stepAs _ (by rfl)
              · exact core_stepAs _ (by rfl)
              · exact core_stepAs _ (by rfl)
              · exact core_stepAs _ (by rfl)
              · exact core_stepAs _ (by rfl)
              · exact core_stepAs _ (by rfl)
              · exact core_stepAs _ (by rfl)
              · exact core_stepAs _ (by rfl)
              · exact core_stepAs _ (by rfl)
              · exact core_stepAs _ (by rfl)
              · exact core_stepAs _ (by rfl)
              · exact core_stepAs _ (by rfl)
              · exact core_stepAs _ (by rfl)
              · exact fun _ => coreG_call _ 18 _ _ [.tmp 76, .tmp 82] _ _ _ _ _ _ _ (by rfl) Try.func18 (by kernel_rfl) (by rfl) (by rfl) (wants_core 19 69 19 _ _ _ (by rfl) (by rfl) (by rfl) (known_core 19 69 _ _ (of_decide_eq_true (by rfl)) (by rfl) (by rfl) (by rfl)) _ (by rfl)) (.cons (known_core 26 76 _ _ (of_decide_eq_true (by rfl)) (by rfl) (by rfl) (by rfl)) (.cons (known_core 32 82 _ _ (of_decide_eq_true (by rfl)) (by rfl) (by rfl) (by rfl)) .nil)) (HK3.out)
              · exact core_stepAs _ (by rfl)
              · exact core_stepAs _ (by rfl)
              · exact core_stepAs _ (by rfl)
            intro vs y7 hc
            obtain ⟨vv0, vv1, vv2, vv3, vv4, vv5, vv6, vv7, vv8, vv9, vv10, vv11, vv12, vv13, vv14, vv15, vv16, vv17, vv18, vv19, vv20, vv21, vv22, vv23, vv24, vv25, vv26, vv27, vv28, vv29, vv30, vv31, vv32, vv33, vv34, vv35, vv36, rfl⟩ := len37 vs hc.lv
            have qq0 : vv0 = .int .i64 0 := by obtain ⟨xx, hx, hy⟩ := hc.ok 0 _ rfl rfl; exact (Option.some.inj (show some vv0 = some xx from hx)).trans hy
            have qq1 : vv1 = .bool false := by obtain ⟨xx, hx, hy⟩ := hc.ok 1 _ rfl rfl; exact (Option.some.inj (show some vv1 = some xx from hx)).trans hy
            have qq2 : vv2 = .bool false := by obtain ⟨xx, hx, hy⟩ := hc.ok 2 _ rfl rfl; exact (Option.some.inj (show some vv2 = some xx from hx)).trans hy
            have qq3 : vv3 = .agg #[.int .u64 (wd 0 0 : Nat), .int .u64 (wd 0 1 : Nat), .int .u64 (wd 0 2 : Nat), .int .u64 (wd 0 3 : Nat)] := by obtain ⟨xx, hx, hy⟩ := hc.ok 3 _ rfl rfl; exact (Option.some.inj (show some vv3 = some xx from hx)).trans hy
            have qq4 : vv4 = .agg #[.int .u64 (wd 0 0 : Nat), .int .u64 (wd 0 1 : Nat), .int .u64 (wd 0 2 : Nat), .int .u64 (wd 0 3 : Nat)] := by obtain ⟨xx, hx, hy⟩ := hc.ok 4 _ rfl rfl; exact (Option.some.inj (show some vv4 = some xx from hx)).trans hy
            have qq5 : vv5 = .bool false := by obtain ⟨xx, hx, hy⟩ := hc.ok 5 _ rfl rfl; exact (Option.some.inj (show some vv5 = some xx from hx)).trans hy
            have qq6 : vv6 = .bool false := by obtain ⟨xx, hx, hy⟩ := hc.ok 6 _ rfl rfl; exact (Option.some.inj (show some vv6 = some xx from hx)).trans hy
            have qq7 : vv7 = .bool false := by obtain ⟨xx, hx, hy⟩ := hc.ok 7 _ rfl rfl; exact (Option.some.inj (show some vv7 = some xx from hx)).trans hy
            have qq8 : vv8 = .pointer (some ⟨gr, 8, none⟩) := by obtain ⟨xx, hx, hy⟩ := hc.ok 8 _ rfl rfl; exact (Option.some.inj (show some vv8 = some xx from hx)).trans hy
            have qq9 : vv9 = .slice (some ⟨gs3, os3, none⟩) l cap := by obtain ⟨xx, hx, hy⟩ := hc.ok 9 _ rfl rfl; exact (Option.some.inj (show some vv9 = some xx from hx)).trans hy
            have qq10 : vv10 = .int .i64 (i : Nat) := by obtain ⟨xx, hx, hy⟩ := hc.ok 10 _ rfl rfl; exact (Option.some.inj (show some vv10 = some xx from hx)).trans hy
            have qq11 : vv11 = .pointer (some ⟨gs3, os3 + i * 9, none⟩) := by obtain ⟨xx, hx, hy⟩ := hc.ok 11 _ rfl rfl; exact (Option.some.inj (show some vv11 = some xx from hx)).trans hy
            have qq12 : vv12 = .agg #[.int .u64 (wd q 0 : Nat), .int .u64 (wd q 1 : Nat), .int .u64 (wd q 2 : Nat), .int .u64 (wd q 3 : Nat), .int .u64 (wd y2 0 : Nat), .int .u64 (wd y2 1 : Nat), .int .u64 (wd y2 2 : Nat), .int .u64 (wd y2 3 : Nat), .slice a2 l2 cap2] := by obtain ⟨xx, hx, hy⟩ := hc.ok 12 _ rfl rfl; exact (Option.some.inj (show some vv12 = some xx from hx)).trans hy
            have qq13 : vv13 = .bool true := by obtain ⟨xx, hx, hy⟩ := hc.ok 13 _ rfl rfl; exact (Option.some.inj (show some vv13 = some xx from hx)).trans hy
            have qq14 : vv14 = .bool false := by obtain ⟨xx, hx, hy⟩ := hc.ok 14 _ rfl rfl; exact (Option.some.inj (show some vv14 = some xx from hx)).trans hy
            have qq15 : vv15 = .bool false := by obtain ⟨xx, hx, hy⟩ := hc.ok 15 _ rfl rfl; exact (Option.some.inj (show some vv15 = some xx from hx)).trans hy
            have qq16 : vv16 = .bool false := by obtain ⟨xx, hx, hy⟩ := hc.ok 16 _ rfl rfl; exact (Option.some.inj (show some vv16 = some xx from hx)).trans hy
            have qq17 : vv17 = .int .i64 (i : Nat) := by obtain ⟨xx, hx, hy⟩ := hc.ok 17 _ rfl rfl; exact (Option.some.inj (show some vv17 = some xx from hx)).trans hy
            have qq18 : vv18 = .bool true := by obtain ⟨xx, hx, hy⟩ := hc.ok 18 _ rfl rfl; exact (Option.some.inj (show some vv18 = some xx from hx)).trans hy
            have qq19 : vv19 = .bool true := by obtain ⟨xx, hx, hy⟩ := hc.ok 19 _ rfl rfl; exact (Option.some.inj (show some vv19 = some xx from hx)).trans hy
            have qq20 : vv20 = .pointer (some ⟨gr, 8, none⟩) := by obtain ⟨xx, hx, hy⟩ := hc.ok 20 _ rfl rfl; exact (Option.some.inj (show some vv20 = some xx from hx)).trans hy
            have qq21 : vv21 = .slice (some ⟨gs3, os3, none⟩) l cap := by obtain ⟨xx, hx, hy⟩ := hc.ok 21 _ rfl rfl; exact (Option.some.inj (show some vv21 = some xx from hx)).trans hy
            have qq22 : vv22 = .int .i64 (i : Nat) := by obtain ⟨xx, hx, hy⟩ := hc.ok 22 _ rfl rfl; exact (Option.some.inj (show some vv22 = some xx from hx)).trans hy
            have qq23 : vv23 = .int .i64 (j : Nat) := by obtain ⟨xx, hx, hy⟩ := hc.ok 23 _ rfl rfl; exact (Option.some.inj (show some vv23 = some xx from hx)).trans hy
            have qq24 : vv24 = .pointer (some ⟨gs3, os3 + j * 9, none⟩) := by obtain ⟨xx, hx, hy⟩ := hc.ok 24 _ rfl rfl; exact (Option.some.inj (show some vv24 = some xx from hx)).trans hy
            have qq25 : vv25 = .pointer (some ⟨gs3, os3 + j * 9, none⟩) := by obtain ⟨xx, hx, hy⟩ := hc.ok 25 _ rfl rfl; exact (Option.some.inj (show some vv25 = some xx from hx)).trans hy
            have qq26 : vv26 = .agg #[.int .u64 (wd q3 0 : Nat), .int .u64 (wd q3 1 : Nat), .int .u64 (wd q3 2 : Nat), .int .u64 (wd q3 3 : Nat)] := by obtain ⟨xx, hx, hy⟩ := hc.ok 26 _ rfl rfl; exact (Option.some.inj (show some vv26 = some xx from hx)).trans hy
            have qq27 : vv27 = .pointer (some ⟨gr, 8, none⟩) := by obtain ⟨xx, hx, hy⟩ := hc.ok 27 _ rfl rfl; exact (Option.some.inj (show some vv27 = some xx from hx)).trans hy
            have qq28 : vv28 = .slice (some ⟨gs3, os3, none⟩) l cap := by obtain ⟨xx, hx, hy⟩ := hc.ok 28 _ rfl rfl; exact (Option.some.inj (show some vv28 = some xx from hx)).trans hy
            have qq29 : vv29 = .int .i64 (i : Nat) := by obtain ⟨xx, hx, hy⟩ := hc.ok 29 _ rfl rfl; exact (Option.some.inj (show some vv29 = some xx from hx)).trans hy
            have qq30 : vv30 = .pointer (some ⟨gs3, os3 + i * 9, none⟩) := by obtain ⟨xx, hx, hy⟩ := hc.ok 30 _ rfl rfl; exact (Option.some.inj (show some vv30 = some xx from hx)).trans hy
            have qq31 : vv31 = .pointer (some ⟨gs3, os3 + i * 9, none⟩) := by obtain ⟨xx, hx, hy⟩ := hc.ok 31 _ rfl rfl; exact (Option.some.inj (show some vv31 = some xx from hx)).trans hy
            have qq32 : vv32 = .agg #[.int .u64 (wd q 0 : Nat), .int .u64 (wd q 1 : Nat), .int .u64 (wd q 2 : Nat), .int .u64 (wd q 3 : Nat)] := by obtain ⟨xx, hx, hy⟩ := hc.ok 32 _ rfl rfl; exact (Option.some.inj (show some vv32 = some xx from hx)).trans hy
            have qq33 : vv33 = .int .i64 k := by obtain ⟨xx, hx, hy⟩ := hc.ok 33 _ rfl rfl; exact (Option.some.inj (show some vv33 = some xx from hx)).trans hy
            have qq34 : vv34 = .bool false := by obtain ⟨xx, hx, hy⟩ := hc.ok 34 _ rfl rfl; exact (Option.some.inj (show some vv34 = some xx from hx)).trans hy
            have qq35 : vv35 = .bool false := by obtain ⟨xx, hx, hy⟩ := hc.ok 35 _ rfl rfl; exact (Option.some.inj (show some vv35 = some xx from hx)).trans hy
            have qq36 : vv36 = .bool false := by obtain ⟨xx, hx, hy⟩ := hc.ok 36 _ rfl rfl; exact (Option.some.inj (show some vv36 = some xx from hx)).trans hy
            have BZ := hc.bel
            clear hc
            have Nr := Fr.out.on BZ
            have Nm := Fm.out.on BZ
            have Nd := Fd.out.on BZ
            have Nt := Ft.out.on BZ
            have NB := bel_tr BW.out BZ
            clear BW BZ Fr Fm Fd Ft
            subst qq0 qq1 qq2 qq3 qq4 qq5 qq6 qq7 qq8 qq9 qq10 qq11 qq12 qq13 qq14 qq15 qq16 qq17 qq18 qq19 qq20 qq21 qq22 qq23 qq24 qq25 qq26 qq27 qq28 qq29 qq30 qq31 qq32 qq33 qq34 qq35 qq36
            simp only [List.map_cons, List.map_nil, over, Act.put, List.setIfInBounds_toArray, List.set_cons_zero, List.set_cons_succ]
            refine wpAnyH_done (by kernel_rfl) ?_ _
            refine NoPanic.normal ?_
            have Fr := Lib.hid Nr
            have Fm := Lib.hid Nm
            have Fd := Lib.hid Nd
            have Ft := Lib.hid Nt
            have BW := Lib.hid NB
            clear NB Nr Nm Nd Nt
            have hiw := HIW.out
            go_wp2_with fail
            go_roundw
            case measure => (have := HLT.out; simp [intOf]; omega)
            case rel =>
              have hlt := HLT.out
              first
                | exact ⟨i + 1, by omega, by go_num, Fr.out, Fm.out, BW.out, trivial⟩
                | ((repeat apply Exists.intro); exact ⟨⟨i + 1, by omega, by go_num, Fr.out, Fm.out, BW.out, trivial⟩, rfl⟩)
        · have hlt2 : ¬ (i : Int) < (l : Int) := by omega
          have HBI := Lib.hid (fun w => bits_any N HN.out w)
          have hbs := bits_small HN.out
          have hbare := bare_holds HH.out
          have HBB := HBA.out
          rw [hbare] at HBB
          clear hbare HBA
          have HBA := Lib.hid HBB
          clear HBB
          generalize Go.bitLen N = m at *
          have hl32 : (l : Int) < 32 := by have := HL32.out; omega
          have H32 := Lib.hid hl32; clear hl32
          by_cases hsm : N < 4294967296
          · have hm : (m : Int) ≤ 32 := hbs.mpr hsm
            have HBV := HBA.out
            rw [decide_eq_true hsm] at HBV
            have HBW := Lib.hid HBV
            have hY0 : Y = 0 := (holds_small HH.out hsm).1
            have hl0 : l = 0 := by have h1 := (holds_small HH.out hsm).2; have h2 := HL.out; rw [h1] at h2; exact h2.symm
            have hEY := eqN Y 0 HY.out (by decide)
            rw [decide_eq_true hY0] at hEY
            have HEY := Lib.hid hEY; have HL0 := Lib.hid hl0
            clear hsm HBV hY0 hEY hl0 hbs HBA
            have Lr := Fr.out.lt
            have cr0 : wr.cell? ⟨gr, 0, none⟩ = some (.int .u64 (wd N 0 : Nat)) := Fr.out.cell 0
            have cr1 : wr.cell? ⟨gr, 1, none⟩ = some (.int .u64 (wd N 1 : Nat)) := Fr.out.cell 1
            have cr2 : wr.cell? ⟨gr, 2, none⟩ = some (.int .u64 (wd N 2 : Nat)) := Fr.out.cell 2
            have cr3 : wr.cell? ⟨gr, 3, none⟩ = some (.int .u64 (wd N 3 : Nat)) := Fr.out.cell 3
            have cr4 : wr.cell? ⟨gr, 4, none⟩ = some (.int .u64 (wd Y 0 : Nat)) := Fr.out.cell 4
            have cr5 : wr.cell? ⟨gr, 5, none⟩ = some (.int .u64 (wd Y 1 : Nat)) := Fr.out.cell 5
            have cr6 : wr.cell? ⟨gr, 6, none⟩ = some (.int .u64 (wd Y 2 : Nat)) := Fr.out.cell 6
            have cr7 : wr.cell? ⟨gr, 7, none⟩ = some (.int .u64 (wd Y 3 : Nat)) := Fr.out.cell 7
            have cr8 : wr.cell? ⟨gr, 8, none⟩ = some (.slice a l cap) := Fr.out.cell 8
            go_wp2_with fail
            clear Lr cr0 cr1 cr2 cr3 cr4 cr5 cr6 cr7 cr8
            refine (HBI.out _).mono ?_
            rintro e v6 ⟨rfl, z6⟩
            have Nr := Lib.hid (Fr.out.on z6)
            have Nm := Lib.hid (Fm.out.on z6)
            have NB := Lib.hid (bel_tr BW.out z6)
            clear BW z6 Fr Fm
            have Fr := Nr
            have Fm := Nm
            have BW := NB
            clear NB Nr Nm
            have Lr := Fr.out.lt
            have cr0 : v6.cell? ⟨gr, 0, none⟩ = some (.int .u64 (wd N 0 : Nat)) := Fr.out.cell 0
            have cr1 : v6.cell? ⟨gr, 1, none⟩ = some (.int .u64 (wd N 1 : Nat)) := Fr.out.cell 1
            have cr2 : v6.cell? ⟨gr, 2, none⟩ = some (.int .u64 (wd N 2 : Nat)) := Fr.out.cell 2
            have cr3 : v6.cell? ⟨gr, 3, none⟩ = some (.int .u64 (wd N 3 : Nat)) := Fr.out.cell 3
            have cr4 : v6.cell? ⟨gr, 4, none⟩ = some (.int .u64 (wd Y 0 : Nat)) := Fr.out.cell 4
            have cr5 : v6.cell? ⟨gr, 5, none⟩ = some (.int .u64 (wd Y 1 : Nat)) := Fr.out.cell 5
            have cr6 : v6.cell? ⟨gr, 6, none⟩ = some (.int .u64 (wd Y 2 : Nat)) := Fr.out.cell 6
            have cr7 : v6.cell? ⟨gr, 7, none⟩ = some (.int .u64 (wd Y 3 : Nat)) := Fr.out.cell 7
            have cr8 : v6.cell? ⟨gr, 8, none⟩ = some (.slice a l cap) := Fr.out.cell 8
            go_upto_region 12 with fail
            clear Lr cr0 cr1 cr2 cr3 cr4 cr5 cr6 cr7 cr8
            have hmd : decide ((m : Int) ≤ 32) = true := decide_eq_true (by omega)
            try simp only [hmd]
            clear hm hlt2 hmd
            have Drb : gr ≠ v6.heap.size := by have := Fr.out.lt; omega
            have Dmb : gm ≠ v6.heap.size := by have := Fm.out.lt; omega
            generalize hW7 : (v6.alloc (.cells #[.int .u64 (wd N 0 : Nat), .int .u64 (wd N 1 : Nat), .int .u64 (wd N 2 : Nat), .int .u64 (wd N 3 : Nat), .int .u64 (wd Y 0 : Nat), .int .u64 (wd Y 1 : Nat), .int .u64 (wd Y 2 : Nat), .int .u64 (wd Y 3 : Nat), .slice none 0 0] 28)) = W7 at *
            have Nb : At W7 (v6.heap.size) _ _ := at_of hW7 (At.at_ _ _ _ _ (by simp))
            have Nr := at_of hW7 (Fr.out.alloc _)
            have Nm := at_of hW7 (Fm.out.alloc _)
            have NB := gr_of hW7 (gr_alloc BW.out _)
            clear hW7 BW Fr Fm
            generalize v6.heap.size = gb at *
            have Fr := Lib.hid Nr
            have Fm := Lib.hid Nm
            have Fb := Lib.hid Nb
            have BW := Lib.hid NB
            clear NB Nr Nm Nb
            try simp only [List.append_eq, List.cons_append, List.nil_append]
            refine wp_region_noPanic ?_
            refine wp_region_held_drew (S := fun w' => At w' gr 28 #[.int .u64 (wd N 0 : Nat), .int .u64 (wd N 1 : Nat), .int .u64 (wd N 2 : Nat), .int .u64 (wd N 3 : Nat), .int .u64 (wd Y 0 : Nat), .int .u64 (wd Y 1 : Nat), .int .u64 (wd Y 2 : Nat), .int .u64 (wd Y 3 : Nat), .slice a l cap] ∧ At w' gb 28 #[.int .u64 (wd N 0 : Nat), .int .u64 (wd N 1 : Nat), .int .u64 (wd N 2 : Nat), .int .u64 (wd N 3 : Nat), .int .u64 (wd Y 0 : Nat), .int .u64 (wd Y 1 : Nat), .int .u64 (wd Y 2 : Nat), .int .u64 (wd Y 3 : Nat), .slice none 0 0]) (by kernel_rfl) (⟨Fr.out.drew, Fb.out.drew⟩) (fun _ => ?_)
            refine wpAnyH_cores (fuel := 1) (⟨0, 96, [], Kind.val (.pointer (some ⟨gr, 8, none⟩)), true⟩ :: ⟨1, 97, [0], Kind.val (.slice a l cap), true⟩ :: ⟨2, 98, [1], Kind.val (.int .i64 (l : Nat)), true⟩ :: ⟨3, 99, [2], Kind.val (.bool true), true⟩ :: ⟨4, 100, [3], Kind.val (.bool true), true⟩ :: ⟨5, 101, [4], Kind.val (.agg #[.int .u64 (wd N 0 : Nat), .int .u64 (wd N 1 : Nat), .int .u64 (wd N 2 : Nat), .int .u64 (wd N 3 : Nat), .int .u64 (wd Y 0 : Nat), .int .u64 (wd Y 1 : Nat), .int .u64 (wd Y 2 : Nat), .int .u64 (wd Y 3 : Nat), .slice none 0 0]), true⟩ :: ⟨7, 103, [4, 5], Kind.val (.bool true), true⟩ :: ⟨6, 102, [4, 5, 6], Kind.val (.bool true), false⟩ :: ⟨8, 104, [4, 6, 7], Kind.val (.bool true), true⟩ :: ⟨9, 105, [4, 8], Kind.val (.bool true), true⟩ :: ⟨10, 106, [9], Kind.val (.bool true), true⟩ :: ⟨11, 107, [10], Kind.val (.pointer (some ⟨gr, 8, none⟩)), true⟩ :: ⟨12, 108, [10, 11], Kind.val (.slice a l cap), true⟩ :: ⟨15, 111, [10, 12], Kind.val (.bool true), true⟩ :: ⟨13, 109, [10, 12, 13], Kind.val (.int .i64 (l : Nat)), true⟩ :: ⟨14, 110, [10, 14], Kind.val (.bool true), true⟩ :: ⟨16, 112, [10, 13, 15], Kind.val (.bool true), true⟩ :: ⟨17, 113, [10, 16], Kind.val (.bool true), true⟩ :: ⟨18, 114, [17], Kind.val (.bool true), true⟩ :: ⟨19, 115, [18], Kind.val (.pointer (some ⟨gr, 4, none⟩)), true⟩ :: ⟨20, 116, [18, 19], Kind.val (.agg #[.int .u64 (wd Y 0 : Nat), .int .u64 (wd Y 1 : Nat), .int .u64 (wd Y 2 : Nat), .int .u64 (wd Y 3 : Nat)]), true⟩ :: ⟨23, 119, [18, 20], Kind.val (.bool true), true⟩ :: ⟨21, 117, [18, 21], Kind.val (.agg #[.int .u64 (wd 0 0 : Nat), .int .u64 (wd 0 1 : Nat), .int .u64 (wd 0 2 : Nat), .int .u64 (wd 0 3 : Nat)]), false⟩ :: ⟨22, 118, [18, 20, 22], Kind.val (.bool true), true⟩ :: ⟨24, 120, [18, 21, 23], Kind.val (.bool true), true⟩ :: ⟨25, 121, [18, 24], Kind.val (.bool true), true⟩ :: []) _ _ W7 _ ?_ ?_ ?_ ?_ ?_ ?_ ?_ ?_ ?_ ?_ ?_
            · rfl
            · kernel_rfl
            · exact of_decide_eq_true (by kernel_rfl)
            · exact all_cons ⟨_, by rfl, by rfl⟩ (all_cons ⟨_, by rfl, by rfl⟩ (all_cons ⟨_, by rfl, by rfl⟩ (all_cons ⟨_, by rfl, by rfl⟩ (all_cons ⟨_, by rfl, by rfl⟩ (all_cons ⟨_, by rfl, by rfl⟩ (all_cons ⟨_, by rfl, by rfl⟩ (all_cons ⟨_, by rfl, by rfl⟩ (all_cons ⟨_, by rfl, by rfl⟩ (all_cons ⟨_, by rfl, by rfl⟩ (all_cons ⟨_, by rfl, by rfl⟩ (all_cons ⟨_, by rfl, by rfl⟩ (all_cons ⟨_, by rfl, by rfl⟩ (all_cons ⟨_, by rfl, by rfl⟩ (all_cons ⟨_, by rfl, by rfl⟩ (all_cons ⟨_, by rfl, by rfl⟩ (all_cons ⟨_, by rfl, by rfl⟩ (all_cons ⟨_, by rfl, by rfl⟩ (all_cons ⟨_, by rfl, by rfl⟩ (all_cons ⟨_, by rfl, by rfl⟩ (all_cons ⟨_, by rfl, by rfl⟩ (all_cons ⟨_, by rfl, by rfl⟩ (all_cons ⟨_, by rfl, by rfl⟩ (all_cons ⟨_, by rfl, by rfl⟩ (all_cons ⟨_, by rfl, by rfl⟩ (all_cons ⟨_, by rfl, by rfl⟩ (all_nil))))))))))))))))))))))))))
            · exact fun _ hb => ⟨Fr.out.on hb, Fb.out.on hb⟩
            · exact (Below.refl _ _).drew
            · kernel_rfl
            · exact fun _ _ _ _ _ h => h
            · refine all_cons ?_ (all_cons ?_ (all_cons ?_ (all_cons ?_ (all_cons ?_ (all_cons ?_ (all_cons ?_ (all_cons ?_ (all_cons ?_ (all_cons ?_ (all_cons ?_ (all_cons ?_ (all_cons ?_ (all_cons ?_ (all_cons ?_ (all_cons ?_ (all_cons ?_ (all_cons ?_ (all_cons ?_ (all_cons ?_ (all_cons ?_ (all_cons ?_ (all_cons ?_ (all_cons ?_ (all_cons ?_ (all_cons ?_ (all_nil))))))))))))))))))))))))))
              · exact coreG_held _ _ _ _ _ _ _ _ _ (by rfl) (by rfl) (wants_none) (known_old 1 _ (of_decide_eq_true (by rfl)) (by rfl)) (fun ρ w hx _ => fieldR2 _ _ _ _ _ _ ρ w gr hx)
              · exact coreG_held _ _ _ _ _ _ _ _ _ (by rfl) (by rfl) (wants_none) (known_core 0 96 _ _ (of_decide_eq_true (by rfl)) (by rfl) (by rfl) (by rfl)) (fun ρ w hx hs => loadR2 _ _ _ _ _ _ ρ w gr _ _ _ _ _ _ _ _ _ hx (hs.1))
              · exact coreG_held _ _ _ _ _ _ _ _ _ (by rfl) (by rfl) (wants_none) (known_core 1 97 _ _ (of_decide_eq_true (by rfl)) (by rfl) (by rfl) (by rfl)) (fun ρ w hx _ => lenR _ _ _ _ _ _ ρ w _ _ _ hx)
              · exact coreG_bin _ _ _ _ _ _ _ _ _ _ _ _ _ (by rfl) (by rfl) (wants_none) (known_core 2 98 _ _ (of_decide_eq_true (by rfl)) (by rfl) (by rfl) (by rfl)) (known_const _) ((fun ρ w hx hy => by simp only [execOp, hx, hy]; simp [go_sem, H32.out]))
              · exact coreG_move _ _ _ _ _ _ _ (by rfl) (by rfl) (wants_none) (known_core 3 99 _ _ (of_decide_eq_true (by rfl)) (by rfl) (by rfl) (by rfl))
              · exact coreG_held _ _ _ _ _ _ _ _ _ (by rfl) (by rfl) (wants_core 4 100 4 _ _ _ (by rfl) (by rfl) (by rfl) (known_core 4 100 _ _ (of_decide_eq_true (by rfl)) (by rfl) (by rfl) (by rfl)) _ (by rfl)) (known_old 10 _ (of_decide_eq_true (by rfl)) (by rfl)) (fun ρ w hx hs => loadR _ _ _ _ _ _ ρ w gb _ _ _ _ _ _ _ _ _ hx (hs.2))
              · exact coreG_move _ _ _ _ _ _ _ (by rfl) (by rfl) (wants_core 4 100 4 _ _ _ (by rfl) (by rfl) (by rfl) (known_core 4 100 _ _ (of_decide_eq_true (by rfl)) (by rfl) (by rfl) (by rfl)) _ (by rfl)) (known_old 9 _ (of_decide_eq_true (by rfl)) (by rfl))
              · exact core_pureAs _ (by rfl)
              · exact coreG_bin _ _ _ _ _ _ _ _ _ _ _ _ _ (by rfl) (by rfl) (wants_core 4 100 4 _ _ _ (by rfl) (by rfl) (by rfl) (known_core 4 100 _ _ (of_decide_eq_true (by rfl)) (by rfl) (by rfl) (by rfl)) _ (by rfl)) (known_core 7 102 _ _ (of_decide_eq_true (by rfl)) (by rfl) (by rfl) (by rfl)) (known_core 6 103 _ _ (of_decide_eq_true (by rfl)) (by rfl) (by rfl) (by rfl)) ((fun ρ w hx hy => by simp only [execOp, hx, hy]; simp [go_sem]))
              · exact coreG_pick _ _ _ _ _ _ _ _ _ _ _ _ (by rfl) (by rfl) (wants_none) (known_core 4 100 _ _ (of_decide_eq_true (by rfl)) (by rfl) (by rfl) (by rfl)) (known_core 8 104 _ _ (of_decide_eq_true (by rfl)) (by rfl) (by rfl) (by rfl)) (known_const _) (by rfl)
              · exact coreG_move _ _ _ _ _ _ _ (by rfl) (by rfl) (wants_none) (known_core 9 105 _ _ (of_decide_eq_true (by rfl)) (by rfl) (by rfl) (by rfl))
              · exact coreG_held _ _ _ _ _ _ _ _ _ (by rfl) (by rfl) (wants_core 10 106 10 _ _ _ (by rfl) (by rfl) (by rfl) (known_core 10 106 _ _ (of_decide_eq_true (by rfl)) (by rfl) (by rfl) (by rfl)) _ (by rfl)) (known_old 1 _ (of_decide_eq_true (by rfl)) (by rfl)) (fun ρ w hx _ => fieldR2 _ _ _ _ _ _ ρ w gr hx)
              · exact coreG_held _ _ _ _ _ _ _ _ _ (by rfl) (by rfl) (wants_core 10 106 10 _ _ _ (by rfl) (by rfl) (by rfl) (known_core 10 106 _ _ (of_decide_eq_true (by rfl)) (by rfl) (by rfl) (by rfl)) _ (by rfl)) (known_core 11 107 _ _ (of_decide_eq_true (by rfl)) (by rfl) (by rfl) (by rfl)) (fun ρ w hx hs => loadR2 _ _ _ _ _ _ ρ w gr _ _ _ _ _ _ _ _ _ hx (hs.1))
              · exact coreG_move _ _ _ _ _ _ _ (by rfl) (by rfl) (wants_core 10 106 10 _ _ _ (by rfl) (by rfl) (by rfl) (known_core 10 106 _ _ (of_decide_eq_true (by rfl)) (by rfl) (by rfl) (by rfl)) _ (by rfl)) (known_old 9 _ (of_decide_eq_true (by rfl)) (by rfl))
              · exact coreG_held _ _ _ _ _ _ _ _ _ (by rfl) (by rfl) (wants_core 10 106 10 _ _ _ (by rfl) (by rfl) (by rfl) (known_core 10 106 _ _ (of_decide_eq_true (by rfl)) (by rfl) (by rfl) (by rfl)) _ (by rfl)) (known_core 12 108 _ _ (of_decide_eq_true (by rfl)) (by rfl) (by rfl) (by rfl)) (fun ρ w hx _ => lenR _ _ _ _ _ _ ρ w _ _ _ hx)
              · exact coreG_bin _ _ _ _ _ _ _ _ _ _ _ _ _ (by rfl) (by rfl) (wants_core 10 106 10 _ _ _ (by rfl) (by rfl) (by rfl) (known_core 10 106 _ _ (of_decide_eq_true (by rfl)) (by rfl) (by rfl) (by rfl)) _ (by rfl)) (known_core 14 109 _ _ (of_decide_eq_true (by rfl)) (by rfl) (by rfl) (by rfl)) (known_const _) ((fun ρ w hx hy => by simp only [execOp, hx, hy]; simp [go_sem, HL0.out]))
              · exact coreG_bin _ _ _ _ _ _ _ _ _ _ _ _ _ (by rfl) (by rfl) (wants_core 10 106 10 _ _ _ (by rfl) (by rfl) (by rfl) (known_core 10 106 _ _ (of_decide_eq_true (by rfl)) (by rfl) (by rfl) (by rfl)) _ (by rfl)) (known_core 15 110 _ _ (of_decide_eq_true (by rfl)) (by rfl) (by rfl) (by rfl)) (known_core 13 111 _ _ (of_decide_eq_true (by rfl)) (by rfl) (by rfl) (by rfl)) ((fun ρ w hx hy => by simp only [execOp, hx, hy]; simp [go_sem]))
              · exact coreG_pick _ _ _ _ _ _ _ _ _ _ _ _ (by rfl) (by rfl) (wants_none) (known_core 10 106 _ _ (of_decide_eq_true (by rfl)) (by rfl) (by rfl) (by rfl)) (known_core 16 112 _ _ (of_decide_eq_true (by rfl)) (by rfl) (by rfl) (by rfl)) (known_const _) (by rfl)
              · exact coreG_move _ _ _ _ _ _ _ (by rfl) (by rfl) (wants_none) (known_core 17 113 _ _ (of_decide_eq_true (by rfl)) (by rfl) (by rfl) (by rfl))
              · exact coreG_held _ _ _ _ _ _ _ _ _ (by rfl) (by rfl) (wants_core 18 114 18 _ _ _ (by rfl) (by rfl) (by rfl) (known_core 18 114 _ _ (of_decide_eq_true (by rfl)) (by rfl) (by rfl) (by rfl)) _ (by rfl)) (known_old 1 _ (of_decide_eq_true (by rfl)) (by rfl)) (fun ρ w hx _ => fieldR1 _ _ _ _ _ _ ρ w gr hx)
              · exact coreG_held _ _ _ _ _ _ _ _ _ (by rfl) (by rfl) (wants_core 18 114 18 _ _ _ (by rfl) (by rfl) (by rfl) (known_core 18 114 _ _ (of_decide_eq_true (by rfl)) (by rfl) (by rfl) (by rfl)) _ (by rfl)) (known_core 19 115 _ _ (of_decide_eq_true (by rfl)) (by rfl) (by rfl) (by rfl)) (fun ρ w hx hs => loadR1 _ _ _ _ _ _ ρ w gr _ _ _ _ _ _ _ _ _ hx (hs.1))
              · exact coreG_move _ _ _ _ _ _ _ (by rfl) (by rfl) (wants_core 18 114 18 _ _ _ (by rfl) (by rfl) (by rfl) (known_core 18 114 _ _ (of_decide_eq_true (by rfl)) (by rfl) (by rfl) (by rfl)) _ (by rfl)) (known_old 9 _ (of_decide_eq_true (by rfl)) (by rfl))
              · exact core_pureAs _ (by rfl)
              · exact coreG_bin _ _ _ _ _ _ _ _ _ _ _ _ _ (by rfl) (by rfl) (wants_core 18 114 18 _ _ _ (by rfl) (by rfl) (by rfl) (known_core 18 114 _ _ (of_decide_eq_true (by rfl)) (by rfl) (by rfl) (by rfl)) _ (by rfl)) (known_core 20 116 _ _ (of_decide_eq_true (by rfl)) (by rfl) (by rfl) (by rfl)) (known_core 22 117 _ _ (of_decide_eq_true (by rfl)) (by rfl) (by rfl) (by rfl)) (eql_run true _ _ _ _ _ _ _ _ _ _ _ _ _ _ _ (HEY.out))
              · exact coreG_bin _ _ _ _ _ _ _ _ _ _ _ _ _ (by rfl) (by rfl) (wants_core 18 114 18 _ _ _ (by rfl) (by rfl) (by rfl) (known_core 18 114 _ _ (of_decide_eq_true (by rfl)) (by rfl) (by rfl) (by rfl)) _ (by rfl)) (known_core 23 118 _ _ (of_decide_eq_true (by rfl)) (by rfl) (by rfl) (by rfl)) (known_core 21 119 _ _ (of_decide_eq_true (by rfl)) (by rfl) (by rfl) (by rfl)) ((fun ρ w hx hy => by simp only [execOp, hx, hy]; simp [go_sem]))
              · exact coreG_pick _ _ _ _ _ _ _ _ _ _ _ _ (by rfl) (by rfl) (wants_none) (known_core 18 114 _ _ (of_decide_eq_true (by rfl)) (by rfl) (by rfl) (by rfl)) (known_core 24 120 _ _ (of_decide_eq_true (by rfl)) (by rfl) (by rfl) (by rfl)) (known_const _) (by rfl)
            · refine all_cons ?_ (all_cons ?_ (all_cons ?_ (all_cons ?_ (all_cons ?_ (all_cons ?_ (all_cons ?_ (all_cons ?_ (all_cons ?_ (all_cons ?_ (all_cons ?_ (all_cons ?_ (all_cons ?_ (all_cons ?_ (all_cons ?_ (all_cons ?_ (all_cons ?_ (all_cons ?_ (all_cons ?_ (all_cons ?_ (all_cons ?_ (all_cons ?_ (all_cons ?_ (all_cons ?_ (all_cons ?_ (all_cons ?_ (all_nil))))))))))))))))))))))))))
              · exact core_stepAs _ (by rfl)
              · exact core_stepAs _ (by rfl)
              · exact core_stepAs _ (by rfl)
              · exact core_stepAs _ (by rfl)
              · exact core_stepAs _ (by rfl)
              · exact core_stepAs _ (by rfl)
              · exact core_stepAs _ (by rfl)
              · exact fun _ => coreG_call _ 14 _ _ [.tmp 101] _ _ _ _ _ _ _ (by rfl) Try.func14 (by kernel_rfl) (by rfl) (by rfl) (wants_core 4 100 4 _ _ _ (by rfl) (by rfl) (by rfl) (known_core 4 100 _ _ (of_decide_eq_true (by rfl)) (by rfl) (by rfl) (by rfl)) _ (by rfl)) (.cons (known_core 5 101 _ _ (of_decide_eq_true (by rfl)) (by rfl) (by rfl) (by rfl)) .nil) ((fun u => HBW.out u))
              · exact core_stepAs _ (by rfl)
              · exact core_stepAs _ (by rfl)
              · exact core_stepAs _ (by rfl)
              · exact core_stepAs _ (by rfl)
              · exact core_stepAs _ (by rfl)
              · exact core_stepAs _ (by rfl)
              · exact core_stepAs _ (by rfl)
              · exact core_stepAs _ (by rfl)
              · exact core_stepAs _ (by rfl)
              · exact core_stepAs _ (by rfl)
              · exact core_stepAs _ (by rfl)
              · exact core_stepAs _ (by rfl)
              · exact core_stepAs _ (by rfl)
              · exact core_stepAs _ (by rfl)
              · exact fun _ => coreG_call _ 19 _ _ [.const (.int .u64 0)] _ _ _ _ _ _ _ (by rfl) Try.func19 (by kernel_rfl) (by rfl) (by rfl) (wants_core 18 114 18 _ _ _ (by rfl) (by rfl) (by rfl) (known_core 18 114 _ _ (of_decide_eq_true (by rfl)) (by rfl) (by rfl) (by rfl)) _ (by rfl)) (.cons (known_const _) .nil) (HO0.out)
              · exact core_stepAs _ (by rfl)
              · exact core_stepAs _ (by rfl)
              · exact core_stepAs _ (by rfl)
            intro vs y8 hc
            have BZ := bel_tr BW.out hc.bel
            refine assign_one (i := 26) (.tmp 121) 2 _ _ _ (.bool true) (by kernel_rfl) (by rfl) (hc.at_ (of_decide_eq_true (by kernel_rfl)) (by rfl) 25 121 _ (.bool true) (by rfl) (by rfl) (by rfl)) (⟨Fr.out.on hc.bel, Fb.out.on hc.bel⟩) ?_
            refine wpAnyH_done (by kernel_rfl) ?_ _
            refine NoPanic.normal ?_
            generalize hA : Act.put (over _ _ vs) (some 2) (.bool true) = A
            have hA0 : A.tmps.getD 2 undef = .bool true := by rw [← hA]; exact put_at _ _ _ (by rw [over_size]; exact Nat.le_of_ble_eq_true rfl)
            have hAd : A.defers = [] := by rw [← hA, put_defers, over_defers]
            clear hA hc
            go_wp2_with fail
            refine bodyPost_ret (v := .bool true) (by simp [results, Try.results7, go_sem] at hA0 ⊢; simp [hA0]) hAd ⟨rfl, BZ⟩
          · have hm : ¬ (m : Int) ≤ 32 := fun h => hsm (hbs.mp h)
            have HBV := HBA.out
            rw [decide_eq_false hsm] at HBV
            have HBW := Lib.hid HBV
            have hY0 : ¬ Y = 0 := by have := (holds_great HH.out hsm).1; omega
            have hl0 : ¬ l = 0 := by have h1 := (holds_great HH.out hsm).2.1; have h2 := HL.out; intro h3; exact h1 (List.eq_nil_of_length_eq_zero (by omega))
            have hEY := eqN Y 0 HY.out (by decide)
            rw [decide_eq_false hY0] at hEY
            have HEY := Lib.hid hEY; have HL0 := Lib.hid hl0
            clear hsm HBV hY0 hEY hl0 hbs HBA
            have Lr := Fr.out.lt
            have cr0 : wr.cell? ⟨gr, 0, none⟩ = some (.int .u64 (wd N 0 : Nat)) := Fr.out.cell 0
            have cr1 : wr.cell? ⟨gr, 1, none⟩ = some (.int .u64 (wd N 1 : Nat)) := Fr.out.cell 1
            have cr2 : wr.cell? ⟨gr, 2, none⟩ = some (.int .u64 (wd N 2 : Nat)) := Fr.out.cell 2
            have cr3 : wr.cell? ⟨gr, 3, none⟩ = some (.int .u64 (wd N 3 : Nat)) := Fr.out.cell 3
            have cr4 : wr.cell? ⟨gr, 4, none⟩ = some (.int .u64 (wd Y 0 : Nat)) := Fr.out.cell 4
            have cr5 : wr.cell? ⟨gr, 5, none⟩ = some (.int .u64 (wd Y 1 : Nat)) := Fr.out.cell 5
            have cr6 : wr.cell? ⟨gr, 6, none⟩ = some (.int .u64 (wd Y 2 : Nat)) := Fr.out.cell 6
            have cr7 : wr.cell? ⟨gr, 7, none⟩ = some (.int .u64 (wd Y 3 : Nat)) := Fr.out.cell 7
            have cr8 : wr.cell? ⟨gr, 8, none⟩ = some (.slice a l cap) := Fr.out.cell 8
            go_wp2_with fail
            clear Lr cr0 cr1 cr2 cr3 cr4 cr5 cr6 cr7 cr8
            refine (HBI.out _).mono ?_
            rintro e v6 ⟨rfl, z6⟩
            have Nr := Lib.hid (Fr.out.on z6)
            have Nm := Lib.hid (Fm.out.on z6)
            have NB := Lib.hid (bel_tr BW.out z6)
            clear BW z6 Fr Fm
            have Fr := Nr
            have Fm := Nm
            have BW := NB
            clear NB Nr Nm
            have Lr := Fr.out.lt
            have cr0 : v6.cell? ⟨gr, 0, none⟩ = some (.int .u64 (wd N 0 : Nat)) := Fr.out.cell 0
            have cr1 : v6.cell? ⟨gr, 1, none⟩ = some (.int .u64 (wd N 1 : Nat)) := Fr.out.cell 1
            have cr2 : v6.cell? ⟨gr, 2, none⟩ = some (.int .u64 (wd N 2 : Nat)) := Fr.out.cell 2
            have cr3 : v6.cell? ⟨gr, 3, none⟩ = some (.int .u64 (wd N 3 : Nat)) := Fr.out.cell 3
            have cr4 : v6.cell? ⟨gr, 4, none⟩ = some (.int .u64 (wd Y 0 : Nat)) := Fr.out.cell 4
            have cr5 : v6.cell? ⟨gr, 5, none⟩ = some (.int .u64 (wd Y 1 : Nat)) := Fr.out.cell 5
            have cr6 : v6.cell? ⟨gr, 6, none⟩ = some (.int .u64 (wd Y 2 : Nat)) := Fr.out.cell 6
            have cr7 : v6.cell? ⟨gr, 7, none⟩ = some (.int .u64 (wd Y 3 : Nat)) := Fr.out.cell 7
            have cr8 : v6.cell? ⟨gr, 8, none⟩ = some (.slice a l cap) := Fr.out.cell 8
            go_upto_region 12 with fail
            clear Lr cr0 cr1 cr2 cr3 cr4 cr5 cr6 cr7 cr8
            have hmd : decide ((m : Int) ≤ 32) = false := decide_eq_false (by omega)
            try simp only [hmd]
            clear hm hlt2 hmd
            have Drb : gr ≠ v6.heap.size := by have := Fr.out.lt; omega
            have Dmb : gm ≠ v6.heap.size := by have := Fm.out.lt; omega
            generalize hW7 : (v6.alloc (.cells #[.int .u64 (wd N 0 : Nat), .int .u64 (wd N 1 : Nat), .int .u64 (wd N 2 : Nat), .int .u64 (wd N 3 : Nat), .int .u64 (wd Y 0 : Nat), .int .u64 (wd Y 1 : Nat), .int .u64 (wd Y 2 : Nat), .int .u64 (wd Y 3 : Nat), .slice none 0 0] 28)) = W7 at *
            have Nb : At W7 (v6.heap.size) _ _ := at_of hW7 (At.at_ _ _ _ _ (by simp))
            have Nr := at_of hW7 (Fr.out.alloc _)
            have Nm := at_of hW7 (Fm.out.alloc _)
            have NB := gr_of hW7 (gr_alloc BW.out _)
            clear hW7 BW Fr Fm
            generalize v6.heap.size = gb at *
            have Fr := Lib.hid Nr
            have Fm := Lib.hid Nm
            have Fb := Lib.hid Nb
            have BW := Lib.hid NB
            clear NB Nr Nm Nb
            try simp only [List.append_eq, List.cons_append, List.nil_append]
            refine wp_region_noPanic ?_
            refine wp_region_held_drew (S := fun w' => At w' gr 28 #[.int .u64 (wd N 0 : Nat), .int .u64 (wd N 1 : Nat), .int .u64 (wd N 2 : Nat), .int .u64 (wd N 3 : Nat), .int .u64 (wd Y 0 : Nat), .int .u64 (wd Y 1 : Nat), .int .u64 (wd Y 2 : Nat), .int .u64 (wd Y 3 : Nat), .slice a l cap] ∧ At w' gb 28 #[.int .u64 (wd N 0 : Nat), .int .u64 (wd N 1 : Nat), .int .u64 (wd N 2 : Nat), .int .u64 (wd N 3 : Nat), .int .u64 (wd Y 0 : Nat), .int .u64 (wd Y 1 : Nat), .int .u64 (wd Y 2 : Nat), .int .u64 (wd Y 3 : Nat), .slice none 0 0]) (by kernel_rfl) (⟨Fr.out.drew, Fb.out.drew⟩) (fun _ => ?_)
            refine wpAnyH_cores (fuel := 1) (⟨0, 96, [], Kind.val (.pointer (some ⟨gr, 8, none⟩)), true⟩ :: ⟨1, 97, [0], Kind.val (.slice a l cap), true⟩ :: ⟨2, 98, [1], Kind.val (.int .i64 (l : Nat)), true⟩ :: ⟨3, 99, [2], Kind.val (.bool true), true⟩ :: ⟨4, 100, [3], Kind.val (.bool true), true⟩ :: ⟨5, 101, [4], Kind.val (.agg #[.int .u64 (wd N 0 : Nat), .int .u64 (wd N 1 : Nat), .int .u64 (wd N 2 : Nat), .int .u64 (wd N 3 : Nat), .int .u64 (wd Y 0 : Nat), .int .u64 (wd Y 1 : Nat), .int .u64 (wd Y 2 : Nat), .int .u64 (wd Y 3 : Nat), .slice none 0 0]), true⟩ :: ⟨7, 103, [4, 5], Kind.val (.bool false), true⟩ :: ⟨6, 102, [4, 5, 6], Kind.val (.bool false), false⟩ :: ⟨8, 104, [4, 6, 7], Kind.val (.bool true), true⟩ :: ⟨9, 105, [4, 8], Kind.val (.bool true), true⟩ :: ⟨10, 106, [9], Kind.val (.bool true), true⟩ :: ⟨11, 107, [10], Kind.val (.pointer (some ⟨gr, 8, none⟩)), true⟩ :: ⟨12, 108, [10, 11], Kind.val (.slice a l cap), true⟩ :: ⟨15, 111, [10, 12], Kind.val (.bool false), true⟩ :: ⟨13, 109, [10, 12, 13], Kind.val (.int .i64 (l : Nat)), true⟩ :: ⟨14, 110, [10, 14], Kind.val (.bool false), true⟩ :: ⟨16, 112, [10, 13, 15], Kind.val (.bool true), true⟩ :: ⟨17, 113, [10, 16], Kind.val (.bool true), true⟩ :: ⟨18, 114, [17], Kind.val (.bool true), true⟩ :: ⟨19, 115, [18], Kind.val (.pointer (some ⟨gr, 4, none⟩)), true⟩ :: ⟨20, 116, [18, 19], Kind.val (.agg #[.int .u64 (wd Y 0 : Nat), .int .u64 (wd Y 1 : Nat), .int .u64 (wd Y 2 : Nat), .int .u64 (wd Y 3 : Nat)]), true⟩ :: ⟨23, 119, [18, 20], Kind.val (.bool false), true⟩ :: ⟨21, 117, [18, 21], Kind.val (.agg #[.int .u64 (wd 0 0 : Nat), .int .u64 (wd 0 1 : Nat), .int .u64 (wd 0 2 : Nat), .int .u64 (wd 0 3 : Nat)]), false⟩ :: ⟨22, 118, [18, 20, 22], Kind.val (.bool false), true⟩ :: ⟨24, 120, [18, 21, 23], Kind.val (.bool true), true⟩ :: ⟨25, 121, [18, 24], Kind.val (.bool true), true⟩ :: []) _ _ W7 _ ?_ ?_ ?_ ?_ ?_ ?_ ?_ ?_ ?_ ?_ ?_
            · rfl
            · kernel_rfl
            · exact of_decide_eq_true (by kernel_rfl)
            · exact all_cons ⟨_, by rfl, by rfl⟩ (all_cons ⟨_, by rfl, by rfl⟩ (all_cons ⟨_, by rfl, by rfl⟩ (all_cons ⟨_, by rfl, by rfl⟩ (all_cons ⟨_, by rfl, by rfl⟩ (all_cons ⟨_, by rfl, by rfl⟩ (all_cons ⟨_, by rfl, by rfl⟩ (all_cons ⟨_, by rfl, by rfl⟩ (all_cons ⟨_, by rfl, by rfl⟩ (all_cons ⟨_, by rfl, by rfl⟩ (all_cons ⟨_, by rfl, by rfl⟩ (all_cons ⟨_, by rfl, by rfl⟩ (all_cons ⟨_, by rfl, by rfl⟩ (all_cons ⟨_, by rfl, by rfl⟩ (all_cons ⟨_, by rfl, by rfl⟩ (all_cons ⟨_, by rfl, by rfl⟩ (all_cons ⟨_, by rfl, by rfl⟩ (all_cons ⟨_, by rfl, by rfl⟩ (all_cons ⟨_, by rfl, by rfl⟩ (all_cons ⟨_, by rfl, by rfl⟩ (all_cons ⟨_, by rfl, by rfl⟩ (all_cons ⟨_, by rfl, by rfl⟩ (all_cons ⟨_, by rfl, by rfl⟩ (all_cons ⟨_, by rfl, by rfl⟩ (all_cons ⟨_, by rfl, by rfl⟩ (all_cons ⟨_, by rfl, by rfl⟩ (all_nil))))))))))))))))))))))))))
            · exact fun _ hb => ⟨Fr.out.on hb, Fb.out.on hb⟩
            · exact (Below.refl _ _).drew
            · kernel_rfl
            · exact fun _ _ _ _ _ h => h
            · refine all_cons ?_ (all_cons ?_ (all_cons ?_ (all_cons ?_ (all_cons ?_ (all_cons ?_ (all_cons ?_ (all_cons ?_ (all_cons ?_ (all_cons ?_ (all_cons ?_ (all_cons ?_ (all_cons ?_ (all_cons ?_ (all_cons ?_ (all_cons ?_ (all_cons ?_ (all_cons ?_ (all_cons ?_ (all_cons ?_ (all_cons ?_ (all_cons ?_ (all_cons ?_ (all_cons ?_ (all_cons ?_ (all_cons ?_ (all_nil))))))))))))))))))))))))))
              · exact coreG_held _ _ _ _ _ _ _ _ _ (by rfl) (by rfl) (wants_none) (known_old 1 _ (of_decide_eq_true (by rfl)) (by rfl)) (fun ρ w hx _ => fieldR2 _ _ _ _ _ _ ρ w gr hx)
              · exact coreG_held _ _ _ _ _ _ _ _ _ (by rfl) (by rfl) (wants_none) (known_core 0 96 _ _ (of_decide_eq_true (by rfl)) (by rfl) (by rfl) (by rfl)) (fun ρ w hx hs => loadR2 _ _ _ _ _ _ ρ w gr _ _ _ _ _ _ _ _ _ hx (hs.1))
              · exact coreG_held _ _ _ _ _ _ _ _ _ (by rfl) (by rfl) (wants_none) (known_core 1 97 _ _ (of_decide_eq_true (by rfl)) (by rfl) (by rfl) (by rfl)) (fun ρ w hx _ => lenR _ _ _ _ _ _ ρ w _ _ _ hx)
              · exact coreG_bin _ _ _ _ _ _ _ _ _ _ _ _ _ (by rfl) (by rfl) (wants_none) (known_core 2 98 _ _ (of_decide_eq_true (by rfl)) (by rfl) (by rfl) (by rfl)) (known_const _) ((fun ρ w hx hy => by simp only [execOp, hx, hy]; simp [go_sem, H32.out]))
              · exact coreG_move _ _ _ _ _ _ _ (by rfl) (by rfl) (wants_none) (known_core 3 99 _ _ (of_decide_eq_true (by rfl)) (by rfl) (by rfl) (by rfl))
              · exact coreG_held _ _ _ _ _ _ _ _ _ (by rfl) (by rfl) (wants_core 4 100 4 _ _ _ (by rfl) (by rfl) (by rfl) (known_core 4 100 _ _ (of_decide_eq_true (by rfl)) (by rfl) (by rfl) (by rfl)) _ (by rfl)) (known_old 10 _ (of_decide_eq_true (by rfl)) (by rfl)) (fun ρ w hx hs => loadR _ _ _ _ _ _ ρ w gb _ _ _ _ _ _ _ _ _ hx (hs.2))
              · exact coreG_move _ _ _ _ _ _ _ (by rfl) (by rfl) (wants_core 4 100 4 _ _ _ (by rfl) (by rfl) (by rfl) (known_core 4 100 _ _ (of_decide_eq_true (by rfl)) (by rfl) (by rfl) (by rfl)) _ (by rfl)) (known_old 9 _ (of_decide_eq_true (by rfl)) (by rfl))
              · exact core_pureAs _ (by rfl)
              · exact coreG_bin _ _ _ _ _ _ _ _ _ _ _ _ _ (by rfl) (by rfl) (wants_core 4 100 4 _ _ _ (by rfl) (by rfl) (by rfl) (known_core 4 100 _ _ (of_decide_eq_true (by rfl)) (by rfl) (by rfl) (by rfl)) _ (by rfl)) (known_core 7 102 _ _ (of_decide_eq_true (by rfl)) (by rfl) (by rfl) (by rfl)) (known_core 6 103 _ _ (of_decide_eq_true (by rfl)) (by rfl) (by rfl) (by rfl)) ((fun ρ w hx hy => by simp only [execOp, hx, hy]; simp [go_sem]))
              · exact coreG_pick _ _ _ _ _ _ _ _ _ _ _ _ (by rfl) (by rfl) (wants_none) (known_core 4 100 _ _ (of_decide_eq_true (by rfl)) (by rfl) (by rfl) (by rfl)) (known_core 8 104 _ _ (of_decide_eq_true (by rfl)) (by rfl) (by rfl) (by rfl)) (known_const _) (by rfl)
              · exact coreG_move _ _ _ _ _ _ _ (by rfl) (by rfl) (wants_none) (known_core 9 105 _ _ (of_decide_eq_true (by rfl)) (by rfl) (by rfl) (by rfl))
              · exact coreG_held _ _ _ _ _ _ _ _ _ (by rfl) (by rfl) (wants_core 10 106 10 _ _ _ (by rfl) (by rfl) (by rfl) (known_core 10 106 _ _ (of_decide_eq_true (by rfl)) (by rfl) (by rfl) (by rfl)) _ (by rfl)) (known_old 1 _ (of_decide_eq_true (by rfl)) (by rfl)) (fun ρ w hx _ => fieldR2 _ _ _ _ _ _ ρ w gr hx)
              · exact coreG_held _ _ _ _ _ _ _ _ _ (by rfl) (by rfl) (wants_core 10 106 10 _ _ _ (by rfl) (by rfl) (by rfl) (known_core 10 106 _ _ (of_decide_eq_true (by rfl)) (by rfl) (by rfl) (by rfl)) _ (by rfl)) (known_core 11 107 _ _ (of_decide_eq_true (by rfl)) (by rfl) (by rfl) (by rfl)) (fun ρ w hx hs => loadR2 _ _ _ _ _ _ ρ w gr _ _ _ _ _ _ _ _ _ hx (hs.1))
              · exact coreG_move _ _ _ _ _ _ _ (by rfl) (by rfl) (wants_core 10 106 10 _ _ _ (by rfl) (by rfl) (by rfl) (known_core 10 106 _ _ (of_decide_eq_true (by rfl)) (by rfl) (by rfl) (by rfl)) _ (by rfl)) (known_old 9 _ (of_decide_eq_true (by rfl)) (by rfl))
              · exact coreG_held _ _ _ _ _ _ _ _ _ (by rfl) (by rfl) (wants_core 10 106 10 _ _ _ (by rfl) (by rfl) (by rfl) (known_core 10 106 _ _ (of_decide_eq_true (by rfl)) (by rfl) (by rfl) (by rfl)) _ (by rfl)) (known_core 12 108 _ _ (of_decide_eq_true (by rfl)) (by rfl) (by rfl) (by rfl)) (fun ρ w hx _ => lenR _ _ _ _ _ _ ρ w _ _ _ hx)
              · exact coreG_bin _ _ _ _ _ _ _ _ _ _ _ _ _ (by rfl) (by rfl) (wants_core 10 106 10 _ _ _ (by rfl) (by rfl) (by rfl) (known_core 10 106 _ _ (of_decide_eq_true (by rfl)) (by rfl) (by rfl) (by rfl)) _ (by rfl)) (known_core 14 109 _ _ (of_decide_eq_true (by rfl)) (by rfl) (by rfl) (by rfl)) (known_const _) ((fun ρ w hx hy => by simp only [execOp, hx, hy]; simp [go_sem, HL0.out]))
              · exact coreG_bin _ _ _ _ _ _ _ _ _ _ _ _ _ (by rfl) (by rfl) (wants_core 10 106 10 _ _ _ (by rfl) (by rfl) (by rfl) (known_core 10 106 _ _ (of_decide_eq_true (by rfl)) (by rfl) (by rfl) (by rfl)) _ (by rfl)) (known_core 15 110 _ _ (of_decide_eq_true (by rfl)) (by rfl) (by rfl) (by rfl)) (known_core 13 111 _ _ (of_decide_eq_true (by rfl)) (by rfl) (by rfl) (by rfl)) ((fun ρ w hx hy => by simp only [execOp, hx, hy]; simp [go_sem]))
              · exact coreG_pick _ _ _ _ _ _ _ _ _ _ _ _ (by rfl) (by rfl) (wants_none) (known_core 10 106 _ _ (of_decide_eq_true (by rfl)) (by rfl) (by rfl) (by rfl)) (known_core 16 112 _ _ (of_decide_eq_true (by rfl)) (by rfl) (by rfl) (by rfl)) (known_const _) (by rfl)
              · exact coreG_move _ _ _ _ _ _ _ (by rfl) (by rfl) (wants_none) (known_core 17 113 _ _ (of_decide_eq_true (by rfl)) (by rfl) (by rfl) (by rfl))
              · exact coreG_held _ _ _ _ _ _ _ _ _ (by rfl) (by rfl) (wants_core 18 114 18 _ _ _ (by rfl) (by rfl) (by rfl) (known_core 18 114 _ _ (of_decide_eq_true (by rfl)) (by rfl) (by rfl) (by rfl)) _ (by rfl)) (known_old 1 _ (of_decide_eq_true (by rfl)) (by rfl)) (fun ρ w hx _ => fieldR1 _ _ _ _ _ _ ρ w gr hx)
              · exact coreG_held _ _ _ _ _ _ _ _ _ (by rfl) (by rfl) (wants_core 18 114 18 _ _ _ (by rfl) (by rfl) (by rfl) (known_core 18 114 _ _ (of_decide_eq_true (by rfl)) (by rfl) (by rfl) (by rfl)) _ (by rfl)) (known_core 19 115 _ _ (of_decide_eq_true (by rfl)) (by rfl) (by rfl) (by rfl)) (fun ρ w hx hs => loadR1 _ _ _ _ _ _ ρ w gr _ _ _ _ _ _ _ _ _ hx (hs.1))
              · exact coreG_move _ _ _ _ _ _ _ (by rfl) (by rfl) (wants_core 18 114 18 _ _ _ (by rfl) (by rfl) (by rfl) (known_core 18 114 _ _ (of_decide_eq_true (by rfl)) (by rfl) (by rfl) (by rfl)) _ (by rfl)) (known_old 9 _ (of_decide_eq_true (by rfl)) (by rfl))
              · exact core_pureAs _ (by rfl)
              · exact coreG_bin _ _ _ _ _ _ _ _ _ _ _ _ _ (by rfl) (by rfl) (wants_core 18 114 18 _ _ _ (by rfl) (by rfl) (by rfl) (known_core 18 114 _ _ (of_decide_eq_true (by rfl)) (by rfl) (by rfl) (by rfl)) _ (by rfl)) (known_core 20 116 _ _ (of_decide_eq_true (by rfl)) (by rfl) (by rfl) (by rfl)) (known_core 22 117 _ _ (of_decide_eq_true (by rfl)) (by rfl) (by rfl) (by rfl)) (eql_run false _ _ _ _ _ _ _ _ _ _ _ _ _ _ _ (HEY.out))
              · exact coreG_bin _ _ _ _ _ _ _ _ _ _ _ _ _ (by rfl) (by rfl) (wants_core 18 114 18 _ _ _ (by rfl) (by rfl) (by rfl) (known_core 18 114 _ _ (of_decide_eq_true (by rfl)) (by rfl) (by rfl) (by rfl)) _ (by rfl)) (known_core 23 118 _ _ (of_decide_eq_true (by rfl)) (by rfl) (by rfl) (by rfl)) (known_core 21 119 _ _ (of_decide_eq_true (by rfl)) (by rfl) (by rfl) (by rfl)) ((fun ρ w hx hy => by simp only [execOp, hx, hy]; simp [go_sem]))
              · exact coreG_pick _ _ _ _ _ _ _ _ _ _ _ _ (by rfl) (by rfl) (wants_none) (known_core 18 114 _ _ (of_decide_eq_true (by rfl)) (by rfl) (by rfl) (by rfl)) (known_core 24 120 _ _ (of_decide_eq_true (by rfl)) (by rfl) (by rfl) (by rfl)) (known_const _) (by rfl)
            · refine all_cons ?_ (all_cons ?_ (all_cons ?_ (all_cons ?_ (all_cons ?_ (all_cons ?_ (all_cons ?_ (all_cons ?_ (all_cons ?_ (all_cons ?_ (all_cons ?_ (all_cons ?_ (all_cons ?_ (all_cons ?_ (all_cons ?_ (all_cons ?_ (all_cons ?_ (all_cons ?_ (all_cons ?_ (all_cons ?_ (all_cons ?_ (all_cons ?_ (all_cons ?_ (all_cons ?_ (all_cons ?_ (all_cons ?_ (all_nil))))))))))))))))))))))))))
              · exact core_stepAs _ (by rfl)
              · exact core_stepAs _ (by rfl)
              · exact core_stepAs _ (by rfl)
              · exact core_stepAs _ (by rfl)
              · exact core_stepAs _ (by rfl)
              · exact core_stepAs _ (by rfl)
              · exact core_stepAs _ (by rfl)
              · exact fun _ => coreG_call _ 14 _ _ [.tmp 101] _ _ _ _ _ _ _ (by rfl) Try.func14 (by kernel_rfl) (by rfl) (by rfl) (wants_core 4 100 4 _ _ _ (by rfl) (by rfl) (by rfl) (known_core 4 100 _ _ (of_decide_eq_true (by rfl)) (by rfl) (by rfl) (by rfl)) _ (by rfl)) (.cons (known_core 5 101 _ _ (of_decide_eq_true (by rfl)) (by rfl) (by rfl) (by rfl)) .nil) ((fun u => HBW.out u))
              · exact core_stepAs _ (by rfl)
              · exact core_stepAs _ (by rfl)
              · exact core_stepAs _ (by rfl)
              · exact core_stepAs _ (by rfl)
              · exact core_stepAs _ (by rfl)
              · exact core_stepAs _ (by rfl)
              · exact core_stepAs _ (by rfl)
              · exact core_stepAs _ (by rfl)
              · exact core_stepAs _ (by rfl)
              · exact core_stepAs _ (by rfl)
              · exact core_stepAs _ (by rfl)
              · exact core_stepAs _ (by rfl)
              · exact core_stepAs _ (by rfl)
              · exact core_stepAs _ (by rfl)
              · exact fun _ => coreG_call _ 19 _ _ [.const (.int .u64 0)] _ _ _ _ _ _ _ (by rfl) Try.func19 (by kernel_rfl) (by rfl) (by rfl) (wants_core 18 114 18 _ _ _ (by rfl) (by rfl) (by rfl) (known_core 18 114 _ _ (of_decide_eq_true (by rfl)) (by rfl) (by rfl) (by rfl)) _ (by rfl)) (.cons (known_const _) .nil) (HO0.out)
              · exact core_stepAs _ (by rfl)
              · exact core_stepAs _ (by rfl)
              · exact core_stepAs _ (by rfl)
            intro vs y8 hc
            have BZ := bel_tr BW.out hc.bel
            refine assign_one (i := 26) (.tmp 121) 2 _ _ _ (.bool true) (by kernel_rfl) (by rfl) (hc.at_ (of_decide_eq_true (by kernel_rfl)) (by rfl) 25 121 _ (.bool true) (by rfl) (by rfl) (by rfl)) (⟨Fr.out.on hc.bel, Fb.out.on hc.bel⟩) ?_
            refine wpAnyH_done (by kernel_rfl) ?_ _
            refine NoPanic.normal ?_
            generalize hA : Act.put (over _ _ vs) (some 2) (.bool true) = A
            have hA0 : A.tmps.getD 2 undef = .bool true := by rw [← hA]; exact put_at _ _ _ (by rw [over_size]; exact Nat.le_of_ble_eq_true rfl)
            have hAd : A.defers = [] := by rw [← hA, put_defers, over_defers]
            clear hA hc
            go_wp2_with fail
            refine bodyPost_ret (v := .bool true) (by simp [results, Try.results7, go_sem] at hA0 ⊢; simp [hA0]) hAd ⟨rfl, BZ⟩
end Go.Proofs.Ytnphoelbbgmehaa
