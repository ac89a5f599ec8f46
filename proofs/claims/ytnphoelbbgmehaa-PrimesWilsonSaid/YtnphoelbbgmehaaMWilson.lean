/-
  The walk of PrimesWilson: it answers true, and nothing that was there is changed.
-/
import Derived.Deep.Cut
import Derived.Test.YtnphoelbbgmehaaMAlive7
import Derived.Test.YtnphoelbbgmehaaMSmall
namespace Go.Proofs.Ytnphoelbbgmehaa
set_option maxRecDepth 100000
open Go.RowKit
set_option linter.unusedSimpArgs false
set_option linter.unusedVariables false
attribute [local go_sem ↓] Go.wp_at_zero Go.wp_at_succ

theorem fac_step (m j X : Nat) (h : X = Pr.fac j % m) : X * (j + 1) % m = Pr.fac (j + 1) % m := by
  rw [h, Pr.fac, Nat.mul_mod, Nat.mod_mod, ← Nat.mul_mod]

set_option maxRecDepth 100000 in
set_option maxHeartbeats 8000000 in
theorem wilson_walk (n : Nat) (hn : n < 65536) (w : World) : Calls Try.prog 9 #[.int .u16 (n : Nat)] w fun e w' => e = .returned (.bool true) ∧ Below w.heap.size w w' := by
  obtain ⟨a, ha⟩ : ∃ a, a = n % 1499 := ⟨_, rfl⟩
  obtain ⟨m, hm⟩ : ∃ m, m = 2 + a := ⟨_, rfl⟩
  obtain ⟨k, hk⟩ : ∃ k, m = k + 1 := ⟨m - 1, by omega⟩
  have hmod : (n : Int) % 1499 = (a : Nat) := by omega
  have hab : (a : Int) < 1499 := by omega
  have hadd : 2 + (a : Int) = (m : Nat) := by omega
  have hmb : m ≤ 1501 := by omega
  have hm2 : 2 ≤ m := by omega
  have hn2 : (n : Int) < 65536 := by omega
  have HM2 := Lib.hid hm2; have HK := Lib.hid hk; have HMB := Lib.hid hmb
  have HO := Lib.hid (fun w => ofP_any 1 (by decide) w)
  have HOM := Lib.hid (fun w => ofP_any m (by omega) w)
  clear ha hm hk hn hm2 hmb
  go_enter Try.func9, Try.ntmps9
  have BW := Lib.hid (Below.refl w.heap.size w)
  go_wp2_with fail
  clear hmod hab hadd hn2
  refine (HO.out _).mono ?_
  rintro e v1 ⟨rfl, z1⟩
  have NB := Lib.hid (bel_tr BW.out z1)
  clear BW z1 
  have BW := NB
  clear NB 
  go_wp2_with fail
  have Ex : w.heap.size ≤ v1.heap.size := by have := BW.out.size; omega
  generalize hW2 : (v1.alloc (.cells #[.int .u64 (wd 1 0 : Nat), .int .u64 (wd 1 1 : Nat), .int .u64 (wd 1 2 : Nat), .int .u64 (wd 1 3 : Nat)] 25)) = W2 at *
  have Nx : At W2 (v1.heap.size) _ _ := at_of hW2 (At.at_ _ _ _ _ (by simp))
  have NB := gr_of hW2 (gr_alloc BW.out _)
  clear hW2 BW 
  generalize v1.heap.size = gx at *
  have Fx := Lib.hid Nx
  have BW := Lib.hid NB
  clear NB Nx
  go_loopw [5] (fun s wr => ∃ j X : Nat, j + 1 ≤ m ∧ s = .int .u64 ((j + 1 : Nat) : Int) ∧ Hid (At wr gx 25 #[.int .u64 (wd X 0 : Nat), .int .u64 (wd X 1 : Nat), .int .u64 (wd X 2 : Nat), .int .u64 (wd X 3 : Nat)] ∧ Below w.heap.size w wr ∧ (X = Pr.fac j % m) ∧ (X < m))) (fun s _ => m - (intOf s).toNat)
  case atStart => exact ⟨0, 1, by have := HM2.out; omega, rfl, Fx.out, BW.out, (Nat.mod_eq_of_lt (by have := HM2.out; show 1 < m; omega)).symm, by have := HM2.out; omega⟩
  case round =>
    obtain ⟨j, X, hj, rfl, hM⟩ := hrel
    clear BW Fx
    have Fx := Lib.hid hM.out.1
    have BW := Lib.hid hM.out.2.1
    have HX := Lib.hid hM.out.2.2.1
    have HXM := Lib.hid hM.out.2.2.2
    clear hM
    by_cases hlt : j + 1 < m
    · have hlt2 : ((j + 1 : Nat) : Int) < (m : Int) := by omega
      obtain ⟨i, hi⟩ : ∃ i, i = j + 1 := ⟨_, rfl⟩
      rw [← hi] at hlt2 hlt ⊢
      have HI := Lib.hid hi; have HLT := Lib.hid hlt
      have hmb := HMB.out
      have HOI := Lib.hid (fun w => ofP_any i (by omega) w)
      have CM := mmul_yes X i m (by omega) (by have := HM2.out; omega) HXM.out hlt
      obtain ⟨Y, hY⟩ : ∃ Y, Y = X * i % m := ⟨_, rfl⟩
      rw [← hY] at CM
      have HCM := Lib.hid CM; have HY := Lib.hid hY
      have hib : (i : Int) + 1 ≤ 1502 := by omega
      clear CM hY hi hlt hj hmb
      go_upto_region 6 with fail
      try simp only [List.append_eq, List.cons_append, List.nil_append]
      refine wp_region_noPanic ?_
      refine wp_region_held_drew (S := fun w' => True) (by kernel_rfl) (trivial) (fun _ => ?_)
      refine wpAnyH_cores (fuel := 2) (⟨0, 19, [], Kind.val (.agg #[.int .u64 (wd X 0 : Nat), .int .u64 (wd X 1 : Nat), .int .u64 (wd X 2 : Nat), .int .u64 (wd X 3 : Nat)]), false⟩ :: ⟨1, 20, [], Kind.val (.int .u64 (i : Nat)), true⟩ :: ⟨2, 21, [1], Kind.val (.agg #[.int .u64 (wd i 0 : Nat), .int .u64 (wd i 1 : Nat), .int .u64 (wd i 2 : Nat), .int .u64 (wd i 3 : Nat)]), false⟩ :: ⟨3, 22, [], Kind.val (.int .u64 (m : Nat)), true⟩ :: ⟨4, 23, [3, 2], Kind.val (.agg #[.int .u64 (wd m 0 : Nat), .int .u64 (wd m 1 : Nat), .int .u64 (wd m 2 : Nat), .int .u64 (wd m 3 : Nat)]), false⟩ :: ⟨5, 24, [0, 2, 4], Kind.val (.tuple #[.agg #[.int .u64 (wd Y 0 : Nat), .int .u64 (wd Y 1 : Nat), .int .u64 (wd Y 2 : Nat), .int .u64 (wd Y 3 : Nat)], .int .i64 0]), false⟩ :: ⟨6, 18, [5], Kind.val (.tuple #[.agg #[.int .u64 (wd Y 0 : Nat), .int .u64 (wd Y 1 : Nat), .int .u64 (wd Y 2 : Nat), .int .u64 (wd Y 3 : Nat)], .int .i64 0]), true⟩ :: ⟨7, 25, [6], Kind.val (.agg #[.int .u64 (wd Y 0 : Nat), .int .u64 (wd Y 1 : Nat), .int .u64 (wd Y 2 : Nat), .int .u64 (wd Y 3 : Nat)]), true⟩ :: ⟨8, 26, [6], Kind.val (.int .i64 0), true⟩ :: ⟨9, 6, [], Kind.cell wr.heap.size 25 #[.int .u64 0, .int .u64 0, .int .u64 0, .int .u64 0], false⟩ :: []) _ _ wr _ ?_ ?_ ?_ ?_ ?_ ?_ ?_ ?_ ?_ ?_ ?_
      · rfl
      · kernel_rfl
      · exact of_decide_eq_true rfl
      · exact all_cons ⟨_, rfl, rfl⟩ (all_cons ⟨_, rfl, rfl⟩ (all_cons ⟨_, rfl, rfl⟩ (all_cons ⟨_, rfl, rfl⟩ (all_cons ⟨_, rfl, rfl⟩ (all_cons ⟨_, rfl, rfl⟩ (all_cons ⟨_, rfl, rfl⟩ (all_cons ⟨_, rfl, rfl⟩ (all_cons ⟨_, rfl, rfl⟩ (all_cons ⟨_, rfl, rfl⟩ (all_nil))))))))))
      · exact fun _ hb => trivial
      · exact (Below.refl _ _).drew
      · kernel_rfl
      · exact fun _ _ _ _ _ h => h
      · refine all_cons ?_ (all_cons ?_ (all_cons ?_ (all_cons ?_ (all_cons ?_ (all_cons ?_ (all_cons ?_ (all_cons ?_ (all_cons ?_ (all_cons ?_ (all_nil))))))))))
        · exact core_pureAs _ (by rfl)
        · exact core_move _ _ _ _ _ _ (by rfl) (by rfl) (known_old 5 _ (of_decide_eq_true (by rfl)) (by rfl))
        · exact core_pureAs _ (by rfl)
        · exact core_move _ _ _ _ _ _ (by rfl) (by rfl) (known_old 3 _ (of_decide_eq_true (by rfl)) (by rfl))
        · exact core_pureAs _ (by rfl)
        · exact core_pureAs _ (by rfl)
        · exact core_move _ _ _ _ _ _ (by rfl) (by rfl) (known_core 5 24 _ _ (of_decide_eq_true (by rfl)) (by rfl) (by rfl) (by rfl))
        · exact core_extract _ _ 0 _ _ _ _ _ (by rfl) (by rfl) (known_core 6 18 _ _ (of_decide_eq_true (by rfl)) (by rfl) (by rfl) (by rfl)) (by rfl)
        · exact core_extract _ _ 1 _ _ _ _ _ (by rfl) (by rfl) (known_core 6 18 _ _ (of_decide_eq_true (by rfl)) (by rfl) (by rfl) (by rfl)) (by rfl)
        · exact core_pureAs _ (by rfl)
      · refine all_cons ?_ (all_cons ?_ (all_cons ?_ (all_cons ?_ (all_cons ?_ (all_cons ?_ (all_cons ?_ (all_cons ?_ (all_cons ?_ (all_cons ?_ (all_nil))))))))))
        · exact fun _ => core_load _ _ _ _ _ gx _ _ _ _ (by rfl) (by rfl) (known_old 4 _ (of_decide_eq_true (by rfl)) (by rfl)) Fx.out
        · exact core_stepAs _ (by rfl)
        · exact fun _ => core_call _ 19 _ _ [.tmp 20] _ _ _ _ _ _ (by rfl) Try.func19 (by kernel_rfl) (by rfl) (by rfl) (.cons (known_core 1 20 _ _ (of_decide_eq_true (by rfl)) (by rfl) (by rfl) (by rfl)) .nil) (HOI.out)
        · exact core_stepAs _ (by rfl)
        · exact fun _ => core_call _ 19 _ _ [.tmp 22] _ _ _ _ _ _ (by rfl) Try.func19 (by kernel_rfl) (by rfl) (by rfl) (.cons (known_core 3 22 _ _ (of_decide_eq_true (by rfl)) (by rfl) (by rfl) (by rfl)) .nil) (HOM.out)
        · exact fun _ => core_call _ 26 _ _ [.tmp 19, .tmp 21, .tmp 23] _ _ _ _ _ _ (by rfl) Try.func26 (by kernel_rfl) (by rfl) (by rfl) (.cons (known_core 0 19 _ _ (of_decide_eq_true (by rfl)) (by rfl) (by rfl) (by rfl)) (.cons (known_core 2 21 _ _ (of_decide_eq_true (by rfl)) (by rfl) (by rfl) (by rfl)) (.cons (known_core 4 23 _ _ (of_decide_eq_true (by rfl)) (by rfl) (by rfl) (by rfl)) .nil))) (HCM.out)
        · exact core_stepAs _ (by rfl)
        · exact core_stepAs _ (by rfl)
        · exact core_stepAs _ (by rfl)
        · exact fun _ => core_alloc _ _ _ _ _ (by rfl) (by rfl) (Nat.le_refl _)
      intro vs y3 hc
      obtain ⟨vv0, vv1, vv2, vv3, vv4, vv5, vv6, vv7, vv8, vv9, rfl⟩ := len10 vs hc.lv
      have qq0 : vv0 = .agg #[.int .u64 (wd X 0 : Nat), .int .u64 (wd X 1 : Nat), .int .u64 (wd X 2 : Nat), .int .u64 (wd X 3 : Nat)] := by obtain ⟨xx, hx, hy⟩ := hc.ok 0 _ rfl rfl; exact (Option.some.inj (show some vv0 = some xx from hx)).trans hy
      have qq1 : vv1 = .int .u64 (i : Nat) := by obtain ⟨xx, hx, hy⟩ := hc.ok 1 _ rfl rfl; exact (Option.some.inj (show some vv1 = some xx from hx)).trans hy
      have qq2 : vv2 = .agg #[.int .u64 (wd i 0 : Nat), .int .u64 (wd i 1 : Nat), .int .u64 (wd i 2 : Nat), .int .u64 (wd i 3 : Nat)] := by obtain ⟨xx, hx, hy⟩ := hc.ok 2 _ rfl rfl; exact (Option.some.inj (show some vv2 = some xx from hx)).trans hy
      have qq3 : vv3 = .int .u64 (m : Nat) := by obtain ⟨xx, hx, hy⟩ := hc.ok 3 _ rfl rfl; exact (Option.some.inj (show some vv3 = some xx from hx)).trans hy
      have qq4 : vv4 = .agg #[.int .u64 (wd m 0 : Nat), .int .u64 (wd m 1 : Nat), .int .u64 (wd m 2 : Nat), .int .u64 (wd m 3 : Nat)] := by obtain ⟨xx, hx, hy⟩ := hc.ok 4 _ rfl rfl; exact (Option.some.inj (show some vv4 = some xx from hx)).trans hy
      have qq5 : vv5 = .tuple #[.agg #[.int .u64 (wd Y 0 : Nat), .int .u64 (wd Y 1 : Nat), .int .u64 (wd Y 2 : Nat), .int .u64 (wd Y 3 : Nat)], .int .i64 0] := by obtain ⟨xx, hx, hy⟩ := hc.ok 5 _ rfl rfl; exact (Option.some.inj (show some vv5 = some xx from hx)).trans hy
      have qq6 : vv6 = .tuple #[.agg #[.int .u64 (wd Y 0 : Nat), .int .u64 (wd Y 1 : Nat), .int .u64 (wd Y 2 : Nat), .int .u64 (wd Y 3 : Nat)], .int .i64 0] := by obtain ⟨xx, hx, hy⟩ := hc.ok 6 _ rfl rfl; exact (Option.some.inj (show some vv6 = some xx from hx)).trans hy
      have qq7 : vv7 = .agg #[.int .u64 (wd Y 0 : Nat), .int .u64 (wd Y 1 : Nat), .int .u64 (wd Y 2 : Nat), .int .u64 (wd Y 3 : Nat)] := by obtain ⟨xx, hx, hy⟩ := hc.ok 7 _ rfl rfl; exact (Option.some.inj (show some vv7 = some xx from hx)).trans hy
      have qq8 : vv8 = .int .i64 0 := by obtain ⟨xx, hx, hy⟩ := hc.ok 8 _ rfl rfl; exact (Option.some.inj (show some vv8 = some xx from hx)).trans hy
      obtain ⟨xx, hx, gy, hv, Ey, Ay⟩ := hc.ok 9 _ rfl rfl
      have qq9 : vv9 = .pointer (some ⟨gy, 0, none⟩) := (Option.some.inj (show some vv9 = some xx from hx)).trans hv
      clear hx hv
      have BZ := hc.bel
      clear hc
      have Nx := Fx.out.on BZ
      have Dxy : gx ≠ gy := by have := Fx.out.lt; omega
      have HSZ3 := BW.out.size
      have NB := bel_tr BW.out BZ
      clear BW BZ Fx
      subst qq0 qq1 qq2 qq3 qq4 qq5 qq6 qq7 qq8 qq9
      simp only [List.map_cons, List.map_nil, over, Act.put, List.setIfInBounds_toArray, List.set_cons_zero, List.set_cons_succ]
      have OLD := Ay
      replace Nx := put4_far Nx Dxy (.int .u64 (wd Y 0 : Nat)) (.int .u64 (wd Y 1 : Nat)) (.int .u64 (wd Y 2 : Nat)) (.int .u64 (wd Y 3 : Nat))
      replace Ay := put4_at Ay (.int .u64 (wd Y 0 : Nat)) (.int .u64 (wd Y 1 : Nat)) (.int .u64 (wd Y 2 : Nat)) (.int .u64 (wd Y 3 : Nat))
      replace NB := put4_below NB (Nat.le_trans HSZ3 Ey) (.int .u64 (wd Y 0 : Nat)) (.int .u64 (wd Y 1 : Nat)) (.int .u64 (wd Y 2 : Nat)) (.int .u64 (wd Y 3 : Nat))
      refine store_one (i := 10) _ _ _ _ _ gy _ _ _ _ _ _ _ _ (by kernel_rfl) (by rfl) (by rfl) (by rfl) OLD (trivial) ?_
      clear OLD
      generalize (put4 y3 gy (.int .u64 (wd Y 0 : Nat)) (.int .u64 (wd Y 1 : Nat)) (.int .u64 (wd Y 2 : Nat)) (.int .u64 (wd Y 3 : Nat))) = y3_10 at *
      refine assign_one (i := 11) _ 7 _ _ _ (.int .i64 0) (by kernel_rfl) (by rfl) (by rfl) (trivial) ?_
      try simp only [Act.put, List.setIfInBounds_toArray, List.set_cons_zero, List.set_cons_succ]
      refine wpAnyH_done (by kernel_rfl) ?_ _
      refine NoPanic.normal ?_
      have Fx := Lib.hid Nx
      have Fy := Lib.hid Ay
      have BW := Lib.hid NB
      clear NB Nx Ay
      clear Ey
      clear HSZ3
      have Ly := Fy.out.lt
      have cy0 := Fy.out.c0
      have cy1 := Fy.out.c1
      have cy2 := Fy.out.c2
      have cy3 := Fy.out.c3
      have Lx := Fx.out.lt
      have cx0 := Fx.out.c0
      have cx1 := Fx.out.c1
      have cx2 := Fx.out.c2
      have cx3 := Fx.out.c3
      have fx0 : y3_10.frozen? ⟨gx, 0, none⟩ = false := Fx.out.frozen 0
      have fx1 : y3_10.frozen? ⟨gx, 1, none⟩ = false := Fx.out.frozen 1
      have fx2 : y3_10.frozen? ⟨gx, 2, none⟩ = false := Fx.out.frozen 2
      have fx3 : y3_10.frozen? ⟨gx, 3, none⟩ = false := Fx.out.frozen 3
      go_wp2_with fail
      clear Ly cy0 cy1 cy2 cy3 Lx cx0 cx1 cx2 cx3 fx0 fx1 fx2 fx3
      generalize hW4 : ((((y3_10.setCell ⟨gx, 0, none⟩ (.int .u64 (wd Y 0 : Nat))).setCell ⟨gx, 1, none⟩ (.int .u64 (wd Y 1 : Nat))).setCell ⟨gx, 2, none⟩ (.int .u64 (wd Y 2 : Nat))).setCell ⟨gx, 3, none⟩ (.int .u64 (wd Y 3 : Nat))) = W4 at *
      have Nx := at_of hW4 ((Fx.out).put4 _ _ _ _)
      have Ny := at_of hW4 ((Fy.out).far4 Dxy.symm _ _ _ _)
      have NB := gr_of hW4 (((((BW.out).setCell Ex _).setCell Ex _).setCell Ex _).setCell Ex _)
      clear hW4 BW Fx Fy
      have Fx := Lib.hid Nx
      have Fy := Lib.hid Ny
      have BW := Lib.hid NB
      clear NB Nx Ny
      go_roundw
      case measure => (have := HLT.out; have := HI.out; simp [intOf]; omega)
      case rel =>
        have hi := HI.out; have hlt := HLT.out
        have hA : Y = Pr.fac (j + 1) % m := by rw [HY.out, hi, fac_step m j X HX.out]
        have hB : Y < m := by rw [HY.out]; exact Nat.mod_lt _ (by omega)
        have hC : (Value.int IntKind.u64 ((i : Int) + 1)) = .int .u64 ((j + 1 + 1 : Nat) : Int) := by congr 1; omega
        first
          | exact ⟨j + 1, Y, by omega, hC, Fx.out, BW.out, hA, hB⟩
          | ((repeat apply Exists.intro); exact ⟨⟨j + 1, Y, by omega, hC, Fx.out, BW.out, hA, hB⟩, rfl⟩)
    · have hlt2 : ¬ ((j + 1 : Nat) : Int) < (m : Int) := by omega
      obtain ⟨i, hi⟩ : ∃ i, i = j + 1 := ⟨_, rfl⟩
      rw [← hi] at hlt2 ⊢
      have hjk : j = k := by have := HK.out; omega
      have HX2 := Lib.hid (show X = Pr.fac (m - 1) % m by rw [HX.out, hjk, HK.out]; rfl)
      have HOK := Lib.hid (fun w => ofP_any k (by have := HMB.out; have := HK.out; omega) w)
      have HEQ := Lib.hid (eqN X k (by have := HXM.out; have := HMB.out; omega) (by have := HMB.out; have := HK.out; omega))
      clear hlt hj hjk hi
      go_upto_region 10 with fail
      by_cases hp : Pr.Pri m
      · have hx : X = k := by rw [HX2.out, Pr.wilson hp, HK.out]; rfl
        have HS := Lib.hid (fun w => small_t (n := m) (by have := HMB.out; omega) hp w)
        have hE := HEQ.out
        rw [decide_eq_true hx] at hE
        have HE := Lib.hid hE
        have hkk : (m : Int) - 1 = (k : Nat) := by have := HK.out; omega
        have HKK := Lib.hid hkk
        have HKW := Lib.hid (show IntKind.wrap .u64 (k : Int) = (k : Int) by rw [IntKind.wrap_u64]; have := HMB.out; have := HK.out; omega)
        clear hx hE hp hkk
        try simp only [List.append_eq, List.cons_append, List.nil_append]
        refine wp_region_noPanic ?_
        refine wp_region_held_drew (S := fun w' => At w' gx 25 #[.int .u64 (wd X 0 : Nat), .int .u64 (wd X 1 : Nat), .int .u64 (wd X 2 : Nat), .int .u64 (wd X 3 : Nat)]) (by kernel_rfl) (Fx.out.drew) (fun _ => ?_)
        refine wpAnyH_cores (fuel := 1) (⟨0, 30, [], Kind.val (.bool true), false⟩ :: ⟨1, 31, [0], Kind.val (.bool true), true⟩ :: ⟨2, 32, [1], Kind.val (.int .u64 (m : Nat)), true⟩ :: ⟨4, 34, [1, 2], Kind.val (.agg #[.int .u64 (wd X 0 : Nat), .int .u64 (wd X 1 : Nat), .int .u64 (wd X 2 : Nat), .int .u64 (wd X 3 : Nat)]), true⟩ :: ⟨5, 35, [1, 3], Kind.val (.int .u64 (m : Nat)), true⟩ :: ⟨6, 36, [1, 4], Kind.val (.int .u64 (k : Nat)), true⟩ :: ⟨3, 33, [1, 2, 5], Kind.val (.bool true), false⟩ :: ⟨7, 37, [1, 5, 6], Kind.val (.agg #[.int .u64 (wd k 0 : Nat), .int .u64 (wd k 1 : Nat), .int .u64 (wd k 2 : Nat), .int .u64 (wd k 3 : Nat)]), false⟩ :: ⟨8, 38, [1, 3, 7], Kind.val (.bool true), true⟩ :: ⟨9, 39, [1, 6, 8], Kind.val (.bool true), true⟩ :: ⟨10, 40, [1, 9], Kind.val (.bool true), true⟩ :: []) _ _ wr _ ?_ ?_ ?_ ?_ ?_ ?_ ?_ ?_ ?_ ?_ ?_
        · rfl
        · kernel_rfl
        · exact of_decide_eq_true (by kernel_rfl)
        · exact all_cons ⟨_, by rfl, by rfl⟩ (all_cons ⟨_, by rfl, by rfl⟩ (all_cons ⟨_, by rfl, by rfl⟩ (all_cons ⟨_, by rfl, by rfl⟩ (all_cons ⟨_, by rfl, by rfl⟩ (all_cons ⟨_, by rfl, by rfl⟩ (all_cons ⟨_, by rfl, by rfl⟩ (all_cons ⟨_, by rfl, by rfl⟩ (all_cons ⟨_, by rfl, by rfl⟩ (all_cons ⟨_, by rfl, by rfl⟩ (all_cons ⟨_, by rfl, by rfl⟩ (all_nil)))))))))))
        · exact fun _ hb => Fx.out.on hb
        · exact (Below.refl _ _).drew
        · kernel_rfl
        · exact fun _ _ _ _ _ h => h
        · refine all_cons ?_ (all_cons ?_ (all_cons ?_ (all_cons ?_ (all_cons ?_ (all_cons ?_ (all_cons ?_ (all_cons ?_ (all_cons ?_ (all_cons ?_ (all_cons ?_ (all_nil)))))))))))
          · exact core_pureAs _ (by rfl)
          · exact coreG_move _ _ _ _ _ _ _ (by rfl) (by rfl) (wants_none) (known_core 0 30 _ _ (of_decide_eq_true (by rfl)) (by rfl) (by rfl) (by rfl))
          · exact coreG_move _ _ _ _ _ _ _ (by rfl) (by rfl) (wants_core 1 31 1 _ _ _ (by rfl) (by rfl) (by rfl) (known_core 1 31 _ _ (of_decide_eq_true (by rfl)) (by rfl) (by rfl) (by rfl)) _ (by rfl)) (known_old 3 _ (of_decide_eq_true (by rfl)) (by rfl))
          · exact coreG_loadP _ _ _ _ _ _ gx _ _ _ _ (by rfl) (by rfl) (wants_core 1 31 1 _ _ _ (by rfl) (by rfl) (by rfl) (known_core 1 31 _ _ (of_decide_eq_true (by rfl)) (by rfl) (by rfl) (by rfl)) _ (by rfl)) (known_old 4 _ (of_decide_eq_true (by rfl)) (by rfl)) (fun _ hs => hs)
          · exact coreG_move _ _ _ _ _ _ _ (by rfl) (by rfl) (wants_core 1 31 1 _ _ _ (by rfl) (by rfl) (by rfl) (known_core 1 31 _ _ (of_decide_eq_true (by rfl)) (by rfl) (by rfl) (by rfl)) _ (by rfl)) (known_old 3 _ (of_decide_eq_true (by rfl)) (by rfl))
          · exact coreG_bin _ _ _ _ _ _ _ _ _ _ _ _ _ (by rfl) (by rfl) (wants_core 1 31 1 _ _ _ (by rfl) (by rfl) (by rfl) (known_core 1 31 _ _ (of_decide_eq_true (by rfl)) (by rfl) (by rfl) (by rfl)) _ (by rfl)) (known_core 4 35 _ _ (of_decide_eq_true (by rfl)) (by rfl) (by rfl) (by rfl)) (known_const _) ((fun ρ w hx hy => by simp only [execOp, hx, hy]; simp [go_sem, HKK.out, HKW.out]))
          · exact core_pureAs _ (by rfl)
          · exact core_pureAs _ (by rfl)
          · exact coreG_bin _ _ _ _ _ _ _ _ _ _ _ _ _ (by rfl) (by rfl) (wants_core 1 31 1 _ _ _ (by rfl) (by rfl) (by rfl) (known_core 1 31 _ _ (of_decide_eq_true (by rfl)) (by rfl) (by rfl) (by rfl)) _ (by rfl)) (known_core 3 34 _ _ (of_decide_eq_true (by rfl)) (by rfl) (by rfl) (by rfl)) (known_core 7 37 _ _ (of_decide_eq_true (by rfl)) (by rfl) (by rfl) (by rfl)) (eql_run true _ _ _ _ _ _ _ _ _ _ _ _ _ _ _ (HE.out))
          · exact coreG_bin _ _ _ _ _ _ _ _ _ _ _ _ _ (by rfl) (by rfl) (wants_core 1 31 1 _ _ _ (by rfl) (by rfl) (by rfl) (known_core 1 31 _ _ (of_decide_eq_true (by rfl)) (by rfl) (by rfl) (by rfl)) _ (by rfl)) (known_core 6 33 _ _ (of_decide_eq_true (by rfl)) (by rfl) (by rfl) (by rfl)) (known_core 8 38 _ _ (of_decide_eq_true (by rfl)) (by rfl) (by rfl) (by rfl)) ((fun ρ w hx hy => by simp only [execOp, hx, hy]; simp [go_sem]))
          · exact coreG_pick _ _ _ _ _ _ _ _ _ _ _ _ (by rfl) (by rfl) (wants_none) (known_core 1 31 _ _ (of_decide_eq_true (by rfl)) (by rfl) (by rfl) (by rfl)) (known_core 9 39 _ _ (of_decide_eq_true (by rfl)) (by rfl) (by rfl) (by rfl)) (known_const _) (by rfl)
        · refine all_cons ?_ (all_cons ?_ (all_cons ?_ (all_cons ?_ (all_cons ?_ (all_cons ?_ (all_cons ?_ (all_cons ?_ (all_cons ?_ (all_cons ?_ (all_cons ?_ (all_nil)))))))))))
          · exact fun _ => coreG_call _ 17 _ _ [] _ _ _ _ _ _ _ (by rfl) Try.func17 (by kernel_rfl) (by rfl) (by rfl) (wants_none) .nil (alive7_any)
          · exact core_stepAs _ (by rfl)
          · exact core_stepAs _ (by rfl)
          · exact core_stepAs _ (by rfl)
          · exact core_stepAs _ (by rfl)
          · exact core_stepAs _ (by rfl)
          · exact fun _ => coreG_call _ 10 _ _ [.tmp 32] _ _ _ _ _ _ _ (by rfl) Try.func10 (by kernel_rfl) (by rfl) (by rfl) (wants_core 1 31 1 _ _ _ (by rfl) (by rfl) (by rfl) (known_core 1 31 _ _ (of_decide_eq_true (by rfl)) (by rfl) (by rfl) (by rfl)) _ (by rfl)) (.cons (known_core 2 32 _ _ (of_decide_eq_true (by rfl)) (by rfl) (by rfl) (by rfl)) .nil) (HS.out)
          · exact fun _ => coreG_call _ 19 _ _ [.tmp 36] _ _ _ _ _ _ _ (by rfl) Try.func19 (by kernel_rfl) (by rfl) (by rfl) (wants_core 1 31 1 _ _ _ (by rfl) (by rfl) (by rfl) (known_core 1 31 _ _ (of_decide_eq_true (by rfl)) (by rfl) (by rfl) (by rfl)) _ (by rfl)) (.cons (known_core 5 36 _ _ (of_decide_eq_true (by rfl)) (by rfl) (by rfl) (by rfl)) .nil) (HOK.out)
          · exact core_stepAs _ (by rfl)
          · exact core_stepAs _ (by rfl)
          · exact core_stepAs _ (by rfl)
        intro vs y3 hc
        have BZ := bel_tr BW.out hc.bel
        refine assign_one (i := 11) (.tmp 40) 2 _ _ _ (.bool true) (by kernel_rfl) (by rfl) (hc.at_ (of_decide_eq_true (by kernel_rfl)) (by rfl) 10 40 _ (.bool true) (by rfl) (by rfl) (by rfl)) (Fx.out.on hc.bel) ?_
        refine wpAnyH_done (by kernel_rfl) ?_ _
        refine NoPanic.normal ?_
        generalize hA : Act.put (over _ _ vs) (some 2) (.bool true) = A
        have hA0 : A.tmps.getD 2 undef = .bool true := by rw [← hA]; exact put_at _ _ _ (by rw [over_size]; exact Nat.le_of_ble_eq_true rfl)
        have hAd : A.defers = [] := by rw [← hA, put_defers, over_defers]
        clear hA hc
        go_wp2_with fail
        refine bodyPost_ret (v := .bool true) (by simp [results, Try.results9, go_sem] at hA0 ⊢; simp [hA0]) hAd ⟨rfl, BZ⟩
      · have hx : ¬ X = k := fun h => hp (Pr.wilson_back HM2.out (by rw [← HX2.out, h, HK.out]; rfl))
        have HS := Lib.hid (fun w => small_f (n := m) (by have := HMB.out; omega) (fun h => hp h.2) w)
        have hE := HEQ.out
        rw [decide_eq_false hx] at hE
        have HE := Lib.hid hE
        have hkk : (m : Int) - 1 = (k : Nat) := by have := HK.out; omega
        have HKK := Lib.hid hkk
        have HKW := Lib.hid (show IntKind.wrap .u64 (k : Int) = (k : Int) by rw [IntKind.wrap_u64]; have := HMB.out; have := HK.out; omega)
        clear hx hE hp hkk
        try simp only [List.append_eq, List.cons_append, List.nil_append]
        refine wp_region_noPanic ?_
        refine wp_region_held_drew (S := fun w' => At w' gx 25 #[.int .u64 (wd X 0 : Nat), .int .u64 (wd X 1 : Nat), .int .u64 (wd X 2 : Nat), .int .u64 (wd X 3 : Nat)]) (by kernel_rfl) (Fx.out.drew) (fun _ => ?_)
        refine wpAnyH_cores (fuel := 1) (⟨0, 30, [], Kind.val (.bool true), false⟩ :: ⟨1, 31, [0], Kind.val (.bool true), true⟩ :: ⟨2, 32, [1], Kind.val (.int .u64 (m : Nat)), true⟩ :: ⟨4, 34, [1, 2], Kind.val (.agg #[.int .u64 (wd X 0 : Nat), .int .u64 (wd X 1 : Nat), .int .u64 (wd X 2 : Nat), .int .u64 (wd X 3 : Nat)]), true⟩ :: ⟨5, 35, [1, 3], Kind.val (.int .u64 (m : Nat)), true⟩ :: ⟨6, 36, [1, 4], Kind.val (.int .u64 (k : Nat)), true⟩ :: ⟨3, 33, [1, 2, 5], Kind.val (.bool false), false⟩ :: ⟨7, 37, [1, 5, 6], Kind.val (.agg #[.int .u64 (wd k 0 : Nat), .int .u64 (wd k 1 : Nat), .int .u64 (wd k 2 : Nat), .int .u64 (wd k 3 : Nat)]), false⟩ :: ⟨8, 38, [1, 3, 7], Kind.val (.bool false), true⟩ :: ⟨9, 39, [1, 6, 8], Kind.val (.bool true), true⟩ :: ⟨10, 40, [1, 9], Kind.val (.bool true), true⟩ :: []) _ _ wr _ ?_ ?_ ?_ ?_ ?_ ?_ ?_ ?_ ?_ ?_ ?_
        · rfl
        · kernel_rfl
        · exact of_decide_eq_true (by kernel_rfl)
        · exact all_cons ⟨_, by rfl, by rfl⟩ (all_cons ⟨_, by rfl, by rfl⟩ (all_cons ⟨_, by rfl, by rfl⟩ (all_cons ⟨_, by rfl, by rfl⟩ (all_cons ⟨_, by rfl, by rfl⟩ (all_cons ⟨_, by rfl, by rfl⟩ (all_cons ⟨_, by rfl, by rfl⟩ (all_cons ⟨_, by rfl, by rfl⟩ (all_cons ⟨_, by rfl, by rfl⟩ (all_cons ⟨_, by rfl, by rfl⟩ (all_cons ⟨_, by rfl, by rfl⟩ (all_nil)))))))))))
        · exact fun _ hb => Fx.out.on hb
        · exact (Below.refl _ _).drew
        · kernel_rfl
        · exact fun _ _ _ _ _ h => h
        · refine all_cons ?_ (all_cons ?_ (all_cons ?_ (all_cons ?_ (all_cons ?_ (all_cons ?_ (all_cons ?_ (all_cons ?_ (all_cons ?_ (all_cons ?_ (all_cons ?_ (all_nil)))))))))))
          · exact core_pureAs _ (by rfl)
          · exact coreG_move _ _ _ _ _ _ _ (by rfl) (by rfl) (wants_none) (known_core 0 30 _ _ (of_decide_eq_true (by rfl)) (by rfl) (by rfl) (by rfl))
          · exact coreG_move _ _ _ _ _ _ _ (by rfl) (by rfl) (wants_core 1 31 1 _ _ _ (by rfl) (by rfl) (by rfl) (known_core 1 31 _ _ (of_decide_eq_true (by rfl)) (by rfl) (by rfl) (by rfl)) _ (by rfl)) (known_old 3 _ (of_decide_eq_true (by rfl)) (by rfl))
          · exact coreG_loadP _ _ _ _ _ _ gx _ _ _ _ (by rfl) (by rfl) (wants_core 1 31 1 _ _ _ (by rfl) (by rfl) (by rfl) (known_core 1 31 _ _ (of_decide_eq_true (by rfl)) (by rfl) (by rfl) (by rfl)) _ (by rfl)) (known_old 4 _ (of_decide_eq_true (by rfl)) (by rfl)) (fun _ hs => hs)
          · exact coreG_move _ _ _ _ _ _ _ (by rfl) (by rfl) (wants_core 1 31 1 _ _ _ (by rfl) (by rfl) (by rfl) (known_core 1 31 _ _ (of_decide_eq_true (by rfl)) (by rfl) (by rfl) (by rfl)) _ (by rfl)) (known_old 3 _ (of_decide_eq_true (by rfl)) (by rfl))
          · exact coreG_bin _ _ _ _ _ _ _ _ _ _ _ _ _ (by rfl) (by rfl) (wants_core 1 31 1 _ _ _ (by rfl) (by rfl) (by rfl) (known_core 1 31 _ _ (of_decide_eq_true (by rfl)) (by rfl) (by rfl) (by rfl)) _ (by rfl)) (known_core 4 35 _ _ (of_decide_eq_true (by rfl)) (by rfl) (by rfl) (by rfl)) (known_const _) ((fun ρ w hx hy => by simp only [execOp, hx, hy]; simp [go_sem, HKK.out, HKW.out]))
          · exact core_pureAs _ (by rfl)
          · exact core_pureAs _ (by rfl)
          · exact coreG_bin _ _ _ _ _ _ _ _ _ _ _ _ _ (by rfl) (by rfl) (wants_core 1 31 1 _ _ _ (by rfl) (by rfl) (by rfl) (known_core 1 31 _ _ (of_decide_eq_true (by rfl)) (by rfl) (by rfl) (by rfl)) _ (by rfl)) (known_core 3 34 _ _ (of_decide_eq_true (by rfl)) (by rfl) (by rfl) (by rfl)) (known_core 7 37 _ _ (of_decide_eq_true (by rfl)) (by rfl) (by rfl) (by rfl)) (eql_run false _ _ _ _ _ _ _ _ _ _ _ _ _ _ _ (HE.out))
          · exact coreG_bin _ _ _ _ _ _ _ _ _ _ _ _ _ (by rfl) (by rfl) (wants_core 1 31 1 _ _ _ (by rfl) (by rfl) (by rfl) (known_core 1 31 _ _ (of_decide_eq_true (by rfl)) (by rfl) (by rfl) (by rfl)) _ (by rfl)) (known_core 6 33 _ _ (of_decide_eq_true (by rfl)) (by rfl) (by rfl) (by rfl)) (known_core 8 38 _ _ (of_decide_eq_true (by rfl)) (by rfl) (by rfl) (by rfl)) ((fun ρ w hx hy => by simp only [execOp, hx, hy]; simp [go_sem]))
          · exact coreG_pick _ _ _ _ _ _ _ _ _ _ _ _ (by rfl) (by rfl) (wants_none) (known_core 1 31 _ _ (of_decide_eq_true (by rfl)) (by rfl) (by rfl) (by rfl)) (known_core 9 39 _ _ (of_decide_eq_true (by rfl)) (by rfl) (by rfl) (by rfl)) (known_const _) (by rfl)
        · refine all_cons ?_ (all_cons ?_ (all_cons ?_ (all_cons ?_ (all_cons ?_ (all_cons ?_ (all_cons ?_ (all_cons ?_ (all_cons ?_ (all_cons ?_ (all_cons ?_ (all_nil)))))))))))
          · exact fun _ => coreG_call _ 17 _ _ [] _ _ _ _ _ _ _ (by rfl) Try.func17 (by kernel_rfl) (by rfl) (by rfl) (wants_none) .nil (alive7_any)
          · exact core_stepAs _ (by rfl)
          · exact core_stepAs _ (by rfl)
          · exact core_stepAs _ (by rfl)
          · exact core_stepAs _ (by rfl)
          · exact core_stepAs _ (by rfl)
          · exact fun _ => coreG_call _ 10 _ _ [.tmp 32] _ _ _ _ _ _ _ (by rfl) Try.func10 (by kernel_rfl) (by rfl) (by rfl) (wants_core 1 31 1 _ _ _ (by rfl) (by rfl) (by rfl) (known_core 1 31 _ _ (of_decide_eq_true (by rfl)) (by rfl) (by rfl) (by rfl)) _ (by rfl)) (.cons (known_core 2 32 _ _ (of_decide_eq_true (by rfl)) (by rfl) (by rfl) (by rfl)) .nil) (HS.out)
          · exact fun _ => coreG_call _ 19 _ _ [.tmp 36] _ _ _ _ _ _ _ (by rfl) Try.func19 (by kernel_rfl) (by rfl) (by rfl) (wants_core 1 31 1 _ _ _ (by rfl) (by rfl) (by rfl) (known_core 1 31 _ _ (of_decide_eq_true (by rfl)) (by rfl) (by rfl) (by rfl)) _ (by rfl)) (.cons (known_core 5 36 _ _ (of_decide_eq_true (by rfl)) (by rfl) (by rfl) (by rfl)) .nil) (HOK.out)
          · exact core_stepAs _ (by rfl)
          · exact core_stepAs _ (by rfl)
          · exact core_stepAs _ (by rfl)
        intro vs y3 hc
        have BZ := bel_tr BW.out hc.bel
        refine assign_one (i := 11) (.tmp 40) 2 _ _ _ (.bool true) (by kernel_rfl) (by rfl) (hc.at_ (of_decide_eq_true (by kernel_rfl)) (by rfl) 10 40 _ (.bool true) (by rfl) (by rfl) (by rfl)) (Fx.out.on hc.bel) ?_
        refine wpAnyH_done (by kernel_rfl) ?_ _
        refine NoPanic.normal ?_
        generalize hA : Act.put (over _ _ vs) (some 2) (.bool true) = A
        have hA0 : A.tmps.getD 2 undef = .bool true := by rw [← hA]; exact put_at _ _ _ (by rw [over_size]; exact Nat.le_of_ble_eq_true rfl)
        have hAd : A.defers = [] := by rw [← hA, put_defers, over_defers]
        clear hA hc
        go_wp2_with fail
        refine bodyPost_ret (v := .bool true) (by simp [results, Try.results9, go_sem] at hA0 ⊢; simp [hA0]) hAd ⟨rfl, BZ⟩
end Go.Proofs.Ytnphoelbbgmehaa
