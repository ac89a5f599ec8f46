/-
  HashesNumber: a number by m is below it, and what is left by m of the number by any multiple of it.
-/
import Derived.Test.YtkmjfaaelkmnkaaDoorMAlive6
import Derived.Test.YtkmjfaaelkmnkaaDoorMLawHOf
import Derived.Test.YtkmjfaaelkmnkaaDoorMNuShiftN
namespace Go.Proofs.YtkmjfaaelkmnkaaDoor
open Go.RowKit
set_option linter.unusedSimpArgs false
set_option linter.unusedVariables false
set_option maxRecDepth 100000

/-- the cells of a number and how many times -/
def tm (M y : Nat) : List Value := [.int .u64 (Nu.wd M 0 : Nat), .int .u64 (Nu.wd M 1 : Nat), .int .u64 (Nu.wd M 2 : Nat), .int .u64 (Nu.wd M 3 : Nat), .int .u16 (y : Nat)]
theorem tm_cells {w : World} {g M y : Nat} {t : TypeId} (h : At w g t (tm M y).toArray) : w.cell? ⟨g, 0, none⟩ = some (.int .u64 (Nu.wd M 0 : Nat)) ∧ w.cell? ⟨g, 1, none⟩ = some (.int .u64 (Nu.wd M 1 : Nat)) ∧ w.cell? ⟨g, 2, none⟩ = some (.int .u64 (Nu.wd M 2 : Nat)) ∧ w.cell? ⟨g, 3, none⟩ = some (.int .u64 (Nu.wd M 3 : Nat)) :=
  ⟨h.cell 0, h.cell 1, h.cell 2, h.cell 3⟩
theorem tm_by {w : World} {g M y : Nat} {t : TypeId} (h : At w g t (tm M y).toArray) : w.cell? ⟨g, 4, none⟩ = some (.int .u16 (y : Nat)) := h.cell 4
theorem tm_range {w : World} {g M y : Nat} {t : TypeId} (h : At w g t (tm M y).toArray) : w.rangeAt g 0 (nv M) := h.range _ (fun j v hv => by
  have hj : j < 4 := by have := (List.getElem?_eq_some_iff.1 hv).1; simpa [nv] using this
  rw [Nat.zero_add, List.getElem?_toArray, ← hv]
  rcases (by omega : j = 0 ∨ j = 1 ∨ j = 2 ∨ j = 3) with rfl | rfl | rfl | rfl <;> rfl)
section
variable {dst : Option Tmp} {ty : TypeId} {pos : String} {after : Array Edge} {gd : Option (Nat × Bool)} {x y' : Operand} {ρ : Operand → Value} {w : World}
theorem fldT0_run (g : Nat) (hx : ρ x = .pointer (some ⟨g, 0, none⟩)) : (execOp ρ ⟨dst, .fieldAddr 50 x 0, ty, pos, after, gd⟩).run Tryd.prog w = .ok (.value (.pointer (some ⟨g, 0, none⟩))) w := by
  simp [execOp, hx, go_sem]
theorem fldT1_run (g : Nat) (hx : ρ x = .pointer (some ⟨g, 0, none⟩)) : (execOp ρ ⟨dst, .fieldAddr 50 x 1, ty, pos, after, gd⟩).run Tryd.prog w = .ok (.value (.pointer (some ⟨g, 4, none⟩))) w := by
  simp [execOp, hx, go_sem]
theorem load16_run (g k y : Nat) (hx : ρ x = .pointer (some ⟨g, k, none⟩)) (hc : w.cell? ⟨g, k, none⟩ = some (.int .u16 (y : Nat))) : (execOp ρ ⟨dst, .load 23 x, ty, pos, after, gd⟩).run Tryd.prog w = .ok (.value (.int .u16 (y : Nat))) w := by
  simp [execOp, hx, hc, go_sem]
theorem conv16_run (y : Nat) (hy : y < 65536) (hx : ρ x = .int .u16 (y : Nat)) : (execOp ρ ⟨dst, .convert 23 35 x, ty, pos, after, gd⟩).run Tryd.prog w = .ok (.value (.int .u64 (y : Nat))) w := by
  have h : IntKind.u64.wrap (y : Int) = (y : Int) := by rw [IntKind.wrap_u64]; omega
  simp [execOp, hx, go_sem, h]
theorem one_add_run (y : Nat) (hy : y < 65536) (hx : ρ x = .int .u64 1) (hy2 : ρ y' = .int .u64 (y : Nat)) : (execOp ρ ⟨dst, .binOp .add 35 x y' 35, ty, pos, after, gd⟩).run Tryd.prog w = .ok (.value (.int .u64 (1 + y : Nat))) w := by
  have h : IntKind.u64.wrap (1 + (y : Int)) = ((1 + y : Nat) : Int) := by rw [IntKind.wrap_u64]; omega
  simp [execOp, hx, hy2, go_sem, h]
end

set_option maxHeartbeats 4000000 in
theorem hashesNumber_walk (s : ByteArray) (A : Option Addr) (n c : Nat) (RA : Nat → Option Addr) (RL RC : Nat → Nat) (RB : Nat → List Nat) (M y : Nat) (w : World) (hs : s.size ≤ 9223372036854775807) (hn0 : n ≤ 9223372036854775807) (hM : M < 2 ^ 256) (hy : y < 65536)
    (hnil : A = none → n = 0 ∧ c = 0) (hR : Rows2 w A n c RA RL RC RB) (T : Tabs w) :
    Calls Tryd.prog 6 #[.string s, .slice A n c, .agg (tm M y).toArray] w fun e w' => e = .returned (.bool true) ∧ Below w.heap.size w w' := by
  have HR := Lib.hid hR
  have HT := Lib.hid T
  have HN := Lib.hid hnil
  have HM := Lib.hid hM
  have HG := Lib.hid (fun w (h : Rows2 w A n c RA RL RC RB) => great_ok s A n c RA RL RC RB w hs hn0 h)
  clear hR T hnil hM
  obtain ⟨b0, hb0⟩ : ∃ b, grt s.size n RL = b := ⟨_, rfl⟩
  rw [hb0] at HG
  have HB0 := Lib.hid hb0
  clear hb0
  go_enter Tryd.func6, Tryd.ntmps6
  go_wp2_with (refine law_box (d := 5) (ty := 50) (tm M y).toArray rfl ?_; intro w1 N1; have H1 := Lib.hid N1; clear N1)
  have B1 := Lib.hid H1.out.bel
  have A1 := Lib.hid H1.out.at_
  have R1 := Lib.hid (HR.out.below B1.out)
  have T1 := Lib.hid (HT.out.on B1.out)
  clear H1 HR HT
  obtain ⟨g5, hg⟩ : ∃ z, w.heap.size = z := ⟨_, rfl⟩
  have GR := Lib.hid hg
  rw [hg] at A1 ⊢
  clear hg
  refine (Sf.alive6_ok w1 T1.out).mono ?_
  rintro e w2 ⟨rfl, b2⟩
  have B2 := Lib.hid (bel_tr B1.out b2)
  have A2 := Lib.hid (A1.out.on b2)
  have R2 := Lib.hid (R1.out.below b2)
  have T2 := Lib.hid (T1.out.on b2)
  clear b2 B1 A1 R1 T1
  go_wp2_with fail
  refine (HG.out _ R2.out).mono ?_
  rintro e w3 ⟨rfl, rfl⟩
  cases b0 with
  | true =>
    go_wp2_with fail
    refine (Sf.alive6_ok _ T2.out).mono ?_
    rintro e wx ⟨rfl, bx⟩
    have BX := Lib.hid (bel_tr B2.out bx)
    clear bx
    go_wp2
    go_ret
    exact ⟨rfl, BX.out⟩
  | false =>
    obtain ⟨hs5, hn2, ht2⟩ := grt_no HB0.out
    have HL := Lib.hid (fun j (hj : j < n) => (show RL j ≤ 20000 by have := tot_at RL n j hj; omega))
    clear HB0 ht2 HG
    have EQ := Nu.eqZ M HM.out
    obtain ⟨m0, m1, m2, m3⟩ := tm_cells A2.out
    by_cases hM0 : M = 0
    · rw [decide_eq_true hM0] at EQ
      clear hM0
      go_wp2_with (simp only [EQ])
      clear EQ m0 m1 m2 m3
      refine (Sf.alive6_ok _ T2.out).mono ?_
      rintro e wx ⟨rfl, bx⟩
      have BX := Lib.hid (bel_tr B2.out bx)
      clear bx
      go_wp2
      go_ret
      exact ⟨rfl, BX.out⟩
    · rw [decide_eq_false hM0] at EQ
      have HM0 := Lib.hid hM0
      clear hM0
      go_wp2_with (simp only [EQ])
      clear EQ m0 m1 m2 m3
      refine (number_ok M HM.out s A n c RA RL RC RB w2 (by omega) (by omega) (fun j hj => by have := HL.out j hj; omega) HN.out R2.out T2.out).mono ?_
      rintro e w3 ⟨rfl, b3⟩
      have A3 := Lib.hid (A2.out.on b3)
      have R3 := Lib.hid (R2.out.below b3)
      have T3 := Lib.hid (T2.out.on b3)
      have B3 := Lib.hid (bel_tr B2.out b3)
      clear b3 A2 R2 T2 B2
      rw [show errOf M = 0 from if_neg HM0.out]
      have HR1 : Hid (numOf M s n RB = twoN s n RB % M) := Lib.hid (if_neg HM0.out)
      obtain ⟨r, hr⟩ : ∃ z, numOf M s n RB = z := ⟨_, rfl⟩
      rw [hr] at HR1 ⊢
      clear hr
      have HRM : Hid (r < M) := Lib.hid (by rw [HR1.out]; exact Nat.mod_lt _ (Nat.pos_of_ne_zero HM0.out))
      go_wp2_with (first | (refine law_alloc (d := 7) (ty := 37) _ zero_num ?_; intro wa N1; have Ha := Lib.hid N1; clear N1) | (refine law_store (ty := 37) w3.heap.size 0 _ (nv 0).toArray (nv r) rfl rfl Ha.out.at_ (Nat.le_refl _) size_num (nv_one r) ?_; intro w4 P2; have b2 := Ha.out.put P2; have E4 := Lib.hid (Put.num P2); have A4 := Lib.hid (A3.out.on b2); have B4 := Lib.hid (bel_tr B3.out b2); have T4 := Lib.hid (T3.out.on b2); have R4 := Lib.hid (R3.out.below b2); clear b2 P2 Ha B3 T3 R3 A3))
      generalize w3.heap.size = g7 at *
      obtain ⟨L, Hh, hL, hH, hLH, CM0⟩ := Nu.mul_ex M (1 + y) HM.out (by omega)
      have CM := Lib.hid CM0
      have HLL := Lib.hid hL
      have HHH := Lib.hid hH
      have HLH := Lib.hid hLH
      have hg5 := A4.out.lt
      clear CM0 hL hH hLH
      try simp only [List.append_eq, List.cons_append, List.nil_append]
      refine wp_region_noPanic ?_
      refine wp_region_held_drew (S := fun w' => At w' g5 50 (tm M y).toArray) (by kernel_rfl) (A4.out.drew) (fun _ => ?_)
      refine wpAnyH_cores (fuel := 2) (⟨0, 39, [], Kind.val (.pointer (some ⟨g5, 0, none⟩)), true⟩ :: ⟨1, 40, [0], Kind.val (.agg (nv M).toArray), true⟩ :: ⟨2, 41, [1], Kind.val (.pointer (some ⟨g5, 4, none⟩)), true⟩ :: ⟨3, 42, [2], Kind.val (.int .u16 (y : Nat)), true⟩ :: ⟨4, 43, [3], Kind.val (.int .u64 (y : Nat)), true⟩ :: ⟨5, 44, [4], Kind.val (.int .u64 (1 + y : Nat)), true⟩ :: ⟨6, 45, [5], Kind.val (Nu.num (1 + y)), false⟩ :: ⟨7, 46, [1, 5, 6], Kind.val (.tuple #[Nu.num L, Nu.num Hh]), false⟩ :: ⟨8, 38, [5, 7], Kind.val (.tuple #[Nu.num L, Nu.num Hh]), true⟩ :: ⟨9, 47, [8], Kind.val (.agg (nv L).toArray), true⟩ :: ⟨10, 48, [8, 9], Kind.val (.agg (nv Hh).toArray), true⟩ :: ⟨11, 9, [5], Kind.cell w4.heap.size 37 (nv 0).toArray, false⟩ :: ⟨12, 10, [5], Kind.cell w4.heap.size 37 (nv 0).toArray, false⟩ :: []) _ _ w4 _ ?_ ?_ ?_ ?_ ?_ ?_ ?_ ?_ ?_ ?_ ?_
      · rfl
      · kernel_rfl
      · exact of_decide_eq_true (by kernel_rfl)
      · exact all_cons ⟨_, by rfl, by rfl⟩ (all_cons ⟨_, by rfl, by rfl⟩ (all_cons ⟨_, by rfl, by rfl⟩ (all_cons ⟨_, by rfl, by rfl⟩ (all_cons ⟨_, by rfl, by rfl⟩ (all_cons ⟨_, by rfl, by rfl⟩ (all_cons ⟨_, by rfl, by rfl⟩ (all_cons ⟨_, by rfl, by rfl⟩ (all_cons ⟨_, by rfl, by rfl⟩ (all_cons ⟨_, by rfl, by rfl⟩ (all_cons ⟨_, by rfl, by rfl⟩ (all_cons ⟨_, by rfl, by rfl⟩ (all_cons ⟨_, by rfl, by rfl⟩ (all_nil)))))))))))))
      · exact fun _ hb => A4.out.on hb
      · exact (Below.refl _ _).drew
      · kernel_rfl
      · exact fun _ _ _ _ _ h => h
      · refine all_cons ?_ (all_cons ?_ (all_cons ?_ (all_cons ?_ (all_cons ?_ (all_cons ?_ (all_cons ?_ (all_cons ?_ (all_cons ?_ (all_cons ?_ (all_cons ?_ (all_cons ?_ (all_cons ?_ (all_nil)))))))))))))
        · exact coreG_held _ _ _ _ _ _ _ _ _ (by rfl) (by rfl) wants_none (known_old 5 _ (of_decide_eq_true (by rfl)) (by rfl)) (fun ρ w hx _ => fldT0_run g5 hx)
        · exact coreG_held _ _ _ _ _ _ _ _ _ (by rfl) (by rfl) wants_none (known_core 0 39 _ _ (of_decide_eq_true (by rfl)) (by rfl) (by rfl) (by rfl)) (fun ρ w hx hS => load_run _ g5 0 (nv M) _ hx (tm_range hS) under_num rfl size_num)
        · exact coreG_held _ _ _ _ _ _ _ _ _ (by rfl) (by rfl) wants_none (known_old 5 _ (of_decide_eq_true (by rfl)) (by rfl)) (fun ρ w hx _ => fldT1_run g5 hx)
        · exact coreG_held _ _ _ _ _ _ _ _ _ (by rfl) (by rfl) wants_none (known_core 2 41 _ _ (of_decide_eq_true (by rfl)) (by rfl) (by rfl) (by rfl)) (fun ρ w hx hS => load16_run g5 4 y hx (tm_by hS))
        · exact coreG_conv _ _ _ _ _ _ _ _ _ _ (by rfl) (by rfl) wants_none (known_core 3 42 _ _ (of_decide_eq_true (by rfl)) (by rfl) (by rfl) (by rfl)) (fun ρ w hx => conv16_run y hy hx)
        · exact coreG_bin _ _ _ _ _ _ _ _ _ _ _ _ _ (by rfl) (by rfl) wants_none (known_const _) (known_core 4 43 _ _ (of_decide_eq_true (by rfl)) (by rfl) (by rfl) (by rfl)) (fun ρ w hx hy2 => one_add_run y hy hx hy2)
        · exact core_pureAs _ (by rfl)
        · exact core_pureAs _ (by rfl)
        · exact coreG_move _ _ _ _ _ _ _ (by rfl) (by rfl) wants_none (known_core 7 46 _ _ (of_decide_eq_true (by rfl)) (by rfl) (by rfl) (by rfl))
        · exact coreG_extract _ _ 0 _ _ _ _ _ _ (by rfl) (by rfl) wants_none (known_core 8 38 _ _ (of_decide_eq_true (by rfl)) (by rfl) (by rfl) (by rfl)) rfl
        · exact coreG_extract _ _ 1 _ _ _ _ _ _ (by rfl) (by rfl) wants_none (known_core 8 38 _ _ (of_decide_eq_true (by rfl)) (by rfl) (by rfl) (by rfl)) rfl
        · exact core_pureAs _ (by rfl)
        · exact core_pureAs _ (by rfl)
      · refine all_cons ?_ (all_cons ?_ (all_cons ?_ (all_cons ?_ (all_cons ?_ (all_cons ?_ (all_cons ?_ (all_cons ?_ (all_cons ?_ (all_cons ?_ (all_cons ?_ (all_cons ?_ (all_cons ?_ (all_nil)))))))))))))
        · exact core_stepAs _ (by rfl)
        · exact core_stepAs _ (by rfl)
        · exact core_stepAs _ (by rfl)
        · exact core_stepAs _ (by rfl)
        · exact core_stepAs _ (by rfl)
        · exact core_stepAs _ (by rfl)
        · exact fun _ => coreG_callB _ 25 _ _ [.tmp 44] _ _ _ _ _ _ _ (by rfl) Tryd.func25 (by kernel_rfl) (by rfl) (by rfl) wants_none (.cons (known_core 5 44 _ _ (of_decide_eq_true (by rfl)) (by rfl) (by rfl) (by rfl)) .nil) (fun u hb => Nu.of_any (1 + y) (by omega) u)
        · exact fun _ => coreG_callB _ 24 _ _ [.tmp 40, .tmp 45] _ _ _ _ _ _ _ (by rfl) Tryd.func24 (by kernel_rfl) (by rfl) (by rfl) wants_none (.cons (known_core 1 40 _ _ (of_decide_eq_true (by rfl)) (by rfl) (by rfl) (by rfl)) (.cons (known_core 6 45 _ _ (of_decide_eq_true (by rfl)) (by rfl) (by rfl) (by rfl)) .nil)) (fun u hb => CM.out u)
        · exact core_stepAs _ (by rfl)
        · exact core_stepAs _ (by rfl)
        · exact core_stepAs _ (by rfl)
        · exact fun _ => coreK_alloc _ _ _ _ _ _ _ (by rfl) zero_num (by rfl) (Nat.le_refl _)
        · exact fun _ => coreK_alloc _ _ _ _ _ _ _ (by rfl) zero_num (by rfl) (Nat.le_refl _)
      intro vs y9 hc
      have far := hc.far 11 12 _ _ rfl rfl rfl rfl (by decide) (by rfl) (by rfl)
      obtain ⟨vv0, vv1, vv2, vv3, vv4, vv5, vv6, vv7, vv8, vv9, vv10, vv11, vv12, rfl⟩ := len13 vs hc.lv
      have qq0 : vv0 = .pointer (some ⟨g5, 0, none⟩) := by obtain ⟨xx, hx, hy⟩ := hc.ok 0 _ rfl rfl; exact (Option.some.inj (show some vv0 = some xx from hx)).trans hy
      have qq1 : vv1 = .agg (nv M).toArray := by obtain ⟨xx, hx, hy⟩ := hc.ok 1 _ rfl rfl; exact (Option.some.inj (show some vv1 = some xx from hx)).trans hy
      have qq2 : vv2 = .pointer (some ⟨g5, 4, none⟩) := by obtain ⟨xx, hx, hy⟩ := hc.ok 2 _ rfl rfl; exact (Option.some.inj (show some vv2 = some xx from hx)).trans hy
      have qq3 : vv3 = .int .u16 (y : Nat) := by obtain ⟨xx, hx, hy⟩ := hc.ok 3 _ rfl rfl; exact (Option.some.inj (show some vv3 = some xx from hx)).trans hy
      have qq4 : vv4 = .int .u64 (y : Nat) := by obtain ⟨xx, hx, hy⟩ := hc.ok 4 _ rfl rfl; exact (Option.some.inj (show some vv4 = some xx from hx)).trans hy
      have qq5 : vv5 = .int .u64 (1 + y : Nat) := by obtain ⟨xx, hx, hy⟩ := hc.ok 5 _ rfl rfl; exact (Option.some.inj (show some vv5 = some xx from hx)).trans hy
      have qq6 : vv6 = Nu.num (1 + y) := by obtain ⟨xx, hx, hy⟩ := hc.ok 6 _ rfl rfl; exact (Option.some.inj (show some vv6 = some xx from hx)).trans hy
      have qq7 : vv7 = .tuple #[Nu.num L, Nu.num Hh] := by obtain ⟨xx, hx, hy⟩ := hc.ok 7 _ rfl rfl; exact (Option.some.inj (show some vv7 = some xx from hx)).trans hy
      have qq8 : vv8 = .tuple #[Nu.num L, Nu.num Hh] := by obtain ⟨xx, hx, hy⟩ := hc.ok 8 _ rfl rfl; exact (Option.some.inj (show some vv8 = some xx from hx)).trans hy
      have qq9 : vv9 = .agg (nv L).toArray := by obtain ⟨xx, hx, hy⟩ := hc.ok 9 _ rfl rfl; exact (Option.some.inj (show some vv9 = some xx from hx)).trans hy
      have qq10 : vv10 = .agg (nv Hh).toArray := by obtain ⟨xx, hx, hy⟩ := hc.ok 10 _ rfl rfl; exact (Option.some.inj (show some vv10 = some xx from hx)).trans hy
      obtain ⟨xx, hx, hy⟩ := hc.ok 11 _ rfl rfl
      obtain rfl := Option.some.inj (show some vv11 = some xx from hx)
      obtain ⟨g9, rfl, hg9, hat9⟩ := hy
      clear hx
      obtain ⟨xx, hx, hy⟩ := hc.ok 12 _ rfl rfl
      obtain rfl := Option.some.inj (show some vv12 = some xx from hx)
      obtain ⟨g10, rfl, hg10, hat10⟩ := hy
      clear hx
      have BZ := hc.bel
      clear hc
      subst qq0 qq1 qq2 qq3 qq4 qq5 qq6 qq7 qq8 qq9 qq10
      simp only [List.map_cons, List.map_nil, over, Act.put, List.setIfInBounds_toArray, List.set_cons_zero, List.set_cons_succ]
      have hne : g9 ≠ g10 := fun e => far (by rw [e]; rfl)
      clear far
      have A5 := A4.out.on BZ
      have P9 := Put.mk (At.sets (nv L) 0 _ _ hat9) (grown_sets (nv L) 0 _ (grown_rf _ _)) (size_sets g9 (nv L) 0 _)
      have A6 := A5.grown P9.grown (by simp; omega)
      have hat10' := hat10.grown P9.grown (by simp; omega)
      have B6 := (BZ.grown P9.grown BZ.size (by simp; omega) : Below w4.heap.size w4 _)
      refine store_row (i := 13) _ _ _ _ _ _ g9 0 _ (nv 0).toArray (nv L) (by kernel_rfl) (by rfl) (by rfl) (by rfl) hat9 (Nat.le_refl _) size_num (nv_one L) A6 ?_
      have P10 := Put.mk (At.sets (nv Hh) 0 _ _ hat10') (grown_sets (nv Hh) 0 _ (grown_rf _ _)) (size_sets g10 (nv Hh) 0 _)
      have A7 := A6.grown P10.grown (by simp; omega)
      have E9 := (Put.num P9).grown P10.grown (by simp; omega)
      have B7 := (B6.grown P10.grown B6.size (by simp; omega) : Below w4.heap.size w4 _)
      refine store_row (i := 14) _ _ _ _ _ _ g10 0 _ (nv 0).toArray (nv Hh) (by kernel_rfl) (by rfl) (by rfl) (by rfl) hat10' (Nat.le_refl _) size_num (nv_one Hh) A7 ?_
      refine wpAnyH_done (by kernel_rfl) ?_ _
      refine NoPanic.normal ?_
      have E10 := Put.num P10
      clear P9 P10 A6 B6 hat9 hat10 hat10' BZ A5
      generalize (y9.setCells g9 0 (nv L)).setCells g10 0 (nv Hh) = w5 at *
      have L5 := Lib.hid E9
      have M5 := Lib.hid E10
      have A5 := Lib.hid A7
      have E5 := Lib.hid (E4.out.on B7)
      have B5 := Lib.hid (bel_tr B4.out B7)
      have T5 := Lib.hid (T4.out.on B7)
      have R5 := Lib.hid (R4.out.below B7)
      clear E9 E10 A7 B7 E4 B4 T4 R4 A4 hg9 hg10 hne hg5 CM
      obtain ⟨c0, c1, c2, c3⟩ := at_num E5.out
      obtain ⟨m0, m1, m2, m3⟩ := tm_cells A5.out
      go_wp2_with fail
      clear c0 c1 c2 c3 m0 m1 m2 m3
      refine (Nu.cmp_any r M (by have := HRM.out; have := HM.out; omega) HM.out w5).mono ?_
      rintro e w6 ⟨rfl, b6⟩
      rw [Nu.cmpN_lt HRM.out]
      have L6 := Lib.hid (L5.out.on b6)
      have M6 := Lib.hid (M5.out.on b6)
      have A6 := Lib.hid (A5.out.on b6)
      have E6 := Lib.hid (E5.out.on b6)
      have B6 := Lib.hid (bel_tr B5.out b6)
      have T6 := Lib.hid (T5.out.on b6)
      have R6 := Lib.hid (R5.out.below b6)
      clear b6 L5 M5 A5 E5 B5 T5 R5
      obtain ⟨c0, c1, c2, c3⟩ := at_num M6.out
      obtain ⟨d0, d1, d2, d3⟩ := at_num L6.out
      have EZ := Nu.eqZ Hh HHH.out
      by_cases hH0 : Hh = 0
      · rw [decide_eq_true hH0] at EZ
        have HH0 := Lib.hid hH0
        clear hH0
        go_wp2_with (simp only [EZ])
        clear EZ c0 c1 c2 c3 d0 d1 d2 d3
        have HL1 : Hid (L = M * (1 + y)) := Lib.hid (by rw [HLH.out, HH0.out, Nat.mul_zero, Nat.add_zero])
        have HL0 : Hid (L ≠ 0) := Lib.hid (by rw [HL1.out]; exact Nat.mul_ne_zero HM0.out (by omega))
        refine (number_ok L HLL.out s A n c RA RL RC RB w6 (by omega) (by omega) (fun j hj => by have := HL.out j hj; omega) HN.out R6.out T6.out).mono ?_
        rintro e w7 ⟨rfl, b7⟩
        have A7 := Lib.hid (A6.out.on b7)
        have E7 := Lib.hid (E6.out.on b7)
        have B7 := Lib.hid (bel_tr B6.out b7)
        clear b7 L6 M6 A6 E6 B6 T6 R6
        rw [show errOf L = 0 from if_neg HL0.out]
        have HK1 : Hid (numOf L s n RB = twoN s n RB % L) := Lib.hid (if_neg HL0.out)
        have HKL : Hid (numOf L s n RB < 2 ^ 256) := Lib.hid (by
          rw [HK1.out]
          have := Nat.mod_lt (twoN s n RB) (Nat.pos_of_ne_zero HL0.out)
          have := HLL.out
          omega)
        obtain ⟨k, hk⟩ : ∃ z, numOf L s n RB = z := ⟨_, rfl⟩
        rw [hk] at HK1 HKL ⊢
        clear hk
        have HKM : Hid (k % M = r) := Lib.hid (by rw [HK1.out, HR1.out, HL1.out]; exact Nat.mod_mul_right_mod _ _ _)
        go_wp2_with (first | (refine law_alloc (d := 11) (ty := 37) _ zero_num ?_; intro wb N1; have Hb := Lib.hid N1; clear N1) | (refine law_store (ty := 37) w7.heap.size 0 _ (nv 0).toArray (nv k) rfl rfl Hb.out.at_ (Nat.le_refl _) size_num (nv_one k) ?_; intro w8 P2; have b2 := Hb.out.put P2; obtain ⟨d0, d1, d2, d3⟩ := at_num (Put.num P2); have A8 := Lib.hid (A7.out.on b2); obtain ⟨m0, m1, m2, m3⟩ := tm_cells A8.out; have E8 := Lib.hid (E7.out.on b2); have B8 := Lib.hid (bel_tr B7.out b2); clear b2 P2 Hb B7 E7 A7))
        clear d0 d1 d2 d3 m0 m1 m2 m3
        generalize w7.heap.size = g11 at *
        obtain ⟨Q, r2, hQ, hr2, hkq, CD⟩ := Nu.div_ex k M HKL.out HM.out HM0.out
        have HRR : Hid (r2 = r) := Lib.hid (by rw [← HKM.out, hkq, Nat.mul_comm, Nat.mul_add_mod, Nat.mod_eq_of_lt hr2])
        rw [HRR.out] at CD
        clear hQ hr2 hkq
        refine (CD w8).mono ?_
        rintro e w9 ⟨rfl, b9⟩
        have E9 := Lib.hid (E8.out.on b9)
        have B9 := Lib.hid (bel_tr B8.out b9)
        clear b9 E8 B8 A8 CD
        have EN := Nu.eqY r
        go_wp2_with (first | (refine law_alloc (d := 13) (ty := 37) _ zero_num ?_; intro wc N1; have Hc := Lib.hid N1; clear N1) | (refine law_alloc (d := 14) (ty := 37) _ zero_num ?_; intro wd N1; have Hd := Lib.hid N1; clear N1) | (refine law_store (ty := 37) w9.heap.size 0 _ (nv 0).toArray (nv Q) rfl rfl (Hc.out.at_.on Hd.out.bel) (Nat.le_refl _) size_num (nv_one Q) ?_; intro we P2; have He := Lib.hid P2; clear P2) | (refine law_store (ty := 37) wc.heap.size 0 _ (nv 0).toArray (nv r) rfl rfl (Hd.out.at_.grown He.out.grown (by have := Hc.out.size; simp; omega)) (Nat.le_refl _) size_num (nv_one r) ?_; intro wf P2; have b4 := bel_tr Hc.out.bel Hd.out.bel; have b5 : Below w9.heap.size w9 we := b4.grown He.out.grown b4.size (by simp); have b6 : Below w9.heap.size w9 wf := b5.grown P2.grown b5.size (by have := Hc.out.size; simp; omega); have BF := Lib.hid (bel_tr B9.out b6); obtain ⟨d0, d1, d2, d3⟩ := at_num (Put.num P2); obtain ⟨c0, c1, c2, c3⟩ := at_num (E9.out.on b6); clear b4 b5 b6 P2 He Hc Hd B9 E9) | simp only [EN])
        go_ret
        exact ⟨rfl, BF.out⟩
      · rw [decide_eq_false hH0] at EZ
        clear hH0
        go_wp2_with (simp only [EZ])
        go_ret
        exact ⟨rfl, B6.out⟩
end Go.Proofs.YtkmjfaaelkmnkaaDoor
