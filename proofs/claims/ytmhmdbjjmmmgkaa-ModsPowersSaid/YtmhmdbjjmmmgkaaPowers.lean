/-
  The walk of ModsPowers: it answers true, and nothing that was there is changed.
-/
import Derived.Test.YtmhmdbjjmmmgkaaAlive4
import Derived.Test.YtmhmdbjjmmmgkaaMult
namespace Go.Proofs.Ytmhmdbjjmmmgkaa
open Go.RowKit
set_option linter.unusedSimpArgs false
set_option linter.unusedVariables false
attribute [local go_sem ↓] Go.wp_at_zero Go.wp_at_succ

theorem idx32_0 (dst : Option Tmp) (ty : TypeId) (pos : String) (after : Array Edge) (gd : Option (Nat × Bool)) (x : Operand) (ρ : Operand → Value) (w : World) (g : Nat) (hx : ρ x = .pointer (some ⟨g, 0, none⟩)) (hcc : ρ (.const (.int .i64 0)) = .int .i64 0) :
    (execOp ρ ⟨dst, .indexAddr 45 x (.const (.int .i64 0)), ty, pos, after, gd⟩).run Try.prog w = .ok (.value (.pointer (some ⟨g, 0, none⟩))) w := by
  simp [execOp, hx, hcc, go_sem]
theorem idx32_1 (dst : Option Tmp) (ty : TypeId) (pos : String) (after : Array Edge) (gd : Option (Nat × Bool)) (x : Operand) (ρ : Operand → Value) (w : World) (g : Nat) (hx : ρ x = .pointer (some ⟨g, 0, none⟩)) (hcc : ρ (.const (.int .i64 1)) = .int .i64 1) :
    (execOp ρ ⟨dst, .indexAddr 45 x (.const (.int .i64 1)), ty, pos, after, gd⟩).run Try.prog w = .ok (.value (.pointer (some ⟨g, 1, none⟩))) w := by
  simp [execOp, hx, hcc, go_sem]
theorem load32_run (dst : Option Tmp) (ty : TypeId) (pos : String) (after : Array Edge) (gd : Option (Nat × Bool)) (x : Operand) (ρ : Operand → Value) (w : World) (g k : Nat) (u : Value) (hx : ρ x = .pointer (some ⟨g, k, none⟩)) (h : w.cell? ⟨g, k, none⟩ = some u) :
    (execOp ρ ⟨dst, .load 44 x, ty, pos, after, gd⟩).run Try.prog w = .ok (.value u) w := by
  simp [execOp, hx, go_sem, h]
theorem conv32_run (dst : Option Tmp) (ty : TypeId) (pos : String) (after : Array Edge) (gd : Option (Nat × Bool)) (x : Operand) (ρ : Operand → Value) (w : World) (n : Nat) (hn : n < 4294967296) (hx : ρ x = .int .u32 (n : Nat)) :
    (execOp ρ ⟨dst, .convert 44 22 x, ty, pos, after, gd⟩).run Try.prog w = .ok (.value (.int .u64 (n : Nat))) w := by
  simp [execOp, hx, go_sem]
  try (rw [IntKind.wrap_u64]; omega)
theorem add64_run (dst : Option Tmp) (ty : TypeId) (pos : String) (after : Array Edge) (gd : Option (Nat × Bool)) (x : Operand) (ρ : Operand → Value) (w : World) (y : Operand) (a b : Nat) (h : a + b < 18446744073709551616) (hx : ρ x = .int .u64 (a : Nat)) (hy : ρ y = .int .u64 (b : Nat)) :
    (execOp ρ ⟨dst, .binOp BinOp.add 22 x y 22, ty, pos, after, gd⟩).run Try.prog w = .ok (.value (.int .u64 ((a + b : Nat) : Int))) w := by
  simp [execOp, hx, hy, go_sem]
  rw [IntKind.wrap_u64]; omega
theorem mul64_run (dst : Option Tmp) (ty : TypeId) (pos : String) (after : Array Edge) (gd : Option (Nat × Bool)) (x : Operand) (ρ : Operand → Value) (w : World) (y : Operand) (a b : Nat) (h : a * b < 18446744073709551616) (hx : ρ x = .int .u64 (a : Nat)) (hy : ρ y = .int .u64 (b : Nat)) :
    (execOp ρ ⟨dst, .binOp BinOp.mul 22 x y 22, ty, pos, after, gd⟩).run Try.prog w = .ok (.value (.int .u64 ((a * b : Nat) : Int))) w := by
  simp only [execOp, hx, hy]
  simp [go_sem]
  rw [← Int.natCast_mul, IntKind.wrap_u64]; omega

set_option maxRecDepth 100000 in
set_option maxHeartbeats 8000000 in
theorem powers_none (X Y i j M Z : Nat) (k : Int)
    (hk : k ≤ 0)
    (O : ∀ w, Calls Try.prog 28 #[.int .u64 1] w fun e w' => e = .returned (num Z) ∧ Below w.heap.size w w')
    (K : ∀ w, Calls Try.prog 27 #[num M, num Z] w fun e w' => e = .returned (.int .i64 k) ∧ Below w.heap.size w w')
    (w : World) : Calls Try.prog 7 #[.agg #[.int .u64 (wd X 0 : Nat), .int .u64 (wd X 1 : Nat), .int .u64 (wd X 2 : Nat), .int .u64 (wd X 3 : Nat), .int .u64 (wd Y 0 : Nat), .int .u64 (wd Y 1 : Nat), .int .u64 (wd Y 2 : Nat), .int .u64 (wd Y 3 : Nat)], .agg #[.int .u32 (i : Nat), .int .u32 (j : Nat)], num M] w fun e w' => e = .returned (.bool true) ∧ Below w.heap.size w w' := by
  have HO := Lib.hid O
  have HK := Lib.hid K
  clear O K
  go_enter Try.func7, Try.ntmps7
  go_wp2_with fail
  have BW := Lib.hid (Below.refl w.heap.size w)
  have Narr : At (((w.alloc (.cells #[.int .u64 (wd X 0 : Nat), .int .u64 (wd X 1 : Nat), .int .u64 (wd X 2 : Nat), .int .u64 (wd X 3 : Nat), .int .u64 (wd Y 0 : Nat), .int .u64 (wd Y 1 : Nat), .int .u64 (wd Y 2 : Nat), .int .u64 (wd Y 3 : Nat)] 43)).alloc (.cells #[.int .u32 (i : Nat), .int .u32 (j : Nat)] 45)).alloc (.cells #[.int .u64 (wd M 0 : Nat), .int .u64 (wd M 1 : Nat), .int .u64 (wd M 2 : Nat), .int .u64 (wd M 3 : Nat)] 24)) (w.heap.size) 43 #[.int .u64 (wd X 0 : Nat), .int .u64 (wd X 1 : Nat), .int .u64 (wd X 2 : Nat), .int .u64 (wd X 3 : Nat), .int .u64 (wd Y 0 : Nat), .int .u64 (wd Y 1 : Nat), .int .u64 (wd Y 2 : Nat), .int .u64 (wd Y 3 : Nat)] := ((At.at_ _ _ _ _ (by simp)).alloc _).alloc _
  have Npr : At (((w.alloc (.cells #[.int .u64 (wd X 0 : Nat), .int .u64 (wd X 1 : Nat), .int .u64 (wd X 2 : Nat), .int .u64 (wd X 3 : Nat), .int .u64 (wd Y 0 : Nat), .int .u64 (wd Y 1 : Nat), .int .u64 (wd Y 2 : Nat), .int .u64 (wd Y 3 : Nat)] 43)).alloc (.cells #[.int .u32 (i : Nat), .int .u32 (j : Nat)] 45)).alloc (.cells #[.int .u64 (wd M 0 : Nat), .int .u64 (wd M 1 : Nat), .int .u64 (wd M 2 : Nat), .int .u64 (wd M 3 : Nat)] 24)) (w.heap.size + 1) 45 #[.int .u32 (i : Nat), .int .u32 (j : Nat)] := (At.at_ _ _ _ _ (by simp)).alloc _
  have Nm : At (((w.alloc (.cells #[.int .u64 (wd X 0 : Nat), .int .u64 (wd X 1 : Nat), .int .u64 (wd X 2 : Nat), .int .u64 (wd X 3 : Nat), .int .u64 (wd Y 0 : Nat), .int .u64 (wd Y 1 : Nat), .int .u64 (wd Y 2 : Nat), .int .u64 (wd Y 3 : Nat)] 43)).alloc (.cells #[.int .u32 (i : Nat), .int .u32 (j : Nat)] 45)).alloc (.cells #[.int .u64 (wd M 0 : Nat), .int .u64 (wd M 1 : Nat), .int .u64 (wd M 2 : Nat), .int .u64 (wd M 3 : Nat)] 24)) (w.heap.size + 1 + 1) 24 #[.int .u64 (wd M 0 : Nat), .int .u64 (wd M 1 : Nat), .int .u64 (wd M 2 : Nat), .int .u64 (wd M 3 : Nat)] := At.at_ _ _ _ _ (by simp)
  have NB : Below w.heap.size w (((w.alloc (.cells #[.int .u64 (wd X 0 : Nat), .int .u64 (wd X 1 : Nat), .int .u64 (wd X 2 : Nat), .int .u64 (wd X 3 : Nat), .int .u64 (wd Y 0 : Nat), .int .u64 (wd Y 1 : Nat), .int .u64 (wd Y 2 : Nat), .int .u64 (wd Y 3 : Nat)] 43)).alloc (.cells #[.int .u32 (i : Nat), .int .u32 (j : Nat)] 45)).alloc (.cells #[.int .u64 (wd M 0 : Nat), .int .u64 (wd M 1 : Nat), .int .u64 (wd M 2 : Nat), .int .u64 (wd M 3 : Nat)] 24)) := gr_alloc (gr_alloc (gr_alloc BW.out _) _) _
  clear BW 
  generalize (((w.alloc (.cells #[.int .u64 (wd X 0 : Nat), .int .u64 (wd X 1 : Nat), .int .u64 (wd X 2 : Nat), .int .u64 (wd X 3 : Nat), .int .u64 (wd Y 0 : Nat), .int .u64 (wd Y 1 : Nat), .int .u64 (wd Y 2 : Nat), .int .u64 (wd Y 3 : Nat)] 43)).alloc (.cells #[.int .u32 (i : Nat), .int .u32 (j : Nat)] 45)).alloc (.cells #[.int .u64 (wd M 0 : Nat), .int .u64 (wd M 1 : Nat), .int .u64 (wd M 2 : Nat), .int .u64 (wd M 3 : Nat)] 24)) = W1 at *
  generalize w.heap.size + 1 + 1 = gm at *
  generalize w.heap.size + 1 = gpr at *
  obtain ⟨garr, hg0⟩ : ∃ g, g = w.heap.size := ⟨_, rfl⟩
  rw [← hg0] at Narr ⊢
  clear hg0
  have Farr := Lib.hid Narr
  have Fpr := Lib.hid Npr
  have Fm := Lib.hid Nm
  have BW := Lib.hid NB
  clear NB Narr Npr Nm
  try simp only [List.append_eq, List.cons_append, List.nil_append]
  refine wp_region_noPanic ?_
  refine wp_region_held_drew (S := fun w' => At w' gm 24 #[.int .u64 (wd M 0 : Nat), .int .u64 (wd M 1 : Nat), .int .u64 (wd M 2 : Nat), .int .u64 (wd M 3 : Nat)]) (by kernel_rfl) (Fm.out.drew) (fun _ => ?_)
  refine wpAnyH_cores (fuel := 0) (⟨0, 31, [], Kind.val (.agg #[.int .u64 (wd M 0 : Nat), .int .u64 (wd M 1 : Nat), .int .u64 (wd M 2 : Nat), .int .u64 (wd M 3 : Nat)]), true⟩ :: ⟨1, 32, [0], Kind.val (.agg #[.int .u64 (wd Z 0 : Nat), .int .u64 (wd Z 1 : Nat), .int .u64 (wd Z 2 : Nat), .int .u64 (wd Z 3 : Nat)]), false⟩ :: ⟨2, 33, [0, 1], Kind.val (.int .i64 k), false⟩ :: ⟨3, 34, [2], Kind.val (.bool true), true⟩ :: []) _ _ W1 _ ?_ ?_ ?_ ?_ ?_ ?_ ?_ ?_ ?_ ?_ ?_
  · rfl
  · kernel_rfl
  · exact of_decide_eq_true (by kernel_rfl)
  · exact all_cons ⟨_, by rfl, by rfl⟩ (all_cons ⟨_, by rfl, by rfl⟩ (all_cons ⟨_, by rfl, by rfl⟩ (all_cons ⟨_, by rfl, by rfl⟩ (all_nil))))
  · exact fun _ hb => Fm.out.on hb
  · exact (Below.refl _ _).drew
  · kernel_rfl
  · exact fun _ _ _ _ _ h => h
  · refine all_cons ?_ (all_cons ?_ (all_cons ?_ (all_cons ?_ (all_nil))))
    · exact coreG_loadP _ _ _ _ _ _ gm _ _ _ _ (by rfl) (by rfl) (wants_none) (known_old 5 _ (of_decide_eq_true (by rfl)) (by rfl)) (fun _ hs => hs)
    · exact core_pureAs _ (by rfl)
    · exact core_pureAs _ (by rfl)
    · exact coreG_bin _ _ _ _ _ _ _ _ _ _ _ _ _ (by rfl) (by rfl) (wants_none) (known_core 2 33 _ _ (of_decide_eq_true (by rfl)) (by rfl) (by rfl) (by rfl)) (known_const _) ((fun ρ w hx hy => by simp only [execOp, hx, hy]; simp [go_sem]; exact hk))
  · refine all_cons ?_ (all_cons ?_ (all_cons ?_ (all_cons ?_ (all_nil))))
    · exact core_stepAs _ (by rfl)
    · exact fun _ => coreG_call _ 28 _ _ [.const (.int .u64 1)] _ _ _ _ _ _ _ (by rfl) Try.func28 (by kernel_rfl) (by rfl) (by rfl) (wants_none) (.cons (known_const _) .nil) (HO.out)
    · exact fun _ => coreG_call _ 27 _ _ [.tmp 31, .tmp 32] _ _ _ _ _ _ _ (by rfl) Try.func27 (by kernel_rfl) (by rfl) (by rfl) (wants_none) (.cons (known_core 0 31 _ _ (of_decide_eq_true (by rfl)) (by rfl) (by rfl) (by rfl)) (.cons (known_core 1 32 _ _ (of_decide_eq_true (by rfl)) (by rfl) (by rfl) (by rfl)) .nil)) (HK.out)
    · exact core_stepAs _ (by rfl)
  intro vs y2 hc
  obtain ⟨vv0, vv1, vv2, vv3, rfl⟩ := len4 vs hc.lv
  have qq0 : vv0 = .agg #[.int .u64 (wd M 0 : Nat), .int .u64 (wd M 1 : Nat), .int .u64 (wd M 2 : Nat), .int .u64 (wd M 3 : Nat)] := by obtain ⟨xx, hx, hy⟩ := hc.ok 0 _ rfl rfl; exact (Option.some.inj (show some vv0 = some xx from hx)).trans hy
  have qq1 : vv1 = .agg #[.int .u64 (wd Z 0 : Nat), .int .u64 (wd Z 1 : Nat), .int .u64 (wd Z 2 : Nat), .int .u64 (wd Z 3 : Nat)] := by obtain ⟨xx, hx, hy⟩ := hc.ok 1 _ rfl rfl; exact (Option.some.inj (show some vv1 = some xx from hx)).trans hy
  have qq2 : vv2 = .int .i64 k := by obtain ⟨xx, hx, hy⟩ := hc.ok 2 _ rfl rfl; exact (Option.some.inj (show some vv2 = some xx from hx)).trans hy
  have qq3 : vv3 = .bool true := by obtain ⟨xx, hx, hy⟩ := hc.ok 3 _ rfl rfl; exact (Option.some.inj (show some vv3 = some xx from hx)).trans hy
  have BZ := hc.bel
  clear hc
  have Narr := Farr.out.on BZ
  have Npr := Fpr.out.on BZ
  have Nm := Fm.out.on BZ
  have NB := bel_tr BW.out BZ
  clear BW BZ Farr Fpr Fm
  subst qq0 qq1 qq2 qq3
  simp only [List.map_cons, List.map_nil, over, Act.put, List.setIfInBounds_toArray, List.set_cons_zero, List.set_cons_succ]
  refine wpAnyH_done (by kernel_rfl) ?_ _
  refine NoPanic.normal ?_
  have Farr := Lib.hid Narr
  have Fpr := Lib.hid Npr
  have Fm := Lib.hid Nm
  have BW := Lib.hid NB
  clear NB Narr Npr Nm
  go_wp2_with fail
  refine (alive4_any _).mono ?_
  rintro e v3 ⟨rfl, z3⟩
  have Narr := Lib.hid (Farr.out.on z3)
  have Npr := Lib.hid (Fpr.out.on z3)
  have Nm := Lib.hid (Fm.out.on z3)
  have NB := Lib.hid (bel_tr BW.out z3)
  clear BW z3 Farr Fpr Fm
  have Farr := Narr
  have Fpr := Npr
  have Fm := Nm
  have BW := NB
  clear NB Narr Npr Nm
  go_wp2_with fail
  go_ret
  exact ⟨rfl, BW.out⟩

set_option maxRecDepth 100000 in
set_option maxHeartbeats 8000000 in
theorem powers_some (X Y i j M Z N0 a b x y s q ab u tt is ip : Nat) (k : Int)
    (hk : 0 < k)
    (li : i < 4294967296)
    (lj : j < 4294967296)
    (lsum : i + j < 18446744073709551616)
    (lprod : i * j < 18446744073709551616)
    (O : ∀ w, Calls Try.prog 28 #[.int .u64 1] w fun e w' => e = .returned (num Z) ∧ Below w.heap.size w w')
    (K : ∀ w, Calls Try.prog 27 #[num M, num Z] w fun e w' => e = .returned (.int .i64 k) ∧ Below w.heap.size w w')
    (N : ∀ w, Calls Try.prog 28 #[.int .u64 0] w fun e w' => e = .returned (num N0) ∧ Below w.heap.size w w')
    (B1 : ∀ w, Calls Try.prog 30 #[num X, num M] w fun e w' => e = .returned (num a) ∧ Below w.heap.size w w')
    (B2 : ∀ w, Calls Try.prog 30 #[num Y, num M] w fun e w' => e = .returned (num b) ∧ Below w.heap.size w w')
    (Oi : ∀ w, Calls Try.prog 28 #[.int .u64 ((i : Nat) : Int)] w fun e w' => e = .returned (num i) ∧ Below w.heap.size w w')
    (Oj : ∀ w, Calls Try.prog 28 #[.int .u64 ((j : Nat) : Int)] w fun e w' => e = .returned (num j) ∧ Below w.heap.size w w')
    (Os : ∀ w, Calls Try.prog 28 #[.int .u64 ((i + j : Nat) : Int)] w fun e w' => e = .returned (num is) ∧ Below w.heap.size w w')
    (Op : ∀ w, Calls Try.prog 28 #[.int .u64 ((i * j : Nat) : Int)] w fun e w' => e = .returned (num ip) ∧ Below w.heap.size w w')
    (E1 : ∀ w, Calls Try.prog 20 #[num a, num i, num M] w fun e w' => e = .returned (.tuple #[num x, .int .i64 0]) ∧ Below w.heap.size w w')
    (E2 : ∀ w, Calls Try.prog 20 #[num a, num j, num M] w fun e w' => e = .returned (.tuple #[num y, .int .i64 0]) ∧ Below w.heap.size w w')
    (E3 : ∀ w, Calls Try.prog 19 #[num x, num y, num M] w fun e w' => e = .returned (.tuple #[num s, .int .i64 0]) ∧ Below w.heap.size w w')
    (E4 : ∀ w, Calls Try.prog 20 #[num a, num is, num M] w fun e w' => e = .returned (.tuple #[num s, .int .i64 0]) ∧ Below w.heap.size w w')
    (E5 : ∀ w, Calls Try.prog 20 #[num x, num j, num M] w fun e w' => e = .returned (.tuple #[num q, .int .i64 0]) ∧ Below w.heap.size w w')
    (E6 : ∀ w, Calls Try.prog 20 #[num a, num ip, num M] w fun e w' => e = .returned (.tuple #[num q, .int .i64 0]) ∧ Below w.heap.size w w')
    (E7 : ∀ w, Calls Try.prog 19 #[num a, num b, num M] w fun e w' => e = .returned (.tuple #[num ab, .int .i64 0]) ∧ Below w.heap.size w w')
    (E8 : ∀ w, Calls Try.prog 20 #[num ab, num i, num M] w fun e w' => e = .returned (.tuple #[num u, .int .i64 0]) ∧ Below w.heap.size w w')
    (E9 : ∀ w, Calls Try.prog 20 #[num b, num i, num M] w fun e w' => e = .returned (.tuple #[num tt, .int .i64 0]) ∧ Below w.heap.size w w')
    (Ea : ∀ w, Calls Try.prog 19 #[num x, num tt, num M] w fun e w' => e = .returned (.tuple #[num u, .int .i64 0]) ∧ Below w.heap.size w w')
    (Eb : ∀ w, Calls Try.prog 20 #[num a, num Z, num M] w fun e w' => e = .returned (.tuple #[num a, .int .i64 0]) ∧ Below w.heap.size w w')
    (Ec : ∀ w, Calls Try.prog 20 #[num a, num N0, num M] w fun e w' => e = .returned (.tuple #[num Z, .int .i64 0]) ∧ Below w.heap.size w w')
    (w : World) : Calls Try.prog 7 #[.agg #[.int .u64 (wd X 0 : Nat), .int .u64 (wd X 1 : Nat), .int .u64 (wd X 2 : Nat), .int .u64 (wd X 3 : Nat), .int .u64 (wd Y 0 : Nat), .int .u64 (wd Y 1 : Nat), .int .u64 (wd Y 2 : Nat), .int .u64 (wd Y 3 : Nat)], .agg #[.int .u32 (i : Nat), .int .u32 (j : Nat)], num M] w fun e w' => e = .returned (.bool true) ∧ Below w.heap.size w w' := by
  have HO := Lib.hid O
  have HK := Lib.hid K
  have HN := Lib.hid N
  have HB1 := Lib.hid B1
  have HB2 := Lib.hid B2
  have HOi := Lib.hid Oi
  have HOj := Lib.hid Oj
  have HOs := Lib.hid Os
  have HOp := Lib.hid Op
  have HE1 := Lib.hid E1
  have HE2 := Lib.hid E2
  have HE3 := Lib.hid E3
  have HE4 := Lib.hid E4
  have HE5 := Lib.hid E5
  have HE6 := Lib.hid E6
  have HE7 := Lib.hid E7
  have HE8 := Lib.hid E8
  have HE9 := Lib.hid E9
  have HEa := Lib.hid Ea
  have HEb := Lib.hid Eb
  have HEc := Lib.hid Ec
  clear O K N B1 B2 Oi Oj Os Op E1 E2 E3 E4 E5 E6 E7 E8 E9 Ea Eb Ec
  go_enter Try.func7, Try.ntmps7
  go_wp2_with fail
  have BW := Lib.hid (Below.refl w.heap.size w)
  have Narr : At (((w.alloc (.cells #[.int .u64 (wd X 0 : Nat), .int .u64 (wd X 1 : Nat), .int .u64 (wd X 2 : Nat), .int .u64 (wd X 3 : Nat), .int .u64 (wd Y 0 : Nat), .int .u64 (wd Y 1 : Nat), .int .u64 (wd Y 2 : Nat), .int .u64 (wd Y 3 : Nat)] 43)).alloc (.cells #[.int .u32 (i : Nat), .int .u32 (j : Nat)] 45)).alloc (.cells #[.int .u64 (wd M 0 : Nat), .int .u64 (wd M 1 : Nat), .int .u64 (wd M 2 : Nat), .int .u64 (wd M 3 : Nat)] 24)) (w.heap.size) 43 #[.int .u64 (wd X 0 : Nat), .int .u64 (wd X 1 : Nat), .int .u64 (wd X 2 : Nat), .int .u64 (wd X 3 : Nat), .int .u64 (wd Y 0 : Nat), .int .u64 (wd Y 1 : Nat), .int .u64 (wd Y 2 : Nat), .int .u64 (wd Y 3 : Nat)] := ((At.at_ _ _ _ _ (by simp)).alloc _).alloc _
  have Npr : At (((w.alloc (.cells #[.int .u64 (wd X 0 : Nat), .int .u64 (wd X 1 : Nat), .int .u64 (wd X 2 : Nat), .int .u64 (wd X 3 : Nat), .int .u64 (wd Y 0 : Nat), .int .u64 (wd Y 1 : Nat), .int .u64 (wd Y 2 : Nat), .int .u64 (wd Y 3 : Nat)] 43)).alloc (.cells #[.int .u32 (i : Nat), .int .u32 (j : Nat)] 45)).alloc (.cells #[.int .u64 (wd M 0 : Nat), .int .u64 (wd M 1 : Nat), .int .u64 (wd M 2 : Nat), .int .u64 (wd M 3 : Nat)] 24)) (w.heap.size + 1) 45 #[.int .u32 (i : Nat), .int .u32 (j : Nat)] := (At.at_ _ _ _ _ (by simp)).alloc _
  have Nm : At (((w.alloc (.cells #[.int .u64 (wd X 0 : Nat), .int .u64 (wd X 1 : Nat), .int .u64 (wd X 2 : Nat), .int .u64 (wd X 3 : Nat), .int .u64 (wd Y 0 : Nat), .int .u64 (wd Y 1 : Nat), .int .u64 (wd Y 2 : Nat), .int .u64 (wd Y 3 : Nat)] 43)).alloc (.cells #[.int .u32 (i : Nat), .int .u32 (j : Nat)] 45)).alloc (.cells #[.int .u64 (wd M 0 : Nat), .int .u64 (wd M 1 : Nat), .int .u64 (wd M 2 : Nat), .int .u64 (wd M 3 : Nat)] 24)) (w.heap.size + 1 + 1) 24 #[.int .u64 (wd M 0 : Nat), .int .u64 (wd M 1 : Nat), .int .u64 (wd M 2 : Nat), .int .u64 (wd M 3 : Nat)] := At.at_ _ _ _ _ (by simp)
  have NB : Below w.heap.size w (((w.alloc (.cells #[.int .u64 (wd X 0 : Nat), .int .u64 (wd X 1 : Nat), .int .u64 (wd X 2 : Nat), .int .u64 (wd X 3 : Nat), .int .u64 (wd Y 0 : Nat), .int .u64 (wd Y 1 : Nat), .int .u64 (wd Y 2 : Nat), .int .u64 (wd Y 3 : Nat)] 43)).alloc (.cells #[.int .u32 (i : Nat), .int .u32 (j : Nat)] 45)).alloc (.cells #[.int .u64 (wd M 0 : Nat), .int .u64 (wd M 1 : Nat), .int .u64 (wd M 2 : Nat), .int .u64 (wd M 3 : Nat)] 24)) := gr_alloc (gr_alloc (gr_alloc BW.out _) _) _
  clear BW 
  generalize (((w.alloc (.cells #[.int .u64 (wd X 0 : Nat), .int .u64 (wd X 1 : Nat), .int .u64 (wd X 2 : Nat), .int .u64 (wd X 3 : Nat), .int .u64 (wd Y 0 : Nat), .int .u64 (wd Y 1 : Nat), .int .u64 (wd Y 2 : Nat), .int .u64 (wd Y 3 : Nat)] 43)).alloc (.cells #[.int .u32 (i : Nat), .int .u32 (j : Nat)] 45)).alloc (.cells #[.int .u64 (wd M 0 : Nat), .int .u64 (wd M 1 : Nat), .int .u64 (wd M 2 : Nat), .int .u64 (wd M 3 : Nat)] 24)) = W1 at *
  generalize w.heap.size + 1 + 1 = gm at *
  generalize w.heap.size + 1 = gpr at *
  obtain ⟨garr, hg0⟩ : ∃ g, g = w.heap.size := ⟨_, rfl⟩
  rw [← hg0] at Narr ⊢
  clear hg0
  have Farr := Lib.hid Narr
  have Fpr := Lib.hid Npr
  have Fm := Lib.hid Nm
  have BW := Lib.hid NB
  clear NB Narr Npr Nm
  try simp only [List.append_eq, List.cons_append, List.nil_append]
  refine wp_region_noPanic ?_
  refine wp_region_held_drew (S := fun w' => At w' gm 24 #[.int .u64 (wd M 0 : Nat), .int .u64 (wd M 1 : Nat), .int .u64 (wd M 2 : Nat), .int .u64 (wd M 3 : Nat)]) (by kernel_rfl) (Fm.out.drew) (fun _ => ?_)
  refine wpAnyH_cores (fuel := 0) (⟨0, 31, [], Kind.val (.agg #[.int .u64 (wd M 0 : Nat), .int .u64 (wd M 1 : Nat), .int .u64 (wd M 2 : Nat), .int .u64 (wd M 3 : Nat)]), true⟩ :: ⟨1, 32, [0], Kind.val (.agg #[.int .u64 (wd Z 0 : Nat), .int .u64 (wd Z 1 : Nat), .int .u64 (wd Z 2 : Nat), .int .u64 (wd Z 3 : Nat)]), false⟩ :: ⟨2, 33, [0, 1], Kind.val (.int .i64 k), false⟩ :: ⟨3, 34, [2], Kind.val (.bool false), true⟩ :: []) _ _ W1 _ ?_ ?_ ?_ ?_ ?_ ?_ ?_ ?_ ?_ ?_ ?_
  · rfl
  · kernel_rfl
  · exact of_decide_eq_true (by kernel_rfl)
  · exact all_cons ⟨_, by rfl, by rfl⟩ (all_cons ⟨_, by rfl, by rfl⟩ (all_cons ⟨_, by rfl, by rfl⟩ (all_cons ⟨_, by rfl, by rfl⟩ (all_nil))))
  · exact fun _ hb => Fm.out.on hb
  · exact (Below.refl _ _).drew
  · kernel_rfl
  · exact fun _ _ _ _ _ h => h
  · refine all_cons ?_ (all_cons ?_ (all_cons ?_ (all_cons ?_ (all_nil))))
    · exact coreG_loadP _ _ _ _ _ _ gm _ _ _ _ (by rfl) (by rfl) (wants_none) (known_old 5 _ (of_decide_eq_true (by rfl)) (by rfl)) (fun _ hs => hs)
    · exact core_pureAs _ (by rfl)
    · exact core_pureAs _ (by rfl)
    · exact coreG_bin _ _ _ _ _ _ _ _ _ _ _ _ _ (by rfl) (by rfl) (wants_none) (known_core 2 33 _ _ (of_decide_eq_true (by rfl)) (by rfl) (by rfl) (by rfl)) (known_const _) ((fun ρ w hx hy => by simp only [execOp, hx, hy]; simp [go_sem]; exact hk))
  · refine all_cons ?_ (all_cons ?_ (all_cons ?_ (all_cons ?_ (all_nil))))
    · exact core_stepAs _ (by rfl)
    · exact fun _ => coreG_call _ 28 _ _ [.const (.int .u64 1)] _ _ _ _ _ _ _ (by rfl) Try.func28 (by kernel_rfl) (by rfl) (by rfl) (wants_none) (.cons (known_const _) .nil) (HO.out)
    · exact fun _ => coreG_call _ 27 _ _ [.tmp 31, .tmp 32] _ _ _ _ _ _ _ (by rfl) Try.func27 (by kernel_rfl) (by rfl) (by rfl) (wants_none) (.cons (known_core 0 31 _ _ (of_decide_eq_true (by rfl)) (by rfl) (by rfl) (by rfl)) (.cons (known_core 1 32 _ _ (of_decide_eq_true (by rfl)) (by rfl) (by rfl) (by rfl)) .nil)) (HK.out)
    · exact core_stepAs _ (by rfl)
  intro vs y2 hc
  obtain ⟨vv0, vv1, vv2, vv3, rfl⟩ := len4 vs hc.lv
  have qq0 : vv0 = .agg #[.int .u64 (wd M 0 : Nat), .int .u64 (wd M 1 : Nat), .int .u64 (wd M 2 : Nat), .int .u64 (wd M 3 : Nat)] := by obtain ⟨xx, hx, hy⟩ := hc.ok 0 _ rfl rfl; exact (Option.some.inj (show some vv0 = some xx from hx)).trans hy
  have qq1 : vv1 = .agg #[.int .u64 (wd Z 0 : Nat), .int .u64 (wd Z 1 : Nat), .int .u64 (wd Z 2 : Nat), .int .u64 (wd Z 3 : Nat)] := by obtain ⟨xx, hx, hy⟩ := hc.ok 1 _ rfl rfl; exact (Option.some.inj (show some vv1 = some xx from hx)).trans hy
  have qq2 : vv2 = .int .i64 k := by obtain ⟨xx, hx, hy⟩ := hc.ok 2 _ rfl rfl; exact (Option.some.inj (show some vv2 = some xx from hx)).trans hy
  have qq3 : vv3 = .bool false := by obtain ⟨xx, hx, hy⟩ := hc.ok 3 _ rfl rfl; exact (Option.some.inj (show some vv3 = some xx from hx)).trans hy
  have BZ := hc.bel
  clear hc
  have Narr := Farr.out.on BZ
  have Npr := Fpr.out.on BZ
  have Nm := Fm.out.on BZ
  have NB := bel_tr BW.out BZ
  clear BW BZ Farr Fpr Fm
  subst qq0 qq1 qq2 qq3
  simp only [List.map_cons, List.map_nil, over, Act.put, List.setIfInBounds_toArray, List.set_cons_zero, List.set_cons_succ]
  refine wpAnyH_done (by kernel_rfl) ?_ _
  refine NoPanic.normal ?_
  have Farr := Lib.hid Narr
  have Fpr := Lib.hid Npr
  have Fm := Lib.hid Nm
  have BW := Lib.hid NB
  clear NB Narr Npr Nm
  have gwi : IntKind.u64.wrap ((i : Nat) : Int) = (i : Nat) := by rw [IntKind.wrap_u64]; omega
  have gwj : IntKind.u64.wrap ((j : Nat) : Int) = (j : Nat) := by rw [IntKind.wrap_u64]; omega
  have Larr := Farr.out.lt
  have carr0 : y2.cell? ⟨garr, 0, none⟩ = some (.int .u64 (wd X 0 : Nat)) := Farr.out.cell 0
  have carr1 : y2.cell? ⟨garr, 1, none⟩ = some (.int .u64 (wd X 1 : Nat)) := Farr.out.cell 1
  have carr2 : y2.cell? ⟨garr, 2, none⟩ = some (.int .u64 (wd X 2 : Nat)) := Farr.out.cell 2
  have carr3 : y2.cell? ⟨garr, 3, none⟩ = some (.int .u64 (wd X 3 : Nat)) := Farr.out.cell 3
  have carr4 : y2.cell? ⟨garr, 4, none⟩ = some (.int .u64 (wd Y 0 : Nat)) := Farr.out.cell 4
  have carr5 : y2.cell? ⟨garr, 5, none⟩ = some (.int .u64 (wd Y 1 : Nat)) := Farr.out.cell 5
  have carr6 : y2.cell? ⟨garr, 6, none⟩ = some (.int .u64 (wd Y 2 : Nat)) := Farr.out.cell 6
  have carr7 : y2.cell? ⟨garr, 7, none⟩ = some (.int .u64 (wd Y 3 : Nat)) := Farr.out.cell 7
  have Lm := Fm.out.lt
  have cm0 : y2.cell? ⟨gm, 0, none⟩ = some (.int .u64 (wd M 0 : Nat)) := Fm.out.cell 0
  have cm1 : y2.cell? ⟨gm, 1, none⟩ = some (.int .u64 (wd M 1 : Nat)) := Fm.out.cell 1
  have cm2 : y2.cell? ⟨gm, 2, none⟩ = some (.int .u64 (wd M 2 : Nat)) := Fm.out.cell 2
  have cm3 : y2.cell? ⟨gm, 3, none⟩ = some (.int .u64 (wd M 3 : Nat)) := Fm.out.cell 3
  go_wp2_with fail
  clear Larr carr0 carr1 carr2 carr3 carr4 carr5 carr6 carr7 Lm cm0 cm1 cm2 cm3
  refine (HB1.out _).mono ?_
  rintro e v3 ⟨rfl, z3⟩
  have Narr := Lib.hid (Farr.out.on z3)
  have Npr := Lib.hid (Fpr.out.on z3)
  have Nm := Lib.hid (Fm.out.on z3)
  have NB := Lib.hid (bel_tr BW.out z3)
  clear BW z3 Farr Fpr Fm
  have Farr := Narr
  have Fpr := Npr
  have Fm := Nm
  have BW := NB
  clear NB Narr Npr Nm
  have Larr := Farr.out.lt
  have carr0 : v3.cell? ⟨garr, 0, none⟩ = some (.int .u64 (wd X 0 : Nat)) := Farr.out.cell 0
  have carr1 : v3.cell? ⟨garr, 1, none⟩ = some (.int .u64 (wd X 1 : Nat)) := Farr.out.cell 1
  have carr2 : v3.cell? ⟨garr, 2, none⟩ = some (.int .u64 (wd X 2 : Nat)) := Farr.out.cell 2
  have carr3 : v3.cell? ⟨garr, 3, none⟩ = some (.int .u64 (wd X 3 : Nat)) := Farr.out.cell 3
  have carr4 : v3.cell? ⟨garr, 4, none⟩ = some (.int .u64 (wd Y 0 : Nat)) := Farr.out.cell 4
  have carr5 : v3.cell? ⟨garr, 5, none⟩ = some (.int .u64 (wd Y 1 : Nat)) := Farr.out.cell 5
  have carr6 : v3.cell? ⟨garr, 6, none⟩ = some (.int .u64 (wd Y 2 : Nat)) := Farr.out.cell 6
  have carr7 : v3.cell? ⟨garr, 7, none⟩ = some (.int .u64 (wd Y 3 : Nat)) := Farr.out.cell 7
  have Lm := Fm.out.lt
  have cm0 : v3.cell? ⟨gm, 0, none⟩ = some (.int .u64 (wd M 0 : Nat)) := Fm.out.cell 0
  have cm1 : v3.cell? ⟨gm, 1, none⟩ = some (.int .u64 (wd M 1 : Nat)) := Fm.out.cell 1
  have cm2 : v3.cell? ⟨gm, 2, none⟩ = some (.int .u64 (wd M 2 : Nat)) := Fm.out.cell 2
  have cm3 : v3.cell? ⟨gm, 3, none⟩ = some (.int .u64 (wd M 3 : Nat)) := Fm.out.cell 3
  go_wp2_with fail
  clear Larr carr0 carr1 carr2 carr3 carr4 carr5 carr6 carr7 Lm cm0 cm1 cm2 cm3
  have Na : At (v3.alloc (.cells #[.int .u64 (wd a 0 : Nat), .int .u64 (wd a 1 : Nat), .int .u64 (wd a 2 : Nat), .int .u64 (wd a 3 : Nat)] 24)) (v3.heap.size) 24 #[.int .u64 (wd a 0 : Nat), .int .u64 (wd a 1 : Nat), .int .u64 (wd a 2 : Nat), .int .u64 (wd a 3 : Nat)] := At.at_ _ _ _ _ (by simp)
  have Narr : At (v3.alloc (.cells #[.int .u64 (wd a 0 : Nat), .int .u64 (wd a 1 : Nat), .int .u64 (wd a 2 : Nat), .int .u64 (wd a 3 : Nat)] 24)) garr 43 #[.int .u64 (wd X 0 : Nat), .int .u64 (wd X 1 : Nat), .int .u64 (wd X 2 : Nat), .int .u64 (wd X 3 : Nat), .int .u64 (wd Y 0 : Nat), .int .u64 (wd Y 1 : Nat), .int .u64 (wd Y 2 : Nat), .int .u64 (wd Y 3 : Nat)] := Farr.out.alloc _
  have Npr : At (v3.alloc (.cells #[.int .u64 (wd a 0 : Nat), .int .u64 (wd a 1 : Nat), .int .u64 (wd a 2 : Nat), .int .u64 (wd a 3 : Nat)] 24)) gpr 45 #[.int .u32 (i : Nat), .int .u32 (j : Nat)] := Fpr.out.alloc _
  have Nm : At (v3.alloc (.cells #[.int .u64 (wd a 0 : Nat), .int .u64 (wd a 1 : Nat), .int .u64 (wd a 2 : Nat), .int .u64 (wd a 3 : Nat)] 24)) gm 24 #[.int .u64 (wd M 0 : Nat), .int .u64 (wd M 1 : Nat), .int .u64 (wd M 2 : Nat), .int .u64 (wd M 3 : Nat)] := Fm.out.alloc _
  have NB : Below w.heap.size w (v3.alloc (.cells #[.int .u64 (wd a 0 : Nat), .int .u64 (wd a 1 : Nat), .int .u64 (wd a 2 : Nat), .int .u64 (wd a 3 : Nat)] 24)) := gr_alloc BW.out _
  clear BW Farr Fpr Fm
  generalize (v3.alloc (.cells #[.int .u64 (wd a 0 : Nat), .int .u64 (wd a 1 : Nat), .int .u64 (wd a 2 : Nat), .int .u64 (wd a 3 : Nat)] 24)) = W4 at *
  generalize v3.heap.size = ga at *
  have Farr := Lib.hid Narr
  have Fpr := Lib.hid Npr
  have Fm := Lib.hid Nm
  have Fa := Lib.hid Na
  have BW := Lib.hid NB
  clear NB Narr Npr Nm Na
  refine (HB2.out _).mono ?_
  rintro e v5 ⟨rfl, z5⟩
  have Narr := Lib.hid (Farr.out.on z5)
  have Npr := Lib.hid (Fpr.out.on z5)
  have Nm := Lib.hid (Fm.out.on z5)
  have Na := Lib.hid (Fa.out.on z5)
  have NB := Lib.hid (bel_tr BW.out z5)
  clear BW z5 Farr Fpr Fm Fa
  have Farr := Narr
  have Fpr := Npr
  have Fm := Nm
  have Fa := Na
  have BW := NB
  clear NB Narr Npr Nm Na
  have Lpr := Fpr.out.lt
  have cpr0 : v5.cell? ⟨gpr, 0, none⟩ = some (.int .u32 (i : Nat)) := Fpr.out.cell 0
  have cpr1 : v5.cell? ⟨gpr, 1, none⟩ = some (.int .u32 (j : Nat)) := Fpr.out.cell 1
  go_wp2_with fail
  clear Lpr cpr0 cpr1
  have Nb : At (v5.alloc (.cells #[.int .u64 (wd b 0 : Nat), .int .u64 (wd b 1 : Nat), .int .u64 (wd b 2 : Nat), .int .u64 (wd b 3 : Nat)] 24)) (v5.heap.size) 24 #[.int .u64 (wd b 0 : Nat), .int .u64 (wd b 1 : Nat), .int .u64 (wd b 2 : Nat), .int .u64 (wd b 3 : Nat)] := At.at_ _ _ _ _ (by simp)
  have Narr : At (v5.alloc (.cells #[.int .u64 (wd b 0 : Nat), .int .u64 (wd b 1 : Nat), .int .u64 (wd b 2 : Nat), .int .u64 (wd b 3 : Nat)] 24)) garr 43 #[.int .u64 (wd X 0 : Nat), .int .u64 (wd X 1 : Nat), .int .u64 (wd X 2 : Nat), .int .u64 (wd X 3 : Nat), .int .u64 (wd Y 0 : Nat), .int .u64 (wd Y 1 : Nat), .int .u64 (wd Y 2 : Nat), .int .u64 (wd Y 3 : Nat)] := Farr.out.alloc _
  have Npr : At (v5.alloc (.cells #[.int .u64 (wd b 0 : Nat), .int .u64 (wd b 1 : Nat), .int .u64 (wd b 2 : Nat), .int .u64 (wd b 3 : Nat)] 24)) gpr 45 #[.int .u32 (i : Nat), .int .u32 (j : Nat)] := Fpr.out.alloc _
  have Nm : At (v5.alloc (.cells #[.int .u64 (wd b 0 : Nat), .int .u64 (wd b 1 : Nat), .int .u64 (wd b 2 : Nat), .int .u64 (wd b 3 : Nat)] 24)) gm 24 #[.int .u64 (wd M 0 : Nat), .int .u64 (wd M 1 : Nat), .int .u64 (wd M 2 : Nat), .int .u64 (wd M 3 : Nat)] := Fm.out.alloc _
  have Na : At (v5.alloc (.cells #[.int .u64 (wd b 0 : Nat), .int .u64 (wd b 1 : Nat), .int .u64 (wd b 2 : Nat), .int .u64 (wd b 3 : Nat)] 24)) ga 24 #[.int .u64 (wd a 0 : Nat), .int .u64 (wd a 1 : Nat), .int .u64 (wd a 2 : Nat), .int .u64 (wd a 3 : Nat)] := Fa.out.alloc _
  have NB : Below w.heap.size w (v5.alloc (.cells #[.int .u64 (wd b 0 : Nat), .int .u64 (wd b 1 : Nat), .int .u64 (wd b 2 : Nat), .int .u64 (wd b 3 : Nat)] 24)) := gr_alloc BW.out _
  clear BW Farr Fpr Fm Fa
  generalize (v5.alloc (.cells #[.int .u64 (wd b 0 : Nat), .int .u64 (wd b 1 : Nat), .int .u64 (wd b 2 : Nat), .int .u64 (wd b 3 : Nat)] 24)) = W6 at *
  generalize v5.heap.size = gb at *
  have Farr := Lib.hid Narr
  have Fpr := Lib.hid Npr
  have Fm := Lib.hid Nm
  have Fa := Lib.hid Na
  have Fb := Lib.hid Nb
  have BW := Lib.hid NB
  clear NB Narr Npr Nm Na Nb
  refine (HOi.out _).mono ?_
  rintro e v7 ⟨rfl, z7⟩
  have Narr := Lib.hid (Farr.out.on z7)
  have Npr := Lib.hid (Fpr.out.on z7)
  have Nm := Lib.hid (Fm.out.on z7)
  have Na := Lib.hid (Fa.out.on z7)
  have Nb := Lib.hid (Fb.out.on z7)
  have NB := Lib.hid (bel_tr BW.out z7)
  clear BW z7 Farr Fpr Fm Fa Fb
  have Farr := Narr
  have Fpr := Npr
  have Fm := Nm
  have Fa := Na
  have Fb := Nb
  have BW := NB
  clear NB Narr Npr Nm Na Nb
  have Lpr := Fpr.out.lt
  have cpr0 : v7.cell? ⟨gpr, 0, none⟩ = some (.int .u32 (i : Nat)) := Fpr.out.cell 0
  have cpr1 : v7.cell? ⟨gpr, 1, none⟩ = some (.int .u32 (j : Nat)) := Fpr.out.cell 1
  go_wp2_with fail
  clear Lpr cpr0 cpr1
  have Nni : At (v7.alloc (.cells #[.int .u64 (wd i 0 : Nat), .int .u64 (wd i 1 : Nat), .int .u64 (wd i 2 : Nat), .int .u64 (wd i 3 : Nat)] 24)) (v7.heap.size) 24 #[.int .u64 (wd i 0 : Nat), .int .u64 (wd i 1 : Nat), .int .u64 (wd i 2 : Nat), .int .u64 (wd i 3 : Nat)] := At.at_ _ _ _ _ (by simp)
  have Narr : At (v7.alloc (.cells #[.int .u64 (wd i 0 : Nat), .int .u64 (wd i 1 : Nat), .int .u64 (wd i 2 : Nat), .int .u64 (wd i 3 : Nat)] 24)) garr 43 #[.int .u64 (wd X 0 : Nat), .int .u64 (wd X 1 : Nat), .int .u64 (wd X 2 : Nat), .int .u64 (wd X 3 : Nat), .int .u64 (wd Y 0 : Nat), .int .u64 (wd Y 1 : Nat), .int .u64 (wd Y 2 : Nat), .int .u64 (wd Y 3 : Nat)] := Farr.out.alloc _
  have Npr : At (v7.alloc (.cells #[.int .u64 (wd i 0 : Nat), .int .u64 (wd i 1 : Nat), .int .u64 (wd i 2 : Nat), .int .u64 (wd i 3 : Nat)] 24)) gpr 45 #[.int .u32 (i : Nat), .int .u32 (j : Nat)] := Fpr.out.alloc _
  have Nm : At (v7.alloc (.cells #[.int .u64 (wd i 0 : Nat), .int .u64 (wd i 1 : Nat), .int .u64 (wd i 2 : Nat), .int .u64 (wd i 3 : Nat)] 24)) gm 24 #[.int .u64 (wd M 0 : Nat), .int .u64 (wd M 1 : Nat), .int .u64 (wd M 2 : Nat), .int .u64 (wd M 3 : Nat)] := Fm.out.alloc _
  have Na : At (v7.alloc (.cells #[.int .u64 (wd i 0 : Nat), .int .u64 (wd i 1 : Nat), .int .u64 (wd i 2 : Nat), .int .u64 (wd i 3 : Nat)] 24)) ga 24 #[.int .u64 (wd a 0 : Nat), .int .u64 (wd a 1 : Nat), .int .u64 (wd a 2 : Nat), .int .u64 (wd a 3 : Nat)] := Fa.out.alloc _
  have Nb : At (v7.alloc (.cells #[.int .u64 (wd i 0 : Nat), .int .u64 (wd i 1 : Nat), .int .u64 (wd i 2 : Nat), .int .u64 (wd i 3 : Nat)] 24)) gb 24 #[.int .u64 (wd b 0 : Nat), .int .u64 (wd b 1 : Nat), .int .u64 (wd b 2 : Nat), .int .u64 (wd b 3 : Nat)] := Fb.out.alloc _
  have NB : Below w.heap.size w (v7.alloc (.cells #[.int .u64 (wd i 0 : Nat), .int .u64 (wd i 1 : Nat), .int .u64 (wd i 2 : Nat), .int .u64 (wd i 3 : Nat)] 24)) := gr_alloc BW.out _
  clear BW Farr Fpr Fm Fa Fb
  generalize (v7.alloc (.cells #[.int .u64 (wd i 0 : Nat), .int .u64 (wd i 1 : Nat), .int .u64 (wd i 2 : Nat), .int .u64 (wd i 3 : Nat)] 24)) = W8 at *
  generalize v7.heap.size = gni at *
  have Farr := Lib.hid Narr
  have Fpr := Lib.hid Npr
  have Fm := Lib.hid Nm
  have Fa := Lib.hid Na
  have Fb := Lib.hid Nb
  have Fni := Lib.hid Nni
  have BW := Lib.hid NB
  clear NB Narr Npr Nm Na Nb Nni
  refine (HOj.out _).mono ?_
  rintro e v9 ⟨rfl, z9⟩
  have Narr := Lib.hid (Farr.out.on z9)
  have Npr := Lib.hid (Fpr.out.on z9)
  have Nm := Lib.hid (Fm.out.on z9)
  have Na := Lib.hid (Fa.out.on z9)
  have Nb := Lib.hid (Fb.out.on z9)
  have Nni := Lib.hid (Fni.out.on z9)
  have NB := Lib.hid (bel_tr BW.out z9)
  clear BW z9 Farr Fpr Fm Fa Fb Fni
  have Farr := Narr
  have Fpr := Npr
  have Fm := Nm
  have Fa := Na
  have Fb := Nb
  have Fni := Nni
  have BW := NB
  clear NB Narr Npr Nm Na Nb Nni
  have La := Fa.out.lt
  have ca0 : v9.cell? ⟨ga, 0, none⟩ = some (.int .u64 (wd a 0 : Nat)) := Fa.out.cell 0
  have ca1 : v9.cell? ⟨ga, 1, none⟩ = some (.int .u64 (wd a 1 : Nat)) := Fa.out.cell 1
  have ca2 : v9.cell? ⟨ga, 2, none⟩ = some (.int .u64 (wd a 2 : Nat)) := Fa.out.cell 2
  have ca3 : v9.cell? ⟨ga, 3, none⟩ = some (.int .u64 (wd a 3 : Nat)) := Fa.out.cell 3
  have Lni := Fni.out.lt
  have cni0 : v9.cell? ⟨gni, 0, none⟩ = some (.int .u64 (wd i 0 : Nat)) := Fni.out.cell 0
  have cni1 : v9.cell? ⟨gni, 1, none⟩ = some (.int .u64 (wd i 1 : Nat)) := Fni.out.cell 1
  have cni2 : v9.cell? ⟨gni, 2, none⟩ = some (.int .u64 (wd i 2 : Nat)) := Fni.out.cell 2
  have cni3 : v9.cell? ⟨gni, 3, none⟩ = some (.int .u64 (wd i 3 : Nat)) := Fni.out.cell 3
  have Lm := Fm.out.lt
  have cm0 : v9.cell? ⟨gm, 0, none⟩ = some (.int .u64 (wd M 0 : Nat)) := Fm.out.cell 0
  have cm1 : v9.cell? ⟨gm, 1, none⟩ = some (.int .u64 (wd M 1 : Nat)) := Fm.out.cell 1
  have cm2 : v9.cell? ⟨gm, 2, none⟩ = some (.int .u64 (wd M 2 : Nat)) := Fm.out.cell 2
  have cm3 : v9.cell? ⟨gm, 3, none⟩ = some (.int .u64 (wd M 3 : Nat)) := Fm.out.cell 3
  go_wp2_with fail
  clear La ca0 ca1 ca2 ca3 Lni cni0 cni1 cni2 cni3 Lm cm0 cm1 cm2 cm3
  have Nnj : At (v9.alloc (.cells #[.int .u64 (wd j 0 : Nat), .int .u64 (wd j 1 : Nat), .int .u64 (wd j 2 : Nat), .int .u64 (wd j 3 : Nat)] 24)) (v9.heap.size) 24 #[.int .u64 (wd j 0 : Nat), .int .u64 (wd j 1 : Nat), .int .u64 (wd j 2 : Nat), .int .u64 (wd j 3 : Nat)] := At.at_ _ _ _ _ (by simp)
  have Narr : At (v9.alloc (.cells #[.int .u64 (wd j 0 : Nat), .int .u64 (wd j 1 : Nat), .int .u64 (wd j 2 : Nat), .int .u64 (wd j 3 : Nat)] 24)) garr 43 #[.int .u64 (wd X 0 : Nat), .int .u64 (wd X 1 : Nat), .int .u64 (wd X 2 : Nat), .int .u64 (wd X 3 : Nat), .int .u64 (wd Y 0 : Nat), .int .u64 (wd Y 1 : Nat), .int .u64 (wd Y 2 : Nat), .int .u64 (wd Y 3 : Nat)] := Farr.out.alloc _
  have Npr : At (v9.alloc (.cells #[.int .u64 (wd j 0 : Nat), .int .u64 (wd j 1 : Nat), .int .u64 (wd j 2 : Nat), .int .u64 (wd j 3 : Nat)] 24)) gpr 45 #[.int .u32 (i : Nat), .int .u32 (j : Nat)] := Fpr.out.alloc _
  have Nm : At (v9.alloc (.cells #[.int .u64 (wd j 0 : Nat), .int .u64 (wd j 1 : Nat), .int .u64 (wd j 2 : Nat), .int .u64 (wd j 3 : Nat)] 24)) gm 24 #[.int .u64 (wd M 0 : Nat), .int .u64 (wd M 1 : Nat), .int .u64 (wd M 2 : Nat), .int .u64 (wd M 3 : Nat)] := Fm.out.alloc _
  have Na : At (v9.alloc (.cells #[.int .u64 (wd j 0 : Nat), .int .u64 (wd j 1 : Nat), .int .u64 (wd j 2 : Nat), .int .u64 (wd j 3 : Nat)] 24)) ga 24 #[.int .u64 (wd a 0 : Nat), .int .u64 (wd a 1 : Nat), .int .u64 (wd a 2 : Nat), .int .u64 (wd a 3 : Nat)] := Fa.out.alloc _
  have Nb : At (v9.alloc (.cells #[.int .u64 (wd j 0 : Nat), .int .u64 (wd j 1 : Nat), .int .u64 (wd j 2 : Nat), .int .u64 (wd j 3 : Nat)] 24)) gb 24 #[.int .u64 (wd b 0 : Nat), .int .u64 (wd b 1 : Nat), .int .u64 (wd b 2 : Nat), .int .u64 (wd b 3 : Nat)] := Fb.out.alloc _
  have Nni : At (v9.alloc (.cells #[.int .u64 (wd j 0 : Nat), .int .u64 (wd j 1 : Nat), .int .u64 (wd j 2 : Nat), .int .u64 (wd j 3 : Nat)] 24)) gni 24 #[.int .u64 (wd i 0 : Nat), .int .u64 (wd i 1 : Nat), .int .u64 (wd i 2 : Nat), .int .u64 (wd i 3 : Nat)] := Fni.out.alloc _
  have NB : Below w.heap.size w (v9.alloc (.cells #[.int .u64 (wd j 0 : Nat), .int .u64 (wd j 1 : Nat), .int .u64 (wd j 2 : Nat), .int .u64 (wd j 3 : Nat)] 24)) := gr_alloc BW.out _
  clear BW Farr Fpr Fm Fa Fb Fni
  generalize (v9.alloc (.cells #[.int .u64 (wd j 0 : Nat), .int .u64 (wd j 1 : Nat), .int .u64 (wd j 2 : Nat), .int .u64 (wd j 3 : Nat)] 24)) = W10 at *
  generalize v9.heap.size = gnj at *
  have Farr := Lib.hid Narr
  have Fpr := Lib.hid Npr
  have Fm := Lib.hid Nm
  have Fa := Lib.hid Na
  have Fb := Lib.hid Nb
  have Fni := Lib.hid Nni
  have Fnj := Lib.hid Nnj
  have BW := Lib.hid NB
  clear NB Narr Npr Nm Na Nb Nni Nnj
  clear Farr
  refine (HE1.out _).mono ?_
  rintro e v11 ⟨rfl, z11⟩
  have Npr := Lib.hid (Fpr.out.on z11)
  have Nm := Lib.hid (Fm.out.on z11)
  have Na := Lib.hid (Fa.out.on z11)
  have Nb := Lib.hid (Fb.out.on z11)
  have Nni := Lib.hid (Fni.out.on z11)
  have Nnj := Lib.hid (Fnj.out.on z11)
  have NB := Lib.hid (bel_tr BW.out z11)
  clear BW z11 Fpr Fm Fa Fb Fni Fnj
  have Fpr := Npr
  have Fm := Nm
  have Fa := Na
  have Fb := Nb
  have Fni := Nni
  have Fnj := Nnj
  have BW := NB
  clear NB Npr Nm Na Nb Nni Nnj
  have La := Fa.out.lt
  have ca0 : v11.cell? ⟨ga, 0, none⟩ = some (.int .u64 (wd a 0 : Nat)) := Fa.out.cell 0
  have ca1 : v11.cell? ⟨ga, 1, none⟩ = some (.int .u64 (wd a 1 : Nat)) := Fa.out.cell 1
  have ca2 : v11.cell? ⟨ga, 2, none⟩ = some (.int .u64 (wd a 2 : Nat)) := Fa.out.cell 2
  have ca3 : v11.cell? ⟨ga, 3, none⟩ = some (.int .u64 (wd a 3 : Nat)) := Fa.out.cell 3
  have Lnj := Fnj.out.lt
  have cnj0 : v11.cell? ⟨gnj, 0, none⟩ = some (.int .u64 (wd j 0 : Nat)) := Fnj.out.cell 0
  have cnj1 : v11.cell? ⟨gnj, 1, none⟩ = some (.int .u64 (wd j 1 : Nat)) := Fnj.out.cell 1
  have cnj2 : v11.cell? ⟨gnj, 2, none⟩ = some (.int .u64 (wd j 2 : Nat)) := Fnj.out.cell 2
  have cnj3 : v11.cell? ⟨gnj, 3, none⟩ = some (.int .u64 (wd j 3 : Nat)) := Fnj.out.cell 3
  have Lm := Fm.out.lt
  have cm0 : v11.cell? ⟨gm, 0, none⟩ = some (.int .u64 (wd M 0 : Nat)) := Fm.out.cell 0
  have cm1 : v11.cell? ⟨gm, 1, none⟩ = some (.int .u64 (wd M 1 : Nat)) := Fm.out.cell 1
  have cm2 : v11.cell? ⟨gm, 2, none⟩ = some (.int .u64 (wd M 2 : Nat)) := Fm.out.cell 2
  have cm3 : v11.cell? ⟨gm, 3, none⟩ = some (.int .u64 (wd M 3 : Nat)) := Fm.out.cell 3
  go_wp2_with fail
  clear La ca0 ca1 ca2 ca3 Lnj cnj0 cnj1 cnj2 cnj3 Lm cm0 cm1 cm2 cm3
  have Nx : At (v11.alloc (.cells #[.int .u64 (wd x 0 : Nat), .int .u64 (wd x 1 : Nat), .int .u64 (wd x 2 : Nat), .int .u64 (wd x 3 : Nat)] 24)) (v11.heap.size) 24 #[.int .u64 (wd x 0 : Nat), .int .u64 (wd x 1 : Nat), .int .u64 (wd x 2 : Nat), .int .u64 (wd x 3 : Nat)] := At.at_ _ _ _ _ (by simp)
  have Npr : At (v11.alloc (.cells #[.int .u64 (wd x 0 : Nat), .int .u64 (wd x 1 : Nat), .int .u64 (wd x 2 : Nat), .int .u64 (wd x 3 : Nat)] 24)) gpr 45 #[.int .u32 (i : Nat), .int .u32 (j : Nat)] := Fpr.out.alloc _
  have Nm : At (v11.alloc (.cells #[.int .u64 (wd x 0 : Nat), .int .u64 (wd x 1 : Nat), .int .u64 (wd x 2 : Nat), .int .u64 (wd x 3 : Nat)] 24)) gm 24 #[.int .u64 (wd M 0 : Nat), .int .u64 (wd M 1 : Nat), .int .u64 (wd M 2 : Nat), .int .u64 (wd M 3 : Nat)] := Fm.out.alloc _
  have Na : At (v11.alloc (.cells #[.int .u64 (wd x 0 : Nat), .int .u64 (wd x 1 : Nat), .int .u64 (wd x 2 : Nat), .int .u64 (wd x 3 : Nat)] 24)) ga 24 #[.int .u64 (wd a 0 : Nat), .int .u64 (wd a 1 : Nat), .int .u64 (wd a 2 : Nat), .int .u64 (wd a 3 : Nat)] := Fa.out.alloc _
  have Nb : At (v11.alloc (.cells #[.int .u64 (wd x 0 : Nat), .int .u64 (wd x 1 : Nat), .int .u64 (wd x 2 : Nat), .int .u64 (wd x 3 : Nat)] 24)) gb 24 #[.int .u64 (wd b 0 : Nat), .int .u64 (wd b 1 : Nat), .int .u64 (wd b 2 : Nat), .int .u64 (wd b 3 : Nat)] := Fb.out.alloc _
  have Nni : At (v11.alloc (.cells #[.int .u64 (wd x 0 : Nat), .int .u64 (wd x 1 : Nat), .int .u64 (wd x 2 : Nat), .int .u64 (wd x 3 : Nat)] 24)) gni 24 #[.int .u64 (wd i 0 : Nat), .int .u64 (wd i 1 : Nat), .int .u64 (wd i 2 : Nat), .int .u64 (wd i 3 : Nat)] := Fni.out.alloc _
  have Nnj : At (v11.alloc (.cells #[.int .u64 (wd x 0 : Nat), .int .u64 (wd x 1 : Nat), .int .u64 (wd x 2 : Nat), .int .u64 (wd x 3 : Nat)] 24)) gnj 24 #[.int .u64 (wd j 0 : Nat), .int .u64 (wd j 1 : Nat), .int .u64 (wd j 2 : Nat), .int .u64 (wd j 3 : Nat)] := Fnj.out.alloc _
  have NB : Below w.heap.size w (v11.alloc (.cells #[.int .u64 (wd x 0 : Nat), .int .u64 (wd x 1 : Nat), .int .u64 (wd x 2 : Nat), .int .u64 (wd x 3 : Nat)] 24)) := gr_alloc BW.out _
  clear BW Fpr Fm Fa Fb Fni Fnj
  generalize (v11.alloc (.cells #[.int .u64 (wd x 0 : Nat), .int .u64 (wd x 1 : Nat), .int .u64 (wd x 2 : Nat), .int .u64 (wd x 3 : Nat)] 24)) = W12 at *
  generalize v11.heap.size = gx at *
  have Fpr := Lib.hid Npr
  have Fm := Lib.hid Nm
  have Fa := Lib.hid Na
  have Fb := Lib.hid Nb
  have Fni := Lib.hid Nni
  have Fnj := Lib.hid Nnj
  have Fx := Lib.hid Nx
  have BW := Lib.hid NB
  clear NB Npr Nm Na Nb Nni Nnj Nx
  refine (HE2.out _).mono ?_
  rintro e v13 ⟨rfl, z13⟩
  have Npr := Lib.hid (Fpr.out.on z13)
  have Nm := Lib.hid (Fm.out.on z13)
  have Na := Lib.hid (Fa.out.on z13)
  have Nb := Lib.hid (Fb.out.on z13)
  have Nni := Lib.hid (Fni.out.on z13)
  have Nnj := Lib.hid (Fnj.out.on z13)
  have Nx := Lib.hid (Fx.out.on z13)
  have NB := Lib.hid (bel_tr BW.out z13)
  clear BW z13 Fpr Fm Fa Fb Fni Fnj Fx
  have Fpr := Npr
  have Fm := Nm
  have Fa := Na
  have Fb := Nb
  have Fni := Nni
  have Fnj := Nnj
  have Fx := Nx
  have BW := NB
  clear NB Npr Nm Na Nb Nni Nnj Nx
  have Lx := Fx.out.lt
  have cx0 : v13.cell? ⟨gx, 0, none⟩ = some (.int .u64 (wd x 0 : Nat)) := Fx.out.cell 0
  have cx1 : v13.cell? ⟨gx, 1, none⟩ = some (.int .u64 (wd x 1 : Nat)) := Fx.out.cell 1
  have cx2 : v13.cell? ⟨gx, 2, none⟩ = some (.int .u64 (wd x 2 : Nat)) := Fx.out.cell 2
  have cx3 : v13.cell? ⟨gx, 3, none⟩ = some (.int .u64 (wd x 3 : Nat)) := Fx.out.cell 3
  have Lm := Fm.out.lt
  have cm0 : v13.cell? ⟨gm, 0, none⟩ = some (.int .u64 (wd M 0 : Nat)) := Fm.out.cell 0
  have cm1 : v13.cell? ⟨gm, 1, none⟩ = some (.int .u64 (wd M 1 : Nat)) := Fm.out.cell 1
  have cm2 : v13.cell? ⟨gm, 2, none⟩ = some (.int .u64 (wd M 2 : Nat)) := Fm.out.cell 2
  have cm3 : v13.cell? ⟨gm, 3, none⟩ = some (.int .u64 (wd M 3 : Nat)) := Fm.out.cell 3
  go_wp2_with fail
  clear Lx cx0 cx1 cx2 cx3 Lm cm0 cm1 cm2 cm3
  have Ny : At (v13.alloc (.cells #[.int .u64 (wd y 0 : Nat), .int .u64 (wd y 1 : Nat), .int .u64 (wd y 2 : Nat), .int .u64 (wd y 3 : Nat)] 24)) (v13.heap.size) 24 #[.int .u64 (wd y 0 : Nat), .int .u64 (wd y 1 : Nat), .int .u64 (wd y 2 : Nat), .int .u64 (wd y 3 : Nat)] := At.at_ _ _ _ _ (by simp)
  have Npr : At (v13.alloc (.cells #[.int .u64 (wd y 0 : Nat), .int .u64 (wd y 1 : Nat), .int .u64 (wd y 2 : Nat), .int .u64 (wd y 3 : Nat)] 24)) gpr 45 #[.int .u32 (i : Nat), .int .u32 (j : Nat)] := Fpr.out.alloc _
  have Nm : At (v13.alloc (.cells #[.int .u64 (wd y 0 : Nat), .int .u64 (wd y 1 : Nat), .int .u64 (wd y 2 : Nat), .int .u64 (wd y 3 : Nat)] 24)) gm 24 #[.int .u64 (wd M 0 : Nat), .int .u64 (wd M 1 : Nat), .int .u64 (wd M 2 : Nat), .int .u64 (wd M 3 : Nat)] := Fm.out.alloc _
  have Na : At (v13.alloc (.cells #[.int .u64 (wd y 0 : Nat), .int .u64 (wd y 1 : Nat), .int .u64 (wd y 2 : Nat), .int .u64 (wd y 3 : Nat)] 24)) ga 24 #[.int .u64 (wd a 0 : Nat), .int .u64 (wd a 1 : Nat), .int .u64 (wd a 2 : Nat), .int .u64 (wd a 3 : Nat)] := Fa.out.alloc _
  have Nb : At (v13.alloc (.cells #[.int .u64 (wd y 0 : Nat), .int .u64 (wd y 1 : Nat), .int .u64 (wd y 2 : Nat), .int .u64 (wd y 3 : Nat)] 24)) gb 24 #[.int .u64 (wd b 0 : Nat), .int .u64 (wd b 1 : Nat), .int .u64 (wd b 2 : Nat), .int .u64 (wd b 3 : Nat)] := Fb.out.alloc _
  have Nni : At (v13.alloc (.cells #[.int .u64 (wd y 0 : Nat), .int .u64 (wd y 1 : Nat), .int .u64 (wd y 2 : Nat), .int .u64 (wd y 3 : Nat)] 24)) gni 24 #[.int .u64 (wd i 0 : Nat), .int .u64 (wd i 1 : Nat), .int .u64 (wd i 2 : Nat), .int .u64 (wd i 3 : Nat)] := Fni.out.alloc _
  have Nnj : At (v13.alloc (.cells #[.int .u64 (wd y 0 : Nat), .int .u64 (wd y 1 : Nat), .int .u64 (wd y 2 : Nat), .int .u64 (wd y 3 : Nat)] 24)) gnj 24 #[.int .u64 (wd j 0 : Nat), .int .u64 (wd j 1 : Nat), .int .u64 (wd j 2 : Nat), .int .u64 (wd j 3 : Nat)] := Fnj.out.alloc _
  have Nx : At (v13.alloc (.cells #[.int .u64 (wd y 0 : Nat), .int .u64 (wd y 1 : Nat), .int .u64 (wd y 2 : Nat), .int .u64 (wd y 3 : Nat)] 24)) gx 24 #[.int .u64 (wd x 0 : Nat), .int .u64 (wd x 1 : Nat), .int .u64 (wd x 2 : Nat), .int .u64 (wd x 3 : Nat)] := Fx.out.alloc _
  have NB : Below w.heap.size w (v13.alloc (.cells #[.int .u64 (wd y 0 : Nat), .int .u64 (wd y 1 : Nat), .int .u64 (wd y 2 : Nat), .int .u64 (wd y 3 : Nat)] 24)) := gr_alloc BW.out _
  clear BW Fpr Fm Fa Fb Fni Fnj Fx
  generalize (v13.alloc (.cells #[.int .u64 (wd y 0 : Nat), .int .u64 (wd y 1 : Nat), .int .u64 (wd y 2 : Nat), .int .u64 (wd y 3 : Nat)] 24)) = W14 at *
  generalize v13.heap.size = gy at *
  have Fpr := Lib.hid Npr
  have Fm := Lib.hid Nm
  have Fa := Lib.hid Na
  have Fb := Lib.hid Nb
  have Fni := Lib.hid Nni
  have Fnj := Lib.hid Nnj
  have Fx := Lib.hid Nx
  have Fy := Lib.hid Ny
  have BW := Lib.hid NB
  clear NB Npr Nm Na Nb Nni Nnj Nx Ny
  refine (HE3.out _).mono ?_
  rintro e v15 ⟨rfl, z15⟩
  have Npr := Lib.hid (Fpr.out.on z15)
  have Nm := Lib.hid (Fm.out.on z15)
  have Na := Lib.hid (Fa.out.on z15)
  have Nb := Lib.hid (Fb.out.on z15)
  have Nni := Lib.hid (Fni.out.on z15)
  have Nnj := Lib.hid (Fnj.out.on z15)
  have Nx := Lib.hid (Fx.out.on z15)
  have Ny := Lib.hid (Fy.out.on z15)
  have NB := Lib.hid (bel_tr BW.out z15)
  clear BW z15 Fpr Fm Fa Fb Fni Fnj Fx Fy
  have Fpr := Npr
  have Fm := Nm
  have Fa := Na
  have Fb := Nb
  have Fni := Nni
  have Fnj := Nnj
  have Fx := Nx
  have Fy := Ny
  have BW := NB
  clear NB Npr Nm Na Nb Nni Nnj Nx Ny
  go_wp2_with fail
  have Nxy : At (v15.alloc (.cells #[.int .u64 (wd s 0 : Nat), .int .u64 (wd s 1 : Nat), .int .u64 (wd s 2 : Nat), .int .u64 (wd s 3 : Nat)] 24)) (v15.heap.size) 24 #[.int .u64 (wd s 0 : Nat), .int .u64 (wd s 1 : Nat), .int .u64 (wd s 2 : Nat), .int .u64 (wd s 3 : Nat)] := At.at_ _ _ _ _ (by simp)
  have Npr : At (v15.alloc (.cells #[.int .u64 (wd s 0 : Nat), .int .u64 (wd s 1 : Nat), .int .u64 (wd s 2 : Nat), .int .u64 (wd s 3 : Nat)] 24)) gpr 45 #[.int .u32 (i : Nat), .int .u32 (j : Nat)] := Fpr.out.alloc _
  have Nm : At (v15.alloc (.cells #[.int .u64 (wd s 0 : Nat), .int .u64 (wd s 1 : Nat), .int .u64 (wd s 2 : Nat), .int .u64 (wd s 3 : Nat)] 24)) gm 24 #[.int .u64 (wd M 0 : Nat), .int .u64 (wd M 1 : Nat), .int .u64 (wd M 2 : Nat), .int .u64 (wd M 3 : Nat)] := Fm.out.alloc _
  have Na : At (v15.alloc (.cells #[.int .u64 (wd s 0 : Nat), .int .u64 (wd s 1 : Nat), .int .u64 (wd s 2 : Nat), .int .u64 (wd s 3 : Nat)] 24)) ga 24 #[.int .u64 (wd a 0 : Nat), .int .u64 (wd a 1 : Nat), .int .u64 (wd a 2 : Nat), .int .u64 (wd a 3 : Nat)] := Fa.out.alloc _
  have Nb : At (v15.alloc (.cells #[.int .u64 (wd s 0 : Nat), .int .u64 (wd s 1 : Nat), .int .u64 (wd s 2 : Nat), .int .u64 (wd s 3 : Nat)] 24)) gb 24 #[.int .u64 (wd b 0 : Nat), .int .u64 (wd b 1 : Nat), .int .u64 (wd b 2 : Nat), .int .u64 (wd b 3 : Nat)] := Fb.out.alloc _
  have Nni : At (v15.alloc (.cells #[.int .u64 (wd s 0 : Nat), .int .u64 (wd s 1 : Nat), .int .u64 (wd s 2 : Nat), .int .u64 (wd s 3 : Nat)] 24)) gni 24 #[.int .u64 (wd i 0 : Nat), .int .u64 (wd i 1 : Nat), .int .u64 (wd i 2 : Nat), .int .u64 (wd i 3 : Nat)] := Fni.out.alloc _
  have Nnj : At (v15.alloc (.cells #[.int .u64 (wd s 0 : Nat), .int .u64 (wd s 1 : Nat), .int .u64 (wd s 2 : Nat), .int .u64 (wd s 3 : Nat)] 24)) gnj 24 #[.int .u64 (wd j 0 : Nat), .int .u64 (wd j 1 : Nat), .int .u64 (wd j 2 : Nat), .int .u64 (wd j 3 : Nat)] := Fnj.out.alloc _
  have Nx : At (v15.alloc (.cells #[.int .u64 (wd s 0 : Nat), .int .u64 (wd s 1 : Nat), .int .u64 (wd s 2 : Nat), .int .u64 (wd s 3 : Nat)] 24)) gx 24 #[.int .u64 (wd x 0 : Nat), .int .u64 (wd x 1 : Nat), .int .u64 (wd x 2 : Nat), .int .u64 (wd x 3 : Nat)] := Fx.out.alloc _
  have Ny : At (v15.alloc (.cells #[.int .u64 (wd s 0 : Nat), .int .u64 (wd s 1 : Nat), .int .u64 (wd s 2 : Nat), .int .u64 (wd s 3 : Nat)] 24)) gy 24 #[.int .u64 (wd y 0 : Nat), .int .u64 (wd y 1 : Nat), .int .u64 (wd y 2 : Nat), .int .u64 (wd y 3 : Nat)] := Fy.out.alloc _
  have NB : Below w.heap.size w (v15.alloc (.cells #[.int .u64 (wd s 0 : Nat), .int .u64 (wd s 1 : Nat), .int .u64 (wd s 2 : Nat), .int .u64 (wd s 3 : Nat)] 24)) := gr_alloc BW.out _
  clear BW Fpr Fm Fa Fb Fni Fnj Fx Fy
  generalize (v15.alloc (.cells #[.int .u64 (wd s 0 : Nat), .int .u64 (wd s 1 : Nat), .int .u64 (wd s 2 : Nat), .int .u64 (wd s 3 : Nat)] 24)) = W16 at *
  generalize v15.heap.size = gxy at *
  have Fpr := Lib.hid Npr
  have Fm := Lib.hid Nm
  have Fa := Lib.hid Na
  have Fb := Lib.hid Nb
  have Fni := Lib.hid Nni
  have Fnj := Lib.hid Nnj
  have Fx := Lib.hid Nx
  have Fy := Lib.hid Ny
  have Fxy := Lib.hid Nxy
  have BW := Lib.hid NB
  clear NB Npr Nm Na Nb Nni Nnj Nx Ny Nxy
  try simp only [List.append_eq, List.cons_append, List.nil_append]
  refine wp_region_noPanic ?_
  refine wp_region_held_drew (S := fun w' => At w' gpr 45 #[.int .u32 (i : Nat), .int .u32 (j : Nat)]) (by kernel_rfl) (Fpr.out.drew) (fun _ => ?_)
  refine wpAnyH_cores (fuel := 2) (⟨0, 74, [], Kind.val (.agg #[.int .u64 (wd a 0 : Nat), .int .u64 (wd a 1 : Nat), .int .u64 (wd a 2 : Nat), .int .u64 (wd a 3 : Nat)]), false⟩ :: ⟨1, 75, [], Kind.val (.pointer (some ⟨gpr, 0, none⟩)), true⟩ :: ⟨2, 76, [1], Kind.val (.int .u32 (i : Nat)), true⟩ :: ⟨3, 77, [2], Kind.val (.int .u64 (i : Nat)), true⟩ :: ⟨4, 78, [], Kind.val (.pointer (some ⟨gpr, 1, none⟩)), true⟩ :: ⟨5, 79, [4], Kind.val (.int .u32 (j : Nat)), true⟩ :: ⟨6, 80, [5], Kind.val (.int .u64 (j : Nat)), true⟩ :: ⟨7, 81, [3, 6], Kind.val (.int .u64 ((i + j : Nat) : Int)), true⟩ :: ⟨8, 82, [7], Kind.val (.agg #[.int .u64 (wd is 0 : Nat), .int .u64 (wd is 1 : Nat), .int .u64 (wd is 2 : Nat), .int .u64 (wd is 3 : Nat)]), false⟩ :: ⟨9, 83, [], Kind.val (.agg #[.int .u64 (wd M 0 : Nat), .int .u64 (wd M 1 : Nat), .int .u64 (wd M 2 : Nat), .int .u64 (wd M 3 : Nat)]), false⟩ :: ⟨10, 84, [0, 8, 9], Kind.val (.tuple #[.agg #[.int .u64 (wd s 0 : Nat), .int .u64 (wd s 1 : Nat), .int .u64 (wd s 2 : Nat), .int .u64 (wd s 3 : Nat)], .int .i64 0]), false⟩ :: ⟨11, 73, [10], Kind.val (.tuple #[.agg #[.int .u64 (wd s 0 : Nat), .int .u64 (wd s 1 : Nat), .int .u64 (wd s 2 : Nat), .int .u64 (wd s 3 : Nat)], .int .i64 0]), true⟩ :: ⟨12, 85, [11], Kind.val (.agg #[.int .u64 (wd s 0 : Nat), .int .u64 (wd s 1 : Nat), .int .u64 (wd s 2 : Nat), .int .u64 (wd s 3 : Nat)]), true⟩ :: ⟨13, 86, [11], Kind.val (.int .i64 0), true⟩ :: ⟨14, 17, [], Kind.cell W16.heap.size 24 #[.int .u64 0, .int .u64 0, .int .u64 0, .int .u64 0], false⟩ :: []) _ _ W16 _ ?_ ?_ ?_ ?_ ?_ ?_ ?_ ?_ ?_ ?_ ?_
  · rfl
  · kernel_rfl
  · exact of_decide_eq_true rfl
  · exact all_cons ⟨_, rfl, rfl⟩ (all_cons ⟨_, rfl, rfl⟩ (all_cons ⟨_, rfl, rfl⟩ (all_cons ⟨_, rfl, rfl⟩ (all_cons ⟨_, rfl, rfl⟩ (all_cons ⟨_, rfl, rfl⟩ (all_cons ⟨_, rfl, rfl⟩ (all_cons ⟨_, rfl, rfl⟩ (all_cons ⟨_, rfl, rfl⟩ (all_cons ⟨_, rfl, rfl⟩ (all_cons ⟨_, rfl, rfl⟩ (all_cons ⟨_, rfl, rfl⟩ (all_cons ⟨_, rfl, rfl⟩ (all_cons ⟨_, rfl, rfl⟩ (all_cons ⟨_, rfl, rfl⟩ (all_nil)))))))))))))))
  · exact fun _ hb => Fpr.out.on hb
  · exact (Below.refl _ _).drew
  · kernel_rfl
  · exact fun _ _ _ _ _ h => h
  · refine all_cons ?_ (all_cons ?_ (all_cons ?_ (all_cons ?_ (all_cons ?_ (all_cons ?_ (all_cons ?_ (all_cons ?_ (all_cons ?_ (all_cons ?_ (all_cons ?_ (all_cons ?_ (all_cons ?_ (all_cons ?_ (all_cons ?_ (all_nil)))))))))))))))
    · exact core_pureAs _ (by rfl)
    · exact coreG_pure _ _ _ _ _ _ _ (by rfl) (by rfl) wants_none (fun vs w hl hp w' _ => idx32_0 _ _ _ _ _ _ _ w' gpr ((show Known _ _ [] (.tmp 4) (.pointer (some ⟨gpr, 0, none⟩)) from known_old 4 _ (of_decide_eq_true (by rfl)) (by rfl)) vs w hl (fun _ h => by cases h)) (by rfl))
    · exact core_held _ _ _ _ _ _ _ _ (by rfl) (by rfl) (known_core 1 75 _ _ (of_decide_eq_true (by rfl)) (by rfl) (by rfl) (by rfl)) (fun ρ w hx hs => load32_run _ _ _ _ _ _ ρ w gpr 0 _ hx (hs.cell 0))
    · exact core_held _ _ _ _ _ _ _ _ (by rfl) (by rfl) (known_core 2 76 _ _ (of_decide_eq_true (by rfl)) (by rfl) (by rfl) (by rfl)) (fun ρ w hx _ => conv32_run _ _ _ _ _ _ ρ w i li hx)
    · exact coreG_pure _ _ _ _ _ _ _ (by rfl) (by rfl) wants_none (fun vs w hl hp w' _ => idx32_1 _ _ _ _ _ _ _ w' gpr ((show Known _ _ [] (.tmp 4) (.pointer (some ⟨gpr, 0, none⟩)) from known_old 4 _ (of_decide_eq_true (by rfl)) (by rfl)) vs w hl (fun _ h => by cases h)) (by rfl))
    · exact core_held _ _ _ _ _ _ _ _ (by rfl) (by rfl) (known_core 4 78 _ _ (of_decide_eq_true (by rfl)) (by rfl) (by rfl) (by rfl)) (fun ρ w hx hs => load32_run _ _ _ _ _ _ ρ w gpr 1 _ hx (hs.cell 1))
    · exact core_held _ _ _ _ _ _ _ _ (by rfl) (by rfl) (known_core 5 79 _ _ (of_decide_eq_true (by rfl)) (by rfl) (by rfl) (by rfl)) (fun ρ w hx _ => conv32_run _ _ _ _ _ _ ρ w j lj hx)
    · exact core_held2 _ _ _ _ _ _ _ _ _ _ (by rfl) (by rfl) (known_core 3 77 _ _ (of_decide_eq_true (by rfl)) (by rfl) (by rfl) (by rfl)) (known_core 6 80 _ _ (of_decide_eq_true (by rfl)) (by rfl) (by rfl) (by rfl)) (fun ρ w hx hy _ => add64_run _ _ _ _ _ _ ρ w _ i j lsum hx hy)
    · exact core_pureAs _ (by rfl)
    · exact core_pureAs _ (by rfl)
    · exact core_pureAs _ (by rfl)
    · exact core_move _ _ _ _ _ _ (by rfl) (by rfl) (known_core 10 84 _ _ (of_decide_eq_true (by rfl)) (by rfl) (by rfl) (by rfl))
    · exact core_extract _ _ 0 _ _ _ _ _ (by rfl) (by rfl) (known_core 11 73 _ _ (of_decide_eq_true (by rfl)) (by rfl) (by rfl) (by rfl)) (by rfl)
    · exact core_extract _ _ 1 _ _ _ _ _ (by rfl) (by rfl) (known_core 11 73 _ _ (of_decide_eq_true (by rfl)) (by rfl) (by rfl) (by rfl)) (by rfl)
    · exact core_pureAs _ (by rfl)
  · refine all_cons ?_ (all_cons ?_ (all_cons ?_ (all_cons ?_ (all_cons ?_ (all_cons ?_ (all_cons ?_ (all_cons ?_ (all_cons ?_ (all_cons ?_ (all_cons ?_ (all_cons ?_ (all_cons ?_ (all_cons ?_ (all_cons ?_ (all_nil)))))))))))))))
    · exact fun _ => core_load _ _ _ _ _ ga _ _ _ _ (by rfl) (by rfl) (known_old 7 _ (of_decide_eq_true (by rfl)) (by rfl)) Fa.out
    · exact core_stepAs _ (by rfl)
    · exact core_stepAs _ (by rfl)
    · exact core_stepAs _ (by rfl)
    · exact core_stepAs _ (by rfl)
    · exact core_stepAs _ (by rfl)
    · exact core_stepAs _ (by rfl)
    · exact core_stepAs _ (by rfl)
    · exact fun _ => core_call _ 28 _ _ [.tmp 81] _ _ _ _ _ _ (by rfl) Try.func28 (by kernel_rfl) (by rfl) (by rfl) (.cons (known_core 7 81 _ _ (of_decide_eq_true (by rfl)) (by rfl) (by rfl) (by rfl)) .nil) (HOs.out)
    · exact fun _ => core_load _ _ _ _ _ gm _ _ _ _ (by rfl) (by rfl) (known_old 5 _ (of_decide_eq_true (by rfl)) (by rfl)) Fm.out
    · exact fun _ => core_call _ 20 _ _ [.tmp 74, .tmp 82, .tmp 83] _ _ _ _ _ _ (by rfl) Try.func20 (by kernel_rfl) (by rfl) (by rfl) (.cons (known_core 0 74 _ _ (of_decide_eq_true (by rfl)) (by rfl) (by rfl) (by rfl)) (.cons (known_core 8 82 _ _ (of_decide_eq_true (by rfl)) (by rfl) (by rfl) (by rfl)) (.cons (known_core 9 83 _ _ (of_decide_eq_true (by rfl)) (by rfl) (by rfl) (by rfl)) .nil))) (HE4.out)
    · exact core_stepAs _ (by rfl)
    · exact core_stepAs _ (by rfl)
    · exact core_stepAs _ (by rfl)
    · exact fun _ => core_alloc _ _ _ _ _ (by rfl) (by rfl) (Nat.le_refl _)
  intro vs y17 hc
  obtain ⟨vv0, vv1, vv2, vv3, vv4, vv5, vv6, vv7, vv8, vv9, vv10, vv11, vv12, vv13, vv14, rfl⟩ := len15 vs hc.lv
  have qq0 : vv0 = .agg #[.int .u64 (wd a 0 : Nat), .int .u64 (wd a 1 : Nat), .int .u64 (wd a 2 : Nat), .int .u64 (wd a 3 : Nat)] := by obtain ⟨xx, hx, hy⟩ := hc.ok 0 _ rfl rfl; exact (Option.some.inj (show some vv0 = some xx from hx)).trans hy
  have qq1 : vv1 = .pointer (some ⟨gpr, 0, none⟩) := by obtain ⟨xx, hx, hy⟩ := hc.ok 1 _ rfl rfl; exact (Option.some.inj (show some vv1 = some xx from hx)).trans hy
  have qq2 : vv2 = .int .u32 (i : Nat) := by obtain ⟨xx, hx, hy⟩ := hc.ok 2 _ rfl rfl; exact (Option.some.inj (show some vv2 = some xx from hx)).trans hy
  have qq3 : vv3 = .int .u64 (i : Nat) := by obtain ⟨xx, hx, hy⟩ := hc.ok 3 _ rfl rfl; exact (Option.some.inj (show some vv3 = some xx from hx)).trans hy
  have qq4 : vv4 = .pointer (some ⟨gpr, 1, none⟩) := by obtain ⟨xx, hx, hy⟩ := hc.ok 4 _ rfl rfl; exact (Option.some.inj (show some vv4 = some xx from hx)).trans hy
  have qq5 : vv5 = .int .u32 (j : Nat) := by obtain ⟨xx, hx, hy⟩ := hc.ok 5 _ rfl rfl; exact (Option.some.inj (show some vv5 = some xx from hx)).trans hy
  have qq6 : vv6 = .int .u64 (j : Nat) := by obtain ⟨xx, hx, hy⟩ := hc.ok 6 _ rfl rfl; exact (Option.some.inj (show some vv6 = some xx from hx)).trans hy
  have qq7 : vv7 = .int .u64 ((i + j : Nat) : Int) := by obtain ⟨xx, hx, hy⟩ := hc.ok 7 _ rfl rfl; exact (Option.some.inj (show some vv7 = some xx from hx)).trans hy
  have qq8 : vv8 = .agg #[.int .u64 (wd is 0 : Nat), .int .u64 (wd is 1 : Nat), .int .u64 (wd is 2 : Nat), .int .u64 (wd is 3 : Nat)] := by obtain ⟨xx, hx, hy⟩ := hc.ok 8 _ rfl rfl; exact (Option.some.inj (show some vv8 = some xx from hx)).trans hy
  have qq9 : vv9 = .agg #[.int .u64 (wd M 0 : Nat), .int .u64 (wd M 1 : Nat), .int .u64 (wd M 2 : Nat), .int .u64 (wd M 3 : Nat)] := by obtain ⟨xx, hx, hy⟩ := hc.ok 9 _ rfl rfl; exact (Option.some.inj (show some vv9 = some xx from hx)).trans hy
  have qq10 : vv10 = .tuple #[.agg #[.int .u64 (wd s 0 : Nat), .int .u64 (wd s 1 : Nat), .int .u64 (wd s 2 : Nat), .int .u64 (wd s 3 : Nat)], .int .i64 0] := by obtain ⟨xx, hx, hy⟩ := hc.ok 10 _ rfl rfl; exact (Option.some.inj (show some vv10 = some xx from hx)).trans hy
  have qq11 : vv11 = .tuple #[.agg #[.int .u64 (wd s 0 : Nat), .int .u64 (wd s 1 : Nat), .int .u64 (wd s 2 : Nat), .int .u64 (wd s 3 : Nat)], .int .i64 0] := by obtain ⟨xx, hx, hy⟩ := hc.ok 11 _ rfl rfl; exact (Option.some.inj (show some vv11 = some xx from hx)).trans hy
  have qq12 : vv12 = .agg #[.int .u64 (wd s 0 : Nat), .int .u64 (wd s 1 : Nat), .int .u64 (wd s 2 : Nat), .int .u64 (wd s 3 : Nat)] := by obtain ⟨xx, hx, hy⟩ := hc.ok 12 _ rfl rfl; exact (Option.some.inj (show some vv12 = some xx from hx)).trans hy
  have qq13 : vv13 = .int .i64 0 := by obtain ⟨xx, hx, hy⟩ := hc.ok 13 _ rfl rfl; exact (Option.some.inj (show some vv13 = some xx from hx)).trans hy
  obtain ⟨xx, hx, gz, hv, Ez, Az⟩ := hc.ok 14 _ rfl rfl
  have qq14 : vv14 = .pointer (some ⟨gz, 0, none⟩) := (Option.some.inj (show some vv14 = some xx from hx)).trans hv
  clear hx hv
  have BZ := hc.bel
  clear hc
  have Npr := Fpr.out.on BZ
  have Nm := Fm.out.on BZ
  have Na := Fa.out.on BZ
  have Nb := Fb.out.on BZ
  have Nni := Fni.out.on BZ
  have Nnj := Fnj.out.on BZ
  have Nx := Fx.out.on BZ
  have Ny := Fy.out.on BZ
  have Nxy := Fxy.out.on BZ
  have Dprz : gpr ≠ gz := by have := Fpr.out.lt; omega
  have Dmz : gm ≠ gz := by have := Fm.out.lt; omega
  have Daz : ga ≠ gz := by have := Fa.out.lt; omega
  have Dbz : gb ≠ gz := by have := Fb.out.lt; omega
  have Dniz : gni ≠ gz := by have := Fni.out.lt; omega
  have Dnjz : gnj ≠ gz := by have := Fnj.out.lt; omega
  have Dxz : gx ≠ gz := by have := Fx.out.lt; omega
  have Dyz : gy ≠ gz := by have := Fy.out.lt; omega
  have Dxyz : gxy ≠ gz := by have := Fxy.out.lt; omega
  have HSZ17 := BW.out.size
  have NB := bel_tr BW.out BZ
  clear BW BZ Fpr Fm Fa Fb Fni Fnj Fx Fy Fxy
  subst qq0 qq1 qq2 qq3 qq4 qq5 qq6 qq7 qq8 qq9 qq10 qq11 qq12 qq13 qq14
  simp only [List.map_cons, List.map_nil, over, Act.put, List.setIfInBounds_toArray, List.set_cons_zero, List.set_cons_succ]
  have OLD := Az
  replace Npr := put4_far Npr Dprz (.int .u64 (wd s 0 : Nat)) (.int .u64 (wd s 1 : Nat)) (.int .u64 (wd s 2 : Nat)) (.int .u64 (wd s 3 : Nat))
  replace Nm := put4_far Nm Dmz (.int .u64 (wd s 0 : Nat)) (.int .u64 (wd s 1 : Nat)) (.int .u64 (wd s 2 : Nat)) (.int .u64 (wd s 3 : Nat))
  replace Na := put4_far Na Daz (.int .u64 (wd s 0 : Nat)) (.int .u64 (wd s 1 : Nat)) (.int .u64 (wd s 2 : Nat)) (.int .u64 (wd s 3 : Nat))
  replace Nb := put4_far Nb Dbz (.int .u64 (wd s 0 : Nat)) (.int .u64 (wd s 1 : Nat)) (.int .u64 (wd s 2 : Nat)) (.int .u64 (wd s 3 : Nat))
  replace Nni := put4_far Nni Dniz (.int .u64 (wd s 0 : Nat)) (.int .u64 (wd s 1 : Nat)) (.int .u64 (wd s 2 : Nat)) (.int .u64 (wd s 3 : Nat))
  replace Nnj := put4_far Nnj Dnjz (.int .u64 (wd s 0 : Nat)) (.int .u64 (wd s 1 : Nat)) (.int .u64 (wd s 2 : Nat)) (.int .u64 (wd s 3 : Nat))
  replace Nx := put4_far Nx Dxz (.int .u64 (wd s 0 : Nat)) (.int .u64 (wd s 1 : Nat)) (.int .u64 (wd s 2 : Nat)) (.int .u64 (wd s 3 : Nat))
  replace Ny := put4_far Ny Dyz (.int .u64 (wd s 0 : Nat)) (.int .u64 (wd s 1 : Nat)) (.int .u64 (wd s 2 : Nat)) (.int .u64 (wd s 3 : Nat))
  replace Nxy := put4_far Nxy Dxyz (.int .u64 (wd s 0 : Nat)) (.int .u64 (wd s 1 : Nat)) (.int .u64 (wd s 2 : Nat)) (.int .u64 (wd s 3 : Nat))
  replace Az := put4_at Az (.int .u64 (wd s 0 : Nat)) (.int .u64 (wd s 1 : Nat)) (.int .u64 (wd s 2 : Nat)) (.int .u64 (wd s 3 : Nat))
  replace NB := put4_below NB (Nat.le_trans HSZ17 Ez) (.int .u64 (wd s 0 : Nat)) (.int .u64 (wd s 1 : Nat)) (.int .u64 (wd s 2 : Nat)) (.int .u64 (wd s 3 : Nat))
  refine store_one (i := 15) _ _ _ _ _ gz _ _ _ _ _ _ _ _ (by kernel_rfl) (by rfl) (by rfl) (by rfl) OLD (Npr) ?_
  clear OLD
  generalize (put4 y17 gz (.int .u64 (wd s 0 : Nat)) (.int .u64 (wd s 1 : Nat)) (.int .u64 (wd s 2 : Nat)) (.int .u64 (wd s 3 : Nat))) = y17_15 at *
  refine assign_one (i := 16) _ 18 _ _ _ (.int .i64 0) (by kernel_rfl) (by rfl) (by rfl) (Npr) ?_
  try simp only [Act.put, List.setIfInBounds_toArray, List.set_cons_zero, List.set_cons_succ]
  refine wpAnyH_done (by kernel_rfl) ?_ _
  refine NoPanic.normal ?_
  have Fpr := Lib.hid Npr
  have Fm := Lib.hid Nm
  have Fa := Lib.hid Na
  have Fb := Lib.hid Nb
  have Fni := Lib.hid Nni
  have Fnj := Lib.hid Nnj
  have Fx := Lib.hid Nx
  have Fy := Lib.hid Ny
  have Fxy := Lib.hid Nxy
  have Fz := Lib.hid Az
  have BW := Lib.hid NB
  clear NB Npr Nm Na Nb Nni Nnj Nx Ny Nxy Az
  clear Ez
  clear HSZ17
  have Lxy := Fxy.out.lt
  have cxy0 : y17_15.cell? ⟨gxy, 0, none⟩ = some (.int .u64 (wd s 0 : Nat)) := Fxy.out.cell 0
  have cxy1 : y17_15.cell? ⟨gxy, 1, none⟩ = some (.int .u64 (wd s 1 : Nat)) := Fxy.out.cell 1
  have cxy2 : y17_15.cell? ⟨gxy, 2, none⟩ = some (.int .u64 (wd s 2 : Nat)) := Fxy.out.cell 2
  have cxy3 : y17_15.cell? ⟨gxy, 3, none⟩ = some (.int .u64 (wd s 3 : Nat)) := Fxy.out.cell 3
  have Lz := Fz.out.lt
  have cz0 : y17_15.cell? ⟨gz, 0, none⟩ = some (.int .u64 (wd s 0 : Nat)) := Fz.out.cell 0
  have cz1 : y17_15.cell? ⟨gz, 1, none⟩ = some (.int .u64 (wd s 1 : Nat)) := Fz.out.cell 1
  have cz2 : y17_15.cell? ⟨gz, 2, none⟩ = some (.int .u64 (wd s 2 : Nat)) := Fz.out.cell 2
  have cz3 : y17_15.cell? ⟨gz, 3, none⟩ = some (.int .u64 (wd s 3 : Nat)) := Fz.out.cell 3
  have qqs := eqY s
  have Lx := Fx.out.lt
  have cx0 : y17_15.cell? ⟨gx, 0, none⟩ = some (.int .u64 (wd x 0 : Nat)) := Fx.out.cell 0
  have cx1 : y17_15.cell? ⟨gx, 1, none⟩ = some (.int .u64 (wd x 1 : Nat)) := Fx.out.cell 1
  have cx2 : y17_15.cell? ⟨gx, 2, none⟩ = some (.int .u64 (wd x 2 : Nat)) := Fx.out.cell 2
  have cx3 : y17_15.cell? ⟨gx, 3, none⟩ = some (.int .u64 (wd x 3 : Nat)) := Fx.out.cell 3
  have Lnj := Fnj.out.lt
  have cnj0 : y17_15.cell? ⟨gnj, 0, none⟩ = some (.int .u64 (wd j 0 : Nat)) := Fnj.out.cell 0
  have cnj1 : y17_15.cell? ⟨gnj, 1, none⟩ = some (.int .u64 (wd j 1 : Nat)) := Fnj.out.cell 1
  have cnj2 : y17_15.cell? ⟨gnj, 2, none⟩ = some (.int .u64 (wd j 2 : Nat)) := Fnj.out.cell 2
  have cnj3 : y17_15.cell? ⟨gnj, 3, none⟩ = some (.int .u64 (wd j 3 : Nat)) := Fnj.out.cell 3
  have Lm := Fm.out.lt
  have cm0 : y17_15.cell? ⟨gm, 0, none⟩ = some (.int .u64 (wd M 0 : Nat)) := Fm.out.cell 0
  have cm1 : y17_15.cell? ⟨gm, 1, none⟩ = some (.int .u64 (wd M 1 : Nat)) := Fm.out.cell 1
  have cm2 : y17_15.cell? ⟨gm, 2, none⟩ = some (.int .u64 (wd M 2 : Nat)) := Fm.out.cell 2
  have cm3 : y17_15.cell? ⟨gm, 3, none⟩ = some (.int .u64 (wd M 3 : Nat)) := Fm.out.cell 3
  go_wp2_with fail
  clear Lxy cxy0 cxy1 cxy2 cxy3 Lz cz0 cz1 cz2 cz3 Lx cx0 cx1 cx2 cx3 Lnj cnj0 cnj1 cnj2 cnj3 Lm cm0 cm1 cm2 cm3
  clear qqs
  clear Fxy
  clear Fz
  clear Fy
  refine (HE5.out _).mono ?_
  rintro e v18 ⟨rfl, z18⟩
  have Npr := Lib.hid (Fpr.out.on z18)
  have Nm := Lib.hid (Fm.out.on z18)
  have Na := Lib.hid (Fa.out.on z18)
  have Nb := Lib.hid (Fb.out.on z18)
  have Nni := Lib.hid (Fni.out.on z18)
  have Nnj := Lib.hid (Fnj.out.on z18)
  have Nx := Lib.hid (Fx.out.on z18)
  have NB := Lib.hid (bel_tr BW.out z18)
  clear BW z18 Fpr Fm Fa Fb Fni Fnj Fx
  have Fpr := Npr
  have Fm := Nm
  have Fa := Na
  have Fb := Nb
  have Fni := Nni
  have Fnj := Nnj
  have Fx := Nx
  have BW := NB
  clear NB Npr Nm Na Nb Nni Nnj Nx
  go_wp2_with fail
  have Nv : At (v18.alloc (.cells #[.int .u64 (wd q 0 : Nat), .int .u64 (wd q 1 : Nat), .int .u64 (wd q 2 : Nat), .int .u64 (wd q 3 : Nat)] 24)) (v18.heap.size) 24 #[.int .u64 (wd q 0 : Nat), .int .u64 (wd q 1 : Nat), .int .u64 (wd q 2 : Nat), .int .u64 (wd q 3 : Nat)] := At.at_ _ _ _ _ (by simp)
  have Npr : At (v18.alloc (.cells #[.int .u64 (wd q 0 : Nat), .int .u64 (wd q 1 : Nat), .int .u64 (wd q 2 : Nat), .int .u64 (wd q 3 : Nat)] 24)) gpr 45 #[.int .u32 (i : Nat), .int .u32 (j : Nat)] := Fpr.out.alloc _
  have Nm : At (v18.alloc (.cells #[.int .u64 (wd q 0 : Nat), .int .u64 (wd q 1 : Nat), .int .u64 (wd q 2 : Nat), .int .u64 (wd q 3 : Nat)] 24)) gm 24 #[.int .u64 (wd M 0 : Nat), .int .u64 (wd M 1 : Nat), .int .u64 (wd M 2 : Nat), .int .u64 (wd M 3 : Nat)] := Fm.out.alloc _
  have Na : At (v18.alloc (.cells #[.int .u64 (wd q 0 : Nat), .int .u64 (wd q 1 : Nat), .int .u64 (wd q 2 : Nat), .int .u64 (wd q 3 : Nat)] 24)) ga 24 #[.int .u64 (wd a 0 : Nat), .int .u64 (wd a 1 : Nat), .int .u64 (wd a 2 : Nat), .int .u64 (wd a 3 : Nat)] := Fa.out.alloc _
  have Nb : At (v18.alloc (.cells #[.int .u64 (wd q 0 : Nat), .int .u64 (wd q 1 : Nat), .int .u64 (wd q 2 : Nat), .int .u64 (wd q 3 : Nat)] 24)) gb 24 #[.int .u64 (wd b 0 : Nat), .int .u64 (wd b 1 : Nat), .int .u64 (wd b 2 : Nat), .int .u64 (wd b 3 : Nat)] := Fb.out.alloc _
  have Nni : At (v18.alloc (.cells #[.int .u64 (wd q 0 : Nat), .int .u64 (wd q 1 : Nat), .int .u64 (wd q 2 : Nat), .int .u64 (wd q 3 : Nat)] 24)) gni 24 #[.int .u64 (wd i 0 : Nat), .int .u64 (wd i 1 : Nat), .int .u64 (wd i 2 : Nat), .int .u64 (wd i 3 : Nat)] := Fni.out.alloc _
  have Nnj : At (v18.alloc (.cells #[.int .u64 (wd q 0 : Nat), .int .u64 (wd q 1 : Nat), .int .u64 (wd q 2 : Nat), .int .u64 (wd q 3 : Nat)] 24)) gnj 24 #[.int .u64 (wd j 0 : Nat), .int .u64 (wd j 1 : Nat), .int .u64 (wd j 2 : Nat), .int .u64 (wd j 3 : Nat)] := Fnj.out.alloc _
  have Nx : At (v18.alloc (.cells #[.int .u64 (wd q 0 : Nat), .int .u64 (wd q 1 : Nat), .int .u64 (wd q 2 : Nat), .int .u64 (wd q 3 : Nat)] 24)) gx 24 #[.int .u64 (wd x 0 : Nat), .int .u64 (wd x 1 : Nat), .int .u64 (wd x 2 : Nat), .int .u64 (wd x 3 : Nat)] := Fx.out.alloc _
  have NB : Below w.heap.size w (v18.alloc (.cells #[.int .u64 (wd q 0 : Nat), .int .u64 (wd q 1 : Nat), .int .u64 (wd q 2 : Nat), .int .u64 (wd q 3 : Nat)] 24)) := gr_alloc BW.out _
  clear BW Fpr Fm Fa Fb Fni Fnj Fx
  generalize (v18.alloc (.cells #[.int .u64 (wd q 0 : Nat), .int .u64 (wd q 1 : Nat), .int .u64 (wd q 2 : Nat), .int .u64 (wd q 3 : Nat)] 24)) = W19 at *
  generalize v18.heap.size = gv at *
  have Fpr := Lib.hid Npr
  have Fm := Lib.hid Nm
  have Fa := Lib.hid Na
  have Fb := Lib.hid Nb
  have Fni := Lib.hid Nni
  have Fnj := Lib.hid Nnj
  have Fx := Lib.hid Nx
  have Fv := Lib.hid Nv
  have BW := Lib.hid NB
  clear NB Npr Nm Na Nb Nni Nnj Nx Nv
  try simp only [List.append_eq, List.cons_append, List.nil_append]
  refine wp_region_noPanic ?_
  refine wp_region_held_drew (S := fun w' => At w' gpr 45 #[.int .u32 (i : Nat), .int .u32 (j : Nat)]) (by kernel_rfl) (Fpr.out.drew) (fun _ => ?_)
  refine wpAnyH_cores (fuel := 2) (⟨0, 114, [], Kind.val (.agg #[.int .u64 (wd a 0 : Nat), .int .u64 (wd a 1 : Nat), .int .u64 (wd a 2 : Nat), .int .u64 (wd a 3 : Nat)]), false⟩ :: ⟨1, 115, [], Kind.val (.pointer (some ⟨gpr, 0, none⟩)), true⟩ :: ⟨2, 116, [1], Kind.val (.int .u32 (i : Nat)), true⟩ :: ⟨3, 117, [2], Kind.val (.int .u64 (i : Nat)), true⟩ :: ⟨4, 118, [], Kind.val (.pointer (some ⟨gpr, 1, none⟩)), true⟩ :: ⟨5, 119, [4], Kind.val (.int .u32 (j : Nat)), true⟩ :: ⟨6, 120, [5], Kind.val (.int .u64 (j : Nat)), true⟩ :: ⟨7, 121, [3, 6], Kind.val (.int .u64 ((i * j : Nat) : Int)), true⟩ :: ⟨8, 122, [7], Kind.val (.agg #[.int .u64 (wd ip 0 : Nat), .int .u64 (wd ip 1 : Nat), .int .u64 (wd ip 2 : Nat), .int .u64 (wd ip 3 : Nat)]), false⟩ :: ⟨9, 123, [], Kind.val (.agg #[.int .u64 (wd M 0 : Nat), .int .u64 (wd M 1 : Nat), .int .u64 (wd M 2 : Nat), .int .u64 (wd M 3 : Nat)]), false⟩ :: ⟨10, 124, [0, 8, 9], Kind.val (.tuple #[.agg #[.int .u64 (wd q 0 : Nat), .int .u64 (wd q 1 : Nat), .int .u64 (wd q 2 : Nat), .int .u64 (wd q 3 : Nat)], .int .i64 0]), false⟩ :: ⟨11, 113, [10], Kind.val (.tuple #[.agg #[.int .u64 (wd q 0 : Nat), .int .u64 (wd q 1 : Nat), .int .u64 (wd q 2 : Nat), .int .u64 (wd q 3 : Nat)], .int .i64 0]), true⟩ :: ⟨12, 125, [11], Kind.val (.agg #[.int .u64 (wd q 0 : Nat), .int .u64 (wd q 1 : Nat), .int .u64 (wd q 2 : Nat), .int .u64 (wd q 3 : Nat)]), true⟩ :: ⟨13, 126, [11], Kind.val (.int .i64 0), true⟩ :: ⟨14, 20, [], Kind.cell W19.heap.size 24 #[.int .u64 0, .int .u64 0, .int .u64 0, .int .u64 0], false⟩ :: []) _ _ W19 _ ?_ ?_ ?_ ?_ ?_ ?_ ?_ ?_ ?_ ?_ ?_
  · rfl
  · kernel_rfl
  · exact of_decide_eq_true rfl
  · exact all_cons ⟨_, rfl, rfl⟩ (all_cons ⟨_, rfl, rfl⟩ (all_cons ⟨_, rfl, rfl⟩ (all_cons ⟨_, rfl, rfl⟩ (all_cons ⟨_, rfl, rfl⟩ (all_cons ⟨_, rfl, rfl⟩ (all_cons ⟨_, rfl, rfl⟩ (all_cons ⟨_, rfl, rfl⟩ (all_cons ⟨_, rfl, rfl⟩ (all_cons ⟨_, rfl, rfl⟩ (all_cons ⟨_, rfl, rfl⟩ (all_cons ⟨_, rfl, rfl⟩ (all_cons ⟨_, rfl, rfl⟩ (all_cons ⟨_, rfl, rfl⟩ (all_cons ⟨_, rfl, rfl⟩ (all_nil)))))))))))))))
  · exact fun _ hb => Fpr.out.on hb
  · exact (Below.refl _ _).drew
  · kernel_rfl
  · exact fun _ _ _ _ _ h => h
  · refine all_cons ?_ (all_cons ?_ (all_cons ?_ (all_cons ?_ (all_cons ?_ (all_cons ?_ (all_cons ?_ (all_cons ?_ (all_cons ?_ (all_cons ?_ (all_cons ?_ (all_cons ?_ (all_cons ?_ (all_cons ?_ (all_cons ?_ (all_nil)))))))))))))))
    · exact core_pureAs _ (by rfl)
    · exact coreG_pure _ _ _ _ _ _ _ (by rfl) (by rfl) wants_none (fun vs w hl hp w' _ => idx32_0 _ _ _ _ _ _ _ w' gpr ((show Known _ _ [] (.tmp 4) (.pointer (some ⟨gpr, 0, none⟩)) from known_old 4 _ (of_decide_eq_true (by rfl)) (by rfl)) vs w hl (fun _ h => by cases h)) (by rfl))
    · exact core_held _ _ _ _ _ _ _ _ (by rfl) (by rfl) (known_core 1 115 _ _ (of_decide_eq_true (by rfl)) (by rfl) (by rfl) (by rfl)) (fun ρ w hx hs => load32_run _ _ _ _ _ _ ρ w gpr 0 _ hx (hs.cell 0))
    · exact core_held _ _ _ _ _ _ _ _ (by rfl) (by rfl) (known_core 2 116 _ _ (of_decide_eq_true (by rfl)) (by rfl) (by rfl) (by rfl)) (fun ρ w hx _ => conv32_run _ _ _ _ _ _ ρ w i li hx)
    · exact coreG_pure _ _ _ _ _ _ _ (by rfl) (by rfl) wants_none (fun vs w hl hp w' _ => idx32_1 _ _ _ _ _ _ _ w' gpr ((show Known _ _ [] (.tmp 4) (.pointer (some ⟨gpr, 0, none⟩)) from known_old 4 _ (of_decide_eq_true (by rfl)) (by rfl)) vs w hl (fun _ h => by cases h)) (by rfl))
    · exact core_held _ _ _ _ _ _ _ _ (by rfl) (by rfl) (known_core 4 118 _ _ (of_decide_eq_true (by rfl)) (by rfl) (by rfl) (by rfl)) (fun ρ w hx hs => load32_run _ _ _ _ _ _ ρ w gpr 1 _ hx (hs.cell 1))
    · exact core_held _ _ _ _ _ _ _ _ (by rfl) (by rfl) (known_core 5 119 _ _ (of_decide_eq_true (by rfl)) (by rfl) (by rfl) (by rfl)) (fun ρ w hx _ => conv32_run _ _ _ _ _ _ ρ w j lj hx)
    · exact core_held2 _ _ _ _ _ _ _ _ _ _ (by rfl) (by rfl) (known_core 3 117 _ _ (of_decide_eq_true (by rfl)) (by rfl) (by rfl) (by rfl)) (known_core 6 120 _ _ (of_decide_eq_true (by rfl)) (by rfl) (by rfl) (by rfl)) (fun ρ w hx hy _ => mul64_run _ _ _ _ _ _ ρ w _ i j lprod hx hy)
    · exact core_pureAs _ (by rfl)
    · exact core_pureAs _ (by rfl)
    · exact core_pureAs _ (by rfl)
    · exact core_move _ _ _ _ _ _ (by rfl) (by rfl) (known_core 10 124 _ _ (of_decide_eq_true (by rfl)) (by rfl) (by rfl) (by rfl))
    · exact core_extract _ _ 0 _ _ _ _ _ (by rfl) (by rfl) (known_core 11 113 _ _ (of_decide_eq_true (by rfl)) (by rfl) (by rfl) (by rfl)) (by rfl)
    · exact core_extract _ _ 1 _ _ _ _ _ (by rfl) (by rfl) (known_core 11 113 _ _ (of_decide_eq_true (by rfl)) (by rfl) (by rfl) (by rfl)) (by rfl)
    · exact core_pureAs _ (by rfl)
  · refine all_cons ?_ (all_cons ?_ (all_cons ?_ (all_cons ?_ (all_cons ?_ (all_cons ?_ (all_cons ?_ (all_cons ?_ (all_cons ?_ (all_cons ?_ (all_cons ?_ (all_cons ?_ (all_cons ?_ (all_cons ?_ (all_cons ?_ (all_nil)))))))))))))))
    · exact fun _ => core_load _ _ _ _ _ ga _ _ _ _ (by rfl) (by rfl) (known_old 7 _ (of_decide_eq_true (by rfl)) (by rfl)) Fa.out
    · exact core_stepAs _ (by rfl)
    · exact core_stepAs _ (by rfl)
    · exact core_stepAs _ (by rfl)
    · exact core_stepAs _ (by rfl)
    · exact core_stepAs _ (by rfl)
    · exact core_stepAs _ (by rfl)
    · exact core_stepAs _ (by rfl)
    · exact fun _ => core_call _ 28 _ _ [.tmp 121] _ _ _ _ _ _ (by rfl) Try.func28 (by kernel_rfl) (by rfl) (by rfl) (.cons (known_core 7 121 _ _ (of_decide_eq_true (by rfl)) (by rfl) (by rfl) (by rfl)) .nil) (HOp.out)
    · exact fun _ => core_load _ _ _ _ _ gm _ _ _ _ (by rfl) (by rfl) (known_old 5 _ (of_decide_eq_true (by rfl)) (by rfl)) Fm.out
    · exact fun _ => core_call _ 20 _ _ [.tmp 114, .tmp 122, .tmp 123] _ _ _ _ _ _ (by rfl) Try.func20 (by kernel_rfl) (by rfl) (by rfl) (.cons (known_core 0 114 _ _ (of_decide_eq_true (by rfl)) (by rfl) (by rfl) (by rfl)) (.cons (known_core 8 122 _ _ (of_decide_eq_true (by rfl)) (by rfl) (by rfl) (by rfl)) (.cons (known_core 9 123 _ _ (of_decide_eq_true (by rfl)) (by rfl) (by rfl) (by rfl)) .nil))) (HE6.out)
    · exact core_stepAs _ (by rfl)
    · exact core_stepAs _ (by rfl)
    · exact core_stepAs _ (by rfl)
    · exact fun _ => core_alloc _ _ _ _ _ (by rfl) (by rfl) (Nat.le_refl _)
  intro vs y20 hc
  obtain ⟨vv0, vv1, vv2, vv3, vv4, vv5, vv6, vv7, vv8, vv9, vv10, vv11, vv12, vv13, vv14, rfl⟩ := len15 vs hc.lv
  have qq0 : vv0 = .agg #[.int .u64 (wd a 0 : Nat), .int .u64 (wd a 1 : Nat), .int .u64 (wd a 2 : Nat), .int .u64 (wd a 3 : Nat)] := by obtain ⟨xx, hx, hy⟩ := hc.ok 0 _ rfl rfl; exact (Option.some.inj (show some vv0 = some xx from hx)).trans hy
  have qq1 : vv1 = .pointer (some ⟨gpr, 0, none⟩) := by obtain ⟨xx, hx, hy⟩ := hc.ok 1 _ rfl rfl; exact (Option.some.inj (show some vv1 = some xx from hx)).trans hy
  have qq2 : vv2 = .int .u32 (i : Nat) := by obtain ⟨xx, hx, hy⟩ := hc.ok 2 _ rfl rfl; exact (Option.some.inj (show some vv2 = some xx from hx)).trans hy
  have qq3 : vv3 = .int .u64 (i : Nat) := by obtain ⟨xx, hx, hy⟩ := hc.ok 3 _ rfl rfl; exact (Option.some.inj (show some vv3 = some xx from hx)).trans hy
  have qq4 : vv4 = .pointer (some ⟨gpr, 1, none⟩) := by obtain ⟨xx, hx, hy⟩ := hc.ok 4 _ rfl rfl; exact (Option.some.inj (show some vv4 = some xx from hx)).trans hy
  have qq5 : vv5 = .int .u32 (j : Nat) := by obtain ⟨xx, hx, hy⟩ := hc.ok 5 _ rfl rfl; exact (Option.some.inj (show some vv5 = some xx from hx)).trans hy
  have qq6 : vv6 = .int .u64 (j : Nat) := by obtain ⟨xx, hx, hy⟩ := hc.ok 6 _ rfl rfl; exact (Option.some.inj (show some vv6 = some xx from hx)).trans hy
  have qq7 : vv7 = .int .u64 ((i * j : Nat) : Int) := by obtain ⟨xx, hx, hy⟩ := hc.ok 7 _ rfl rfl; exact (Option.some.inj (show some vv7 = some xx from hx)).trans hy
  have qq8 : vv8 = .agg #[.int .u64 (wd ip 0 : Nat), .int .u64 (wd ip 1 : Nat), .int .u64 (wd ip 2 : Nat), .int .u64 (wd ip 3 : Nat)] := by obtain ⟨xx, hx, hy⟩ := hc.ok 8 _ rfl rfl; exact (Option.some.inj (show some vv8 = some xx from hx)).trans hy
  have qq9 : vv9 = .agg #[.int .u64 (wd M 0 : Nat), .int .u64 (wd M 1 : Nat), .int .u64 (wd M 2 : Nat), .int .u64 (wd M 3 : Nat)] := by obtain ⟨xx, hx, hy⟩ := hc.ok 9 _ rfl rfl; exact (Option.some.inj (show some vv9 = some xx from hx)).trans hy
  have qq10 : vv10 = .tuple #[.agg #[.int .u64 (wd q 0 : Nat), .int .u64 (wd q 1 : Nat), .int .u64 (wd q 2 : Nat), .int .u64 (wd q 3 : Nat)], .int .i64 0] := by obtain ⟨xx, hx, hy⟩ := hc.ok 10 _ rfl rfl; exact (Option.some.inj (show some vv10 = some xx from hx)).trans hy
  have qq11 : vv11 = .tuple #[.agg #[.int .u64 (wd q 0 : Nat), .int .u64 (wd q 1 : Nat), .int .u64 (wd q 2 : Nat), .int .u64 (wd q 3 : Nat)], .int .i64 0] := by obtain ⟨xx, hx, hy⟩ := hc.ok 11 _ rfl rfl; exact (Option.some.inj (show some vv11 = some xx from hx)).trans hy
  have qq12 : vv12 = .agg #[.int .u64 (wd q 0 : Nat), .int .u64 (wd q 1 : Nat), .int .u64 (wd q 2 : Nat), .int .u64 (wd q 3 : Nat)] := by obtain ⟨xx, hx, hy⟩ := hc.ok 12 _ rfl rfl; exact (Option.some.inj (show some vv12 = some xx from hx)).trans hy
  have qq13 : vv13 = .int .i64 0 := by obtain ⟨xx, hx, hy⟩ := hc.ok 13 _ rfl rfl; exact (Option.some.inj (show some vv13 = some xx from hx)).trans hy
  obtain ⟨xx, hx, gvv, hv, Evv, Avv⟩ := hc.ok 14 _ rfl rfl
  have qq14 : vv14 = .pointer (some ⟨gvv, 0, none⟩) := (Option.some.inj (show some vv14 = some xx from hx)).trans hv
  clear hx hv
  have BZ := hc.bel
  clear hc
  have Npr := Fpr.out.on BZ
  have Nm := Fm.out.on BZ
  have Na := Fa.out.on BZ
  have Nb := Fb.out.on BZ
  have Nni := Fni.out.on BZ
  have Nnj := Fnj.out.on BZ
  have Nx := Fx.out.on BZ
  have Nv := Fv.out.on BZ
  have Dprvv : gpr ≠ gvv := by have := Fpr.out.lt; omega
  have Dmvv : gm ≠ gvv := by have := Fm.out.lt; omega
  have Davv : ga ≠ gvv := by have := Fa.out.lt; omega
  have Dbvv : gb ≠ gvv := by have := Fb.out.lt; omega
  have Dnivv : gni ≠ gvv := by have := Fni.out.lt; omega
  have Dnjvv : gnj ≠ gvv := by have := Fnj.out.lt; omega
  have Dxvv : gx ≠ gvv := by have := Fx.out.lt; omega
  have Dvvv : gv ≠ gvv := by have := Fv.out.lt; omega
  have HSZ20 := BW.out.size
  have NB := bel_tr BW.out BZ
  clear BW BZ Fpr Fm Fa Fb Fni Fnj Fx Fv
  subst qq0 qq1 qq2 qq3 qq4 qq5 qq6 qq7 qq8 qq9 qq10 qq11 qq12 qq13 qq14
  simp only [List.map_cons, List.map_nil, over, Act.put, List.setIfInBounds_toArray, List.set_cons_zero, List.set_cons_succ]
  have OLD := Avv
  replace Npr := put4_far Npr Dprvv (.int .u64 (wd q 0 : Nat)) (.int .u64 (wd q 1 : Nat)) (.int .u64 (wd q 2 : Nat)) (.int .u64 (wd q 3 : Nat))
  replace Nm := put4_far Nm Dmvv (.int .u64 (wd q 0 : Nat)) (.int .u64 (wd q 1 : Nat)) (.int .u64 (wd q 2 : Nat)) (.int .u64 (wd q 3 : Nat))
  replace Na := put4_far Na Davv (.int .u64 (wd q 0 : Nat)) (.int .u64 (wd q 1 : Nat)) (.int .u64 (wd q 2 : Nat)) (.int .u64 (wd q 3 : Nat))
  replace Nb := put4_far Nb Dbvv (.int .u64 (wd q 0 : Nat)) (.int .u64 (wd q 1 : Nat)) (.int .u64 (wd q 2 : Nat)) (.int .u64 (wd q 3 : Nat))
  replace Nni := put4_far Nni Dnivv (.int .u64 (wd q 0 : Nat)) (.int .u64 (wd q 1 : Nat)) (.int .u64 (wd q 2 : Nat)) (.int .u64 (wd q 3 : Nat))
  replace Nnj := put4_far Nnj Dnjvv (.int .u64 (wd q 0 : Nat)) (.int .u64 (wd q 1 : Nat)) (.int .u64 (wd q 2 : Nat)) (.int .u64 (wd q 3 : Nat))
  replace Nx := put4_far Nx Dxvv (.int .u64 (wd q 0 : Nat)) (.int .u64 (wd q 1 : Nat)) (.int .u64 (wd q 2 : Nat)) (.int .u64 (wd q 3 : Nat))
  replace Nv := put4_far Nv Dvvv (.int .u64 (wd q 0 : Nat)) (.int .u64 (wd q 1 : Nat)) (.int .u64 (wd q 2 : Nat)) (.int .u64 (wd q 3 : Nat))
  replace Avv := put4_at Avv (.int .u64 (wd q 0 : Nat)) (.int .u64 (wd q 1 : Nat)) (.int .u64 (wd q 2 : Nat)) (.int .u64 (wd q 3 : Nat))
  replace NB := put4_below NB (Nat.le_trans HSZ20 Evv) (.int .u64 (wd q 0 : Nat)) (.int .u64 (wd q 1 : Nat)) (.int .u64 (wd q 2 : Nat)) (.int .u64 (wd q 3 : Nat))
  refine store_one (i := 15) _ _ _ _ _ gvv _ _ _ _ _ _ _ _ (by kernel_rfl) (by rfl) (by rfl) (by rfl) OLD (Npr) ?_
  clear OLD
  generalize (put4 y20 gvv (.int .u64 (wd q 0 : Nat)) (.int .u64 (wd q 1 : Nat)) (.int .u64 (wd q 2 : Nat)) (.int .u64 (wd q 3 : Nat))) = y20_15 at *
  refine assign_one (i := 16) _ 14 _ _ _ (.int .i64 0) (by kernel_rfl) (by rfl) (by rfl) (Npr) ?_
  try simp only [Act.put, List.setIfInBounds_toArray, List.set_cons_zero, List.set_cons_succ]
  refine wpAnyH_done (by kernel_rfl) ?_ _
  refine NoPanic.normal ?_
  have Fpr := Lib.hid Npr
  have Fm := Lib.hid Nm
  have Fa := Lib.hid Na
  have Fb := Lib.hid Nb
  have Fni := Lib.hid Nni
  have Fnj := Lib.hid Nnj
  have Fx := Lib.hid Nx
  have Fv := Lib.hid Nv
  have Fvv := Lib.hid Avv
  have BW := Lib.hid NB
  clear NB Npr Nm Na Nb Nni Nnj Nx Nv Avv
  clear Evv
  clear HSZ20
  clear Fpr
  clear Fnj
  have La := Fa.out.lt
  have ca0 : y20_15.cell? ⟨ga, 0, none⟩ = some (.int .u64 (wd a 0 : Nat)) := Fa.out.cell 0
  have ca1 : y20_15.cell? ⟨ga, 1, none⟩ = some (.int .u64 (wd a 1 : Nat)) := Fa.out.cell 1
  have ca2 : y20_15.cell? ⟨ga, 2, none⟩ = some (.int .u64 (wd a 2 : Nat)) := Fa.out.cell 2
  have ca3 : y20_15.cell? ⟨ga, 3, none⟩ = some (.int .u64 (wd a 3 : Nat)) := Fa.out.cell 3
  have Lb := Fb.out.lt
  have cb0 : y20_15.cell? ⟨gb, 0, none⟩ = some (.int .u64 (wd b 0 : Nat)) := Fb.out.cell 0
  have cb1 : y20_15.cell? ⟨gb, 1, none⟩ = some (.int .u64 (wd b 1 : Nat)) := Fb.out.cell 1
  have cb2 : y20_15.cell? ⟨gb, 2, none⟩ = some (.int .u64 (wd b 2 : Nat)) := Fb.out.cell 2
  have cb3 : y20_15.cell? ⟨gb, 3, none⟩ = some (.int .u64 (wd b 3 : Nat)) := Fb.out.cell 3
  have Lm := Fm.out.lt
  have cm0 : y20_15.cell? ⟨gm, 0, none⟩ = some (.int .u64 (wd M 0 : Nat)) := Fm.out.cell 0
  have cm1 : y20_15.cell? ⟨gm, 1, none⟩ = some (.int .u64 (wd M 1 : Nat)) := Fm.out.cell 1
  have cm2 : y20_15.cell? ⟨gm, 2, none⟩ = some (.int .u64 (wd M 2 : Nat)) := Fm.out.cell 2
  have cm3 : y20_15.cell? ⟨gm, 3, none⟩ = some (.int .u64 (wd M 3 : Nat)) := Fm.out.cell 3
  go_wp2_with fail
  clear La ca0 ca1 ca2 ca3 Lb cb0 cb1 cb2 cb3 Lm cm0 cm1 cm2 cm3
  refine (HE7.out _).mono ?_
  rintro e v21 ⟨rfl, z21⟩
  have Nm := Lib.hid (Fm.out.on z21)
  have Na := Lib.hid (Fa.out.on z21)
  have Nb := Lib.hid (Fb.out.on z21)
  have Nni := Lib.hid (Fni.out.on z21)
  have Nx := Lib.hid (Fx.out.on z21)
  have Nv := Lib.hid (Fv.out.on z21)
  have Nvv := Lib.hid (Fvv.out.on z21)
  have NB := Lib.hid (bel_tr BW.out z21)
  clear BW z21 Fm Fa Fb Fni Fx Fv Fvv
  have Fm := Nm
  have Fa := Na
  have Fb := Nb
  have Fni := Nni
  have Fx := Nx
  have Fv := Nv
  have Fvv := Nvv
  have BW := NB
  clear NB Nm Na Nb Nni Nx Nv Nvv
  have Lni := Fni.out.lt
  have cni0 : v21.cell? ⟨gni, 0, none⟩ = some (.int .u64 (wd i 0 : Nat)) := Fni.out.cell 0
  have cni1 : v21.cell? ⟨gni, 1, none⟩ = some (.int .u64 (wd i 1 : Nat)) := Fni.out.cell 1
  have cni2 : v21.cell? ⟨gni, 2, none⟩ = some (.int .u64 (wd i 2 : Nat)) := Fni.out.cell 2
  have cni3 : v21.cell? ⟨gni, 3, none⟩ = some (.int .u64 (wd i 3 : Nat)) := Fni.out.cell 3
  have Lm := Fm.out.lt
  have cm0 : v21.cell? ⟨gm, 0, none⟩ = some (.int .u64 (wd M 0 : Nat)) := Fm.out.cell 0
  have cm1 : v21.cell? ⟨gm, 1, none⟩ = some (.int .u64 (wd M 1 : Nat)) := Fm.out.cell 1
  have cm2 : v21.cell? ⟨gm, 2, none⟩ = some (.int .u64 (wd M 2 : Nat)) := Fm.out.cell 2
  have cm3 : v21.cell? ⟨gm, 3, none⟩ = some (.int .u64 (wd M 3 : Nat)) := Fm.out.cell 3
  go_wp2_with fail
  clear Lni cni0 cni1 cni2 cni3 Lm cm0 cm1 cm2 cm3
  have Nab : At (v21.alloc (.cells #[.int .u64 (wd ab 0 : Nat), .int .u64 (wd ab 1 : Nat), .int .u64 (wd ab 2 : Nat), .int .u64 (wd ab 3 : Nat)] 24)) (v21.heap.size) 24 #[.int .u64 (wd ab 0 : Nat), .int .u64 (wd ab 1 : Nat), .int .u64 (wd ab 2 : Nat), .int .u64 (wd ab 3 : Nat)] := At.at_ _ _ _ _ (by simp)
  have Nm : At (v21.alloc (.cells #[.int .u64 (wd ab 0 : Nat), .int .u64 (wd ab 1 : Nat), .int .u64 (wd ab 2 : Nat), .int .u64 (wd ab 3 : Nat)] 24)) gm 24 #[.int .u64 (wd M 0 : Nat), .int .u64 (wd M 1 : Nat), .int .u64 (wd M 2 : Nat), .int .u64 (wd M 3 : Nat)] := Fm.out.alloc _
  have Na : At (v21.alloc (.cells #[.int .u64 (wd ab 0 : Nat), .int .u64 (wd ab 1 : Nat), .int .u64 (wd ab 2 : Nat), .int .u64 (wd ab 3 : Nat)] 24)) ga 24 #[.int .u64 (wd a 0 : Nat), .int .u64 (wd a 1 : Nat), .int .u64 (wd a 2 : Nat), .int .u64 (wd a 3 : Nat)] := Fa.out.alloc _
  have Nb : At (v21.alloc (.cells #[.int .u64 (wd ab 0 : Nat), .int .u64 (wd ab 1 : Nat), .int .u64 (wd ab 2 : Nat), .int .u64 (wd ab 3 : Nat)] 24)) gb 24 #[.int .u64 (wd b 0 : Nat), .int .u64 (wd b 1 : Nat), .int .u64 (wd b 2 : Nat), .int .u64 (wd b 3 : Nat)] := Fb.out.alloc _
  have Nni : At (v21.alloc (.cells #[.int .u64 (wd ab 0 : Nat), .int .u64 (wd ab 1 : Nat), .int .u64 (wd ab 2 : Nat), .int .u64 (wd ab 3 : Nat)] 24)) gni 24 #[.int .u64 (wd i 0 : Nat), .int .u64 (wd i 1 : Nat), .int .u64 (wd i 2 : Nat), .int .u64 (wd i 3 : Nat)] := Fni.out.alloc _
  have Nx : At (v21.alloc (.cells #[.int .u64 (wd ab 0 : Nat), .int .u64 (wd ab 1 : Nat), .int .u64 (wd ab 2 : Nat), .int .u64 (wd ab 3 : Nat)] 24)) gx 24 #[.int .u64 (wd x 0 : Nat), .int .u64 (wd x 1 : Nat), .int .u64 (wd x 2 : Nat), .int .u64 (wd x 3 : Nat)] := Fx.out.alloc _
  have Nv : At (v21.alloc (.cells #[.int .u64 (wd ab 0 : Nat), .int .u64 (wd ab 1 : Nat), .int .u64 (wd ab 2 : Nat), .int .u64 (wd ab 3 : Nat)] 24)) gv 24 #[.int .u64 (wd q 0 : Nat), .int .u64 (wd q 1 : Nat), .int .u64 (wd q 2 : Nat), .int .u64 (wd q 3 : Nat)] := Fv.out.alloc _
  have Nvv : At (v21.alloc (.cells #[.int .u64 (wd ab 0 : Nat), .int .u64 (wd ab 1 : Nat), .int .u64 (wd ab 2 : Nat), .int .u64 (wd ab 3 : Nat)] 24)) gvv 24 #[.int .u64 (wd q 0 : Nat), .int .u64 (wd q 1 : Nat), .int .u64 (wd q 2 : Nat), .int .u64 (wd q 3 : Nat)] := Fvv.out.alloc _
  have NB : Below w.heap.size w (v21.alloc (.cells #[.int .u64 (wd ab 0 : Nat), .int .u64 (wd ab 1 : Nat), .int .u64 (wd ab 2 : Nat), .int .u64 (wd ab 3 : Nat)] 24)) := gr_alloc BW.out _
  clear BW Fm Fa Fb Fni Fx Fv Fvv
  generalize (v21.alloc (.cells #[.int .u64 (wd ab 0 : Nat), .int .u64 (wd ab 1 : Nat), .int .u64 (wd ab 2 : Nat), .int .u64 (wd ab 3 : Nat)] 24)) = W22 at *
  generalize v21.heap.size = gab at *
  have Fm := Lib.hid Nm
  have Fa := Lib.hid Na
  have Fb := Lib.hid Nb
  have Fni := Lib.hid Nni
  have Fx := Lib.hid Nx
  have Fv := Lib.hid Nv
  have Fvv := Lib.hid Nvv
  have Fab := Lib.hid Nab
  have BW := Lib.hid NB
  clear NB Nm Na Nb Nni Nx Nv Nvv Nab
  refine (HE8.out _).mono ?_
  rintro e v23 ⟨rfl, z23⟩
  have Nm := Lib.hid (Fm.out.on z23)
  have Na := Lib.hid (Fa.out.on z23)
  have Nb := Lib.hid (Fb.out.on z23)
  have Nni := Lib.hid (Fni.out.on z23)
  have Nx := Lib.hid (Fx.out.on z23)
  have Nv := Lib.hid (Fv.out.on z23)
  have Nvv := Lib.hid (Fvv.out.on z23)
  have Nab := Lib.hid (Fab.out.on z23)
  have NB := Lib.hid (bel_tr BW.out z23)
  clear BW z23 Fm Fa Fb Fni Fx Fv Fvv Fab
  have Fm := Nm
  have Fa := Na
  have Fb := Nb
  have Fni := Nni
  have Fx := Nx
  have Fv := Nv
  have Fvv := Nvv
  have Fab := Nab
  have BW := NB
  clear NB Nm Na Nb Nni Nx Nv Nvv Nab
  have Lb := Fb.out.lt
  have cb0 : v23.cell? ⟨gb, 0, none⟩ = some (.int .u64 (wd b 0 : Nat)) := Fb.out.cell 0
  have cb1 : v23.cell? ⟨gb, 1, none⟩ = some (.int .u64 (wd b 1 : Nat)) := Fb.out.cell 1
  have cb2 : v23.cell? ⟨gb, 2, none⟩ = some (.int .u64 (wd b 2 : Nat)) := Fb.out.cell 2
  have cb3 : v23.cell? ⟨gb, 3, none⟩ = some (.int .u64 (wd b 3 : Nat)) := Fb.out.cell 3
  have Lni := Fni.out.lt
  have cni0 : v23.cell? ⟨gni, 0, none⟩ = some (.int .u64 (wd i 0 : Nat)) := Fni.out.cell 0
  have cni1 : v23.cell? ⟨gni, 1, none⟩ = some (.int .u64 (wd i 1 : Nat)) := Fni.out.cell 1
  have cni2 : v23.cell? ⟨gni, 2, none⟩ = some (.int .u64 (wd i 2 : Nat)) := Fni.out.cell 2
  have cni3 : v23.cell? ⟨gni, 3, none⟩ = some (.int .u64 (wd i 3 : Nat)) := Fni.out.cell 3
  have Lm := Fm.out.lt
  have cm0 : v23.cell? ⟨gm, 0, none⟩ = some (.int .u64 (wd M 0 : Nat)) := Fm.out.cell 0
  have cm1 : v23.cell? ⟨gm, 1, none⟩ = some (.int .u64 (wd M 1 : Nat)) := Fm.out.cell 1
  have cm2 : v23.cell? ⟨gm, 2, none⟩ = some (.int .u64 (wd M 2 : Nat)) := Fm.out.cell 2
  have cm3 : v23.cell? ⟨gm, 3, none⟩ = some (.int .u64 (wd M 3 : Nat)) := Fm.out.cell 3
  go_wp2_with fail
  clear Lb cb0 cb1 cb2 cb3 Lni cni0 cni1 cni2 cni3 Lm cm0 cm1 cm2 cm3
  have Nu : At (v23.alloc (.cells #[.int .u64 (wd u 0 : Nat), .int .u64 (wd u 1 : Nat), .int .u64 (wd u 2 : Nat), .int .u64 (wd u 3 : Nat)] 24)) (v23.heap.size) 24 #[.int .u64 (wd u 0 : Nat), .int .u64 (wd u 1 : Nat), .int .u64 (wd u 2 : Nat), .int .u64 (wd u 3 : Nat)] := At.at_ _ _ _ _ (by simp)
  have Nm : At (v23.alloc (.cells #[.int .u64 (wd u 0 : Nat), .int .u64 (wd u 1 : Nat), .int .u64 (wd u 2 : Nat), .int .u64 (wd u 3 : Nat)] 24)) gm 24 #[.int .u64 (wd M 0 : Nat), .int .u64 (wd M 1 : Nat), .int .u64 (wd M 2 : Nat), .int .u64 (wd M 3 : Nat)] := Fm.out.alloc _
  have Na : At (v23.alloc (.cells #[.int .u64 (wd u 0 : Nat), .int .u64 (wd u 1 : Nat), .int .u64 (wd u 2 : Nat), .int .u64 (wd u 3 : Nat)] 24)) ga 24 #[.int .u64 (wd a 0 : Nat), .int .u64 (wd a 1 : Nat), .int .u64 (wd a 2 : Nat), .int .u64 (wd a 3 : Nat)] := Fa.out.alloc _
  have Nb : At (v23.alloc (.cells #[.int .u64 (wd u 0 : Nat), .int .u64 (wd u 1 : Nat), .int .u64 (wd u 2 : Nat), .int .u64 (wd u 3 : Nat)] 24)) gb 24 #[.int .u64 (wd b 0 : Nat), .int .u64 (wd b 1 : Nat), .int .u64 (wd b 2 : Nat), .int .u64 (wd b 3 : Nat)] := Fb.out.alloc _
  have Nni : At (v23.alloc (.cells #[.int .u64 (wd u 0 : Nat), .int .u64 (wd u 1 : Nat), .int .u64 (wd u 2 : Nat), .int .u64 (wd u 3 : Nat)] 24)) gni 24 #[.int .u64 (wd i 0 : Nat), .int .u64 (wd i 1 : Nat), .int .u64 (wd i 2 : Nat), .int .u64 (wd i 3 : Nat)] := Fni.out.alloc _
  have Nx : At (v23.alloc (.cells #[.int .u64 (wd u 0 : Nat), .int .u64 (wd u 1 : Nat), .int .u64 (wd u 2 : Nat), .int .u64 (wd u 3 : Nat)] 24)) gx 24 #[.int .u64 (wd x 0 : Nat), .int .u64 (wd x 1 : Nat), .int .u64 (wd x 2 : Nat), .int .u64 (wd x 3 : Nat)] := Fx.out.alloc _
  have Nv : At (v23.alloc (.cells #[.int .u64 (wd u 0 : Nat), .int .u64 (wd u 1 : Nat), .int .u64 (wd u 2 : Nat), .int .u64 (wd u 3 : Nat)] 24)) gv 24 #[.int .u64 (wd q 0 : Nat), .int .u64 (wd q 1 : Nat), .int .u64 (wd q 2 : Nat), .int .u64 (wd q 3 : Nat)] := Fv.out.alloc _
  have Nvv : At (v23.alloc (.cells #[.int .u64 (wd u 0 : Nat), .int .u64 (wd u 1 : Nat), .int .u64 (wd u 2 : Nat), .int .u64 (wd u 3 : Nat)] 24)) gvv 24 #[.int .u64 (wd q 0 : Nat), .int .u64 (wd q 1 : Nat), .int .u64 (wd q 2 : Nat), .int .u64 (wd q 3 : Nat)] := Fvv.out.alloc _
  have Nab : At (v23.alloc (.cells #[.int .u64 (wd u 0 : Nat), .int .u64 (wd u 1 : Nat), .int .u64 (wd u 2 : Nat), .int .u64 (wd u 3 : Nat)] 24)) gab 24 #[.int .u64 (wd ab 0 : Nat), .int .u64 (wd ab 1 : Nat), .int .u64 (wd ab 2 : Nat), .int .u64 (wd ab 3 : Nat)] := Fab.out.alloc _
  have NB : Below w.heap.size w (v23.alloc (.cells #[.int .u64 (wd u 0 : Nat), .int .u64 (wd u 1 : Nat), .int .u64 (wd u 2 : Nat), .int .u64 (wd u 3 : Nat)] 24)) := gr_alloc BW.out _
  clear BW Fm Fa Fb Fni Fx Fv Fvv Fab
  generalize (v23.alloc (.cells #[.int .u64 (wd u 0 : Nat), .int .u64 (wd u 1 : Nat), .int .u64 (wd u 2 : Nat), .int .u64 (wd u 3 : Nat)] 24)) = W24 at *
  generalize v23.heap.size = gu at *
  have Fm := Lib.hid Nm
  have Fa := Lib.hid Na
  have Fb := Lib.hid Nb
  have Fni := Lib.hid Nni
  have Fx := Lib.hid Nx
  have Fv := Lib.hid Nv
  have Fvv := Lib.hid Nvv
  have Fab := Lib.hid Nab
  have Fu := Lib.hid Nu
  have BW := Lib.hid NB
  clear NB Nm Na Nb Nni Nx Nv Nvv Nab Nu
  clear Fab
  refine (HE9.out _).mono ?_
  rintro e v25 ⟨rfl, z25⟩
  have Nm := Lib.hid (Fm.out.on z25)
  have Na := Lib.hid (Fa.out.on z25)
  have Nb := Lib.hid (Fb.out.on z25)
  have Nni := Lib.hid (Fni.out.on z25)
  have Nx := Lib.hid (Fx.out.on z25)
  have Nv := Lib.hid (Fv.out.on z25)
  have Nvv := Lib.hid (Fvv.out.on z25)
  have Nu := Lib.hid (Fu.out.on z25)
  have NB := Lib.hid (bel_tr BW.out z25)
  clear BW z25 Fm Fa Fb Fni Fx Fv Fvv Fu
  have Fm := Nm
  have Fa := Na
  have Fb := Nb
  have Fni := Nni
  have Fx := Nx
  have Fv := Nv
  have Fvv := Nvv
  have Fu := Nu
  have BW := NB
  clear NB Nm Na Nb Nni Nx Nv Nvv Nu
  have Lx := Fx.out.lt
  have cx0 : v25.cell? ⟨gx, 0, none⟩ = some (.int .u64 (wd x 0 : Nat)) := Fx.out.cell 0
  have cx1 : v25.cell? ⟨gx, 1, none⟩ = some (.int .u64 (wd x 1 : Nat)) := Fx.out.cell 1
  have cx2 : v25.cell? ⟨gx, 2, none⟩ = some (.int .u64 (wd x 2 : Nat)) := Fx.out.cell 2
  have cx3 : v25.cell? ⟨gx, 3, none⟩ = some (.int .u64 (wd x 3 : Nat)) := Fx.out.cell 3
  have Lm := Fm.out.lt
  have cm0 : v25.cell? ⟨gm, 0, none⟩ = some (.int .u64 (wd M 0 : Nat)) := Fm.out.cell 0
  have cm1 : v25.cell? ⟨gm, 1, none⟩ = some (.int .u64 (wd M 1 : Nat)) := Fm.out.cell 1
  have cm2 : v25.cell? ⟨gm, 2, none⟩ = some (.int .u64 (wd M 2 : Nat)) := Fm.out.cell 2
  have cm3 : v25.cell? ⟨gm, 3, none⟩ = some (.int .u64 (wd M 3 : Nat)) := Fm.out.cell 3
  go_wp2_with fail
  clear Lx cx0 cx1 cx2 cx3 Lm cm0 cm1 cm2 cm3
  have Nt : At (v25.alloc (.cells #[.int .u64 (wd tt 0 : Nat), .int .u64 (wd tt 1 : Nat), .int .u64 (wd tt 2 : Nat), .int .u64 (wd tt 3 : Nat)] 24)) (v25.heap.size) 24 #[.int .u64 (wd tt 0 : Nat), .int .u64 (wd tt 1 : Nat), .int .u64 (wd tt 2 : Nat), .int .u64 (wd tt 3 : Nat)] := At.at_ _ _ _ _ (by simp)
  have Nm : At (v25.alloc (.cells #[.int .u64 (wd tt 0 : Nat), .int .u64 (wd tt 1 : Nat), .int .u64 (wd tt 2 : Nat), .int .u64 (wd tt 3 : Nat)] 24)) gm 24 #[.int .u64 (wd M 0 : Nat), .int .u64 (wd M 1 : Nat), .int .u64 (wd M 2 : Nat), .int .u64 (wd M 3 : Nat)] := Fm.out.alloc _
  have Na : At (v25.alloc (.cells #[.int .u64 (wd tt 0 : Nat), .int .u64 (wd tt 1 : Nat), .int .u64 (wd tt 2 : Nat), .int .u64 (wd tt 3 : Nat)] 24)) ga 24 #[.int .u64 (wd a 0 : Nat), .int .u64 (wd a 1 : Nat), .int .u64 (wd a 2 : Nat), .int .u64 (wd a 3 : Nat)] := Fa.out.alloc _
  have Nb : At (v25.alloc (.cells #[.int .u64 (wd tt 0 : Nat), .int .u64 (wd tt 1 : Nat), .int .u64 (wd tt 2 : Nat), .int .u64 (wd tt 3 : Nat)] 24)) gb 24 #[.int .u64 (wd b 0 : Nat), .int .u64 (wd b 1 : Nat), .int .u64 (wd b 2 : Nat), .int .u64 (wd b 3 : Nat)] := Fb.out.alloc _
  have Nni : At (v25.alloc (.cells #[.int .u64 (wd tt 0 : Nat), .int .u64 (wd tt 1 : Nat), .int .u64 (wd tt 2 : Nat), .int .u64 (wd tt 3 : Nat)] 24)) gni 24 #[.int .u64 (wd i 0 : Nat), .int .u64 (wd i 1 : Nat), .int .u64 (wd i 2 : Nat), .int .u64 (wd i 3 : Nat)] := Fni.out.alloc _
  have Nx : At (v25.alloc (.cells #[.int .u64 (wd tt 0 : Nat), .int .u64 (wd tt 1 : Nat), .int .u64 (wd tt 2 : Nat), .int .u64 (wd tt 3 : Nat)] 24)) gx 24 #[.int .u64 (wd x 0 : Nat), .int .u64 (wd x 1 : Nat), .int .u64 (wd x 2 : Nat), .int .u64 (wd x 3 : Nat)] := Fx.out.alloc _
  have Nv : At (v25.alloc (.cells #[.int .u64 (wd tt 0 : Nat), .int .u64 (wd tt 1 : Nat), .int .u64 (wd tt 2 : Nat), .int .u64 (wd tt 3 : Nat)] 24)) gv 24 #[.int .u64 (wd q 0 : Nat), .int .u64 (wd q 1 : Nat), .int .u64 (wd q 2 : Nat), .int .u64 (wd q 3 : Nat)] := Fv.out.alloc _
  have Nvv : At (v25.alloc (.cells #[.int .u64 (wd tt 0 : Nat), .int .u64 (wd tt 1 : Nat), .int .u64 (wd tt 2 : Nat), .int .u64 (wd tt 3 : Nat)] 24)) gvv 24 #[.int .u64 (wd q 0 : Nat), .int .u64 (wd q 1 : Nat), .int .u64 (wd q 2 : Nat), .int .u64 (wd q 3 : Nat)] := Fvv.out.alloc _
  have Nu : At (v25.alloc (.cells #[.int .u64 (wd tt 0 : Nat), .int .u64 (wd tt 1 : Nat), .int .u64 (wd tt 2 : Nat), .int .u64 (wd tt 3 : Nat)] 24)) gu 24 #[.int .u64 (wd u 0 : Nat), .int .u64 (wd u 1 : Nat), .int .u64 (wd u 2 : Nat), .int .u64 (wd u 3 : Nat)] := Fu.out.alloc _
  have NB : Below w.heap.size w (v25.alloc (.cells #[.int .u64 (wd tt 0 : Nat), .int .u64 (wd tt 1 : Nat), .int .u64 (wd tt 2 : Nat), .int .u64 (wd tt 3 : Nat)] 24)) := gr_alloc BW.out _
  clear BW Fm Fa Fb Fni Fx Fv Fvv Fu
  generalize (v25.alloc (.cells #[.int .u64 (wd tt 0 : Nat), .int .u64 (wd tt 1 : Nat), .int .u64 (wd tt 2 : Nat), .int .u64 (wd tt 3 : Nat)] 24)) = W26 at *
  generalize v25.heap.size = gt at *
  have Fm := Lib.hid Nm
  have Fa := Lib.hid Na
  have Fb := Lib.hid Nb
  have Fni := Lib.hid Nni
  have Fx := Lib.hid Nx
  have Fv := Lib.hid Nv
  have Fvv := Lib.hid Nvv
  have Fu := Lib.hid Nu
  have Ft := Lib.hid Nt
  have BW := Lib.hid NB
  clear NB Nm Na Nb Nni Nx Nv Nvv Nu Nt
  refine (HEa.out _).mono ?_
  rintro e v27 ⟨rfl, z27⟩
  have Nm := Lib.hid (Fm.out.on z27)
  have Na := Lib.hid (Fa.out.on z27)
  have Nb := Lib.hid (Fb.out.on z27)
  have Nni := Lib.hid (Fni.out.on z27)
  have Nx := Lib.hid (Fx.out.on z27)
  have Nv := Lib.hid (Fv.out.on z27)
  have Nvv := Lib.hid (Fvv.out.on z27)
  have Nu := Lib.hid (Fu.out.on z27)
  have Nt := Lib.hid (Ft.out.on z27)
  have NB := Lib.hid (bel_tr BW.out z27)
  clear BW z27 Fm Fa Fb Fni Fx Fv Fvv Fu Ft
  have Fm := Nm
  have Fa := Na
  have Fb := Nb
  have Fni := Nni
  have Fx := Nx
  have Fv := Nv
  have Fvv := Nvv
  have Fu := Nu
  have Ft := Nt
  have BW := NB
  clear NB Nm Na Nb Nni Nx Nv Nvv Nu Nt
  go_wp2_with fail
  have Nxt : At (v27.alloc (.cells #[.int .u64 (wd u 0 : Nat), .int .u64 (wd u 1 : Nat), .int .u64 (wd u 2 : Nat), .int .u64 (wd u 3 : Nat)] 24)) (v27.heap.size) 24 #[.int .u64 (wd u 0 : Nat), .int .u64 (wd u 1 : Nat), .int .u64 (wd u 2 : Nat), .int .u64 (wd u 3 : Nat)] := At.at_ _ _ _ _ (by simp)
  have Nm : At (v27.alloc (.cells #[.int .u64 (wd u 0 : Nat), .int .u64 (wd u 1 : Nat), .int .u64 (wd u 2 : Nat), .int .u64 (wd u 3 : Nat)] 24)) gm 24 #[.int .u64 (wd M 0 : Nat), .int .u64 (wd M 1 : Nat), .int .u64 (wd M 2 : Nat), .int .u64 (wd M 3 : Nat)] := Fm.out.alloc _
  have Na : At (v27.alloc (.cells #[.int .u64 (wd u 0 : Nat), .int .u64 (wd u 1 : Nat), .int .u64 (wd u 2 : Nat), .int .u64 (wd u 3 : Nat)] 24)) ga 24 #[.int .u64 (wd a 0 : Nat), .int .u64 (wd a 1 : Nat), .int .u64 (wd a 2 : Nat), .int .u64 (wd a 3 : Nat)] := Fa.out.alloc _
  have Nb : At (v27.alloc (.cells #[.int .u64 (wd u 0 : Nat), .int .u64 (wd u 1 : Nat), .int .u64 (wd u 2 : Nat), .int .u64 (wd u 3 : Nat)] 24)) gb 24 #[.int .u64 (wd b 0 : Nat), .int .u64 (wd b 1 : Nat), .int .u64 (wd b 2 : Nat), .int .u64 (wd b 3 : Nat)] := Fb.out.alloc _
  have Nni : At (v27.alloc (.cells #[.int .u64 (wd u 0 : Nat), .int .u64 (wd u 1 : Nat), .int .u64 (wd u 2 : Nat), .int .u64 (wd u 3 : Nat)] 24)) gni 24 #[.int .u64 (wd i 0 : Nat), .int .u64 (wd i 1 : Nat), .int .u64 (wd i 2 : Nat), .int .u64 (wd i 3 : Nat)] := Fni.out.alloc _
  have Nx : At (v27.alloc (.cells #[.int .u64 (wd u 0 : Nat), .int .u64 (wd u 1 : Nat), .int .u64 (wd u 2 : Nat), .int .u64 (wd u 3 : Nat)] 24)) gx 24 #[.int .u64 (wd x 0 : Nat), .int .u64 (wd x 1 : Nat), .int .u64 (wd x 2 : Nat), .int .u64 (wd x 3 : Nat)] := Fx.out.alloc _
  have Nv : At (v27.alloc (.cells #[.int .u64 (wd u 0 : Nat), .int .u64 (wd u 1 : Nat), .int .u64 (wd u 2 : Nat), .int .u64 (wd u 3 : Nat)] 24)) gv 24 #[.int .u64 (wd q 0 : Nat), .int .u64 (wd q 1 : Nat), .int .u64 (wd q 2 : Nat), .int .u64 (wd q 3 : Nat)] := Fv.out.alloc _
  have Nvv : At (v27.alloc (.cells #[.int .u64 (wd u 0 : Nat), .int .u64 (wd u 1 : Nat), .int .u64 (wd u 2 : Nat), .int .u64 (wd u 3 : Nat)] 24)) gvv 24 #[.int .u64 (wd q 0 : Nat), .int .u64 (wd q 1 : Nat), .int .u64 (wd q 2 : Nat), .int .u64 (wd q 3 : Nat)] := Fvv.out.alloc _
  have Nu : At (v27.alloc (.cells #[.int .u64 (wd u 0 : Nat), .int .u64 (wd u 1 : Nat), .int .u64 (wd u 2 : Nat), .int .u64 (wd u 3 : Nat)] 24)) gu 24 #[.int .u64 (wd u 0 : Nat), .int .u64 (wd u 1 : Nat), .int .u64 (wd u 2 : Nat), .int .u64 (wd u 3 : Nat)] := Fu.out.alloc _
  have Nt : At (v27.alloc (.cells #[.int .u64 (wd u 0 : Nat), .int .u64 (wd u 1 : Nat), .int .u64 (wd u 2 : Nat), .int .u64 (wd u 3 : Nat)] 24)) gt 24 #[.int .u64 (wd tt 0 : Nat), .int .u64 (wd tt 1 : Nat), .int .u64 (wd tt 2 : Nat), .int .u64 (wd tt 3 : Nat)] := Ft.out.alloc _
  have NB : Below w.heap.size w (v27.alloc (.cells #[.int .u64 (wd u 0 : Nat), .int .u64 (wd u 1 : Nat), .int .u64 (wd u 2 : Nat), .int .u64 (wd u 3 : Nat)] 24)) := gr_alloc BW.out _
  clear BW Fm Fa Fb Fni Fx Fv Fvv Fu Ft
  generalize (v27.alloc (.cells #[.int .u64 (wd u 0 : Nat), .int .u64 (wd u 1 : Nat), .int .u64 (wd u 2 : Nat), .int .u64 (wd u 3 : Nat)] 24)) = W28 at *
  generalize v27.heap.size = gxt at *
  have Fm := Lib.hid Nm
  have Fa := Lib.hid Na
  have Fb := Lib.hid Nb
  have Fni := Lib.hid Nni
  have Fx := Lib.hid Nx
  have Fv := Lib.hid Nv
  have Fvv := Lib.hid Nvv
  have Fu := Lib.hid Nu
  have Ft := Lib.hid Nt
  have Fxt := Lib.hid Nxt
  have BW := Lib.hid NB
  clear NB Nm Na Nb Nni Nx Nv Nvv Nu Nt Nxt
  clear Fb
  clear Fni
  clear Fx
  clear Ft
  try simp only [List.append_eq, List.cons_append, List.nil_append]
  refine wp_region_noPanic ?_
  refine wp_region_held_drew (S := fun w' => True) (by kernel_rfl) (trivial) (fun _ => ?_)
  refine wpAnyH_cores (fuel := 2) (⟨0, 156, [], Kind.val (.agg #[.int .u64 (wd a 0 : Nat), .int .u64 (wd a 1 : Nat), .int .u64 (wd a 2 : Nat), .int .u64 (wd a 3 : Nat)]), false⟩ :: ⟨1, 157, [], Kind.val (.agg #[.int .u64 (wd Z 0 : Nat), .int .u64 (wd Z 1 : Nat), .int .u64 (wd Z 2 : Nat), .int .u64 (wd Z 3 : Nat)]), false⟩ :: ⟨2, 158, [], Kind.val (.agg #[.int .u64 (wd M 0 : Nat), .int .u64 (wd M 1 : Nat), .int .u64 (wd M 2 : Nat), .int .u64 (wd M 3 : Nat)]), false⟩ :: ⟨3, 159, [0, 1, 2], Kind.val (.tuple #[.agg #[.int .u64 (wd a 0 : Nat), .int .u64 (wd a 1 : Nat), .int .u64 (wd a 2 : Nat), .int .u64 (wd a 3 : Nat)], .int .i64 0]), false⟩ :: ⟨4, 155, [3], Kind.val (.tuple #[.agg #[.int .u64 (wd a 0 : Nat), .int .u64 (wd a 1 : Nat), .int .u64 (wd a 2 : Nat), .int .u64 (wd a 3 : Nat)], .int .i64 0]), true⟩ :: ⟨5, 160, [4], Kind.val (.agg #[.int .u64 (wd a 0 : Nat), .int .u64 (wd a 1 : Nat), .int .u64 (wd a 2 : Nat), .int .u64 (wd a 3 : Nat)]), true⟩ :: ⟨6, 161, [4], Kind.val (.int .i64 0), true⟩ :: ⟨7, 27, [], Kind.cell W28.heap.size 24 #[.int .u64 0, .int .u64 0, .int .u64 0, .int .u64 0], false⟩ :: []) _ _ W28 _ ?_ ?_ ?_ ?_ ?_ ?_ ?_ ?_ ?_ ?_ ?_
  · rfl
  · kernel_rfl
  · exact of_decide_eq_true rfl
  · exact all_cons ⟨_, rfl, rfl⟩ (all_cons ⟨_, rfl, rfl⟩ (all_cons ⟨_, rfl, rfl⟩ (all_cons ⟨_, rfl, rfl⟩ (all_cons ⟨_, rfl, rfl⟩ (all_cons ⟨_, rfl, rfl⟩ (all_cons ⟨_, rfl, rfl⟩ (all_cons ⟨_, rfl, rfl⟩ (all_nil))))))))
  · exact fun _ hb => trivial
  · exact (Below.refl _ _).drew
  · kernel_rfl
  · exact fun _ _ _ _ _ h => h
  · refine all_cons ?_ (all_cons ?_ (all_cons ?_ (all_cons ?_ (all_cons ?_ (all_cons ?_ (all_cons ?_ (all_cons ?_ (all_nil))))))))
    · exact core_pureAs _ (by rfl)
    · exact core_pureAs _ (by rfl)
    · exact core_pureAs _ (by rfl)
    · exact core_pureAs _ (by rfl)
    · exact core_move _ _ _ _ _ _ (by rfl) (by rfl) (known_core 3 159 _ _ (of_decide_eq_true (by rfl)) (by rfl) (by rfl) (by rfl))
    · exact core_extract _ _ 0 _ _ _ _ _ (by rfl) (by rfl) (known_core 4 155 _ _ (of_decide_eq_true (by rfl)) (by rfl) (by rfl) (by rfl)) (by rfl)
    · exact core_extract _ _ 1 _ _ _ _ _ (by rfl) (by rfl) (known_core 4 155 _ _ (of_decide_eq_true (by rfl)) (by rfl) (by rfl) (by rfl)) (by rfl)
    · exact core_pureAs _ (by rfl)
  · refine all_cons ?_ (all_cons ?_ (all_cons ?_ (all_cons ?_ (all_cons ?_ (all_cons ?_ (all_cons ?_ (all_cons ?_ (all_nil))))))))
    · exact fun _ => core_load _ _ _ _ _ ga _ _ _ _ (by rfl) (by rfl) (known_old 7 _ (of_decide_eq_true (by rfl)) (by rfl)) Fa.out
    · exact fun _ => core_call _ 28 _ _ [.const (.int .u64 1)] _ _ _ _ _ _ (by rfl) Try.func28 (by kernel_rfl) (by rfl) (by rfl) (.cons (known_const _) .nil) (HO.out)
    · exact fun _ => core_load _ _ _ _ _ gm _ _ _ _ (by rfl) (by rfl) (known_old 5 _ (of_decide_eq_true (by rfl)) (by rfl)) Fm.out
    · exact fun _ => core_call _ 20 _ _ [.tmp 156, .tmp 157, .tmp 158] _ _ _ _ _ _ (by rfl) Try.func20 (by kernel_rfl) (by rfl) (by rfl) (.cons (known_core 0 156 _ _ (of_decide_eq_true (by rfl)) (by rfl) (by rfl) (by rfl)) (.cons (known_core 1 157 _ _ (of_decide_eq_true (by rfl)) (by rfl) (by rfl) (by rfl)) (.cons (known_core 2 158 _ _ (of_decide_eq_true (by rfl)) (by rfl) (by rfl) (by rfl)) .nil))) (HEb.out)
    · exact core_stepAs _ (by rfl)
    · exact core_stepAs _ (by rfl)
    · exact core_stepAs _ (by rfl)
    · exact fun _ => core_alloc _ _ _ _ _ (by rfl) (by rfl) (Nat.le_refl _)
  intro vs y29 hc
  obtain ⟨vv0, vv1, vv2, vv3, vv4, vv5, vv6, vv7, rfl⟩ := len8 vs hc.lv
  have qq0 : vv0 = .agg #[.int .u64 (wd a 0 : Nat), .int .u64 (wd a 1 : Nat), .int .u64 (wd a 2 : Nat), .int .u64 (wd a 3 : Nat)] := by obtain ⟨xx, hx, hy⟩ := hc.ok 0 _ rfl rfl; exact (Option.some.inj (show some vv0 = some xx from hx)).trans hy
  have qq1 : vv1 = .agg #[.int .u64 (wd Z 0 : Nat), .int .u64 (wd Z 1 : Nat), .int .u64 (wd Z 2 : Nat), .int .u64 (wd Z 3 : Nat)] := by obtain ⟨xx, hx, hy⟩ := hc.ok 1 _ rfl rfl; exact (Option.some.inj (show some vv1 = some xx from hx)).trans hy
  have qq2 : vv2 = .agg #[.int .u64 (wd M 0 : Nat), .int .u64 (wd M 1 : Nat), .int .u64 (wd M 2 : Nat), .int .u64 (wd M 3 : Nat)] := by obtain ⟨xx, hx, hy⟩ := hc.ok 2 _ rfl rfl; exact (Option.some.inj (show some vv2 = some xx from hx)).trans hy
  have qq3 : vv3 = .tuple #[.agg #[.int .u64 (wd a 0 : Nat), .int .u64 (wd a 1 : Nat), .int .u64 (wd a 2 : Nat), .int .u64 (wd a 3 : Nat)], .int .i64 0] := by obtain ⟨xx, hx, hy⟩ := hc.ok 3 _ rfl rfl; exact (Option.some.inj (show some vv3 = some xx from hx)).trans hy
  have qq4 : vv4 = .tuple #[.agg #[.int .u64 (wd a 0 : Nat), .int .u64 (wd a 1 : Nat), .int .u64 (wd a 2 : Nat), .int .u64 (wd a 3 : Nat)], .int .i64 0] := by obtain ⟨xx, hx, hy⟩ := hc.ok 4 _ rfl rfl; exact (Option.some.inj (show some vv4 = some xx from hx)).trans hy
  have qq5 : vv5 = .agg #[.int .u64 (wd a 0 : Nat), .int .u64 (wd a 1 : Nat), .int .u64 (wd a 2 : Nat), .int .u64 (wd a 3 : Nat)] := by obtain ⟨xx, hx, hy⟩ := hc.ok 5 _ rfl rfl; exact (Option.some.inj (show some vv5 = some xx from hx)).trans hy
  have qq6 : vv6 = .int .i64 0 := by obtain ⟨xx, hx, hy⟩ := hc.ok 6 _ rfl rfl; exact (Option.some.inj (show some vv6 = some xx from hx)).trans hy
  obtain ⟨xx, hx, gon, hv, Eon, Aon⟩ := hc.ok 7 _ rfl rfl
  have qq7 : vv7 = .pointer (some ⟨gon, 0, none⟩) := (Option.some.inj (show some vv7 = some xx from hx)).trans hv
  clear hx hv
  have BZ := hc.bel
  clear hc
  have Nm := Fm.out.on BZ
  have Na := Fa.out.on BZ
  have Nv := Fv.out.on BZ
  have Nvv := Fvv.out.on BZ
  have Nu := Fu.out.on BZ
  have Nxt := Fxt.out.on BZ
  have Dmon : gm ≠ gon := by have := Fm.out.lt; omega
  have Daon : ga ≠ gon := by have := Fa.out.lt; omega
  have Dvon : gv ≠ gon := by have := Fv.out.lt; omega
  have Dvvon : gvv ≠ gon := by have := Fvv.out.lt; omega
  have Duon : gu ≠ gon := by have := Fu.out.lt; omega
  have Dxton : gxt ≠ gon := by have := Fxt.out.lt; omega
  have HSZ29 := BW.out.size
  have NB := bel_tr BW.out BZ
  clear BW BZ Fm Fa Fv Fvv Fu Fxt
  subst qq0 qq1 qq2 qq3 qq4 qq5 qq6 qq7
  simp only [List.map_cons, List.map_nil, over, Act.put, List.setIfInBounds_toArray, List.set_cons_zero, List.set_cons_succ]
  have OLD := Aon
  replace Nm := put4_far Nm Dmon (.int .u64 (wd a 0 : Nat)) (.int .u64 (wd a 1 : Nat)) (.int .u64 (wd a 2 : Nat)) (.int .u64 (wd a 3 : Nat))
  replace Na := put4_far Na Daon (.int .u64 (wd a 0 : Nat)) (.int .u64 (wd a 1 : Nat)) (.int .u64 (wd a 2 : Nat)) (.int .u64 (wd a 3 : Nat))
  replace Nv := put4_far Nv Dvon (.int .u64 (wd a 0 : Nat)) (.int .u64 (wd a 1 : Nat)) (.int .u64 (wd a 2 : Nat)) (.int .u64 (wd a 3 : Nat))
  replace Nvv := put4_far Nvv Dvvon (.int .u64 (wd a 0 : Nat)) (.int .u64 (wd a 1 : Nat)) (.int .u64 (wd a 2 : Nat)) (.int .u64 (wd a 3 : Nat))
  replace Nu := put4_far Nu Duon (.int .u64 (wd a 0 : Nat)) (.int .u64 (wd a 1 : Nat)) (.int .u64 (wd a 2 : Nat)) (.int .u64 (wd a 3 : Nat))
  replace Nxt := put4_far Nxt Dxton (.int .u64 (wd a 0 : Nat)) (.int .u64 (wd a 1 : Nat)) (.int .u64 (wd a 2 : Nat)) (.int .u64 (wd a 3 : Nat))
  replace Aon := put4_at Aon (.int .u64 (wd a 0 : Nat)) (.int .u64 (wd a 1 : Nat)) (.int .u64 (wd a 2 : Nat)) (.int .u64 (wd a 3 : Nat))
  replace NB := put4_below NB (Nat.le_trans HSZ29 Eon) (.int .u64 (wd a 0 : Nat)) (.int .u64 (wd a 1 : Nat)) (.int .u64 (wd a 2 : Nat)) (.int .u64 (wd a 3 : Nat))
  refine store_one (i := 8) _ _ _ _ _ gon _ _ _ _ _ _ _ _ (by kernel_rfl) (by rfl) (by rfl) (by rfl) OLD (trivial) ?_
  clear OLD
  generalize (put4 y29 gon (.int .u64 (wd a 0 : Nat)) (.int .u64 (wd a 1 : Nat)) (.int .u64 (wd a 2 : Nat)) (.int .u64 (wd a 3 : Nat))) = y29_8 at *
  refine assign_one (i := 9) _ 28 _ _ _ (.int .i64 0) (by kernel_rfl) (by rfl) (by rfl) (trivial) ?_
  try simp only [Act.put, List.setIfInBounds_toArray, List.set_cons_zero, List.set_cons_succ]
  refine wpAnyH_done (by kernel_rfl) ?_ _
  refine NoPanic.normal ?_
  have Fm := Lib.hid Nm
  have Fa := Lib.hid Na
  have Fv := Lib.hid Nv
  have Fvv := Lib.hid Nvv
  have Fu := Lib.hid Nu
  have Fxt := Lib.hid Nxt
  have Fon := Lib.hid Aon
  have BW := Lib.hid NB
  clear NB Nm Na Nv Nvv Nu Nxt Aon
  clear Eon
  clear HSZ29
  go_wp2_with fail
  try simp only [List.append_eq, List.cons_append, List.nil_append]
  refine wp_region_noPanic ?_
  refine wp_region_held_drew (S := fun w' => True) (by kernel_rfl) (trivial) (fun _ => ?_)
  refine wpAnyH_cores (fuel := 2) (⟨0, 163, [], Kind.val (.agg #[.int .u64 (wd a 0 : Nat), .int .u64 (wd a 1 : Nat), .int .u64 (wd a 2 : Nat), .int .u64 (wd a 3 : Nat)]), false⟩ :: ⟨1, 164, [], Kind.val (.agg #[.int .u64 (wd N0 0 : Nat), .int .u64 (wd N0 1 : Nat), .int .u64 (wd N0 2 : Nat), .int .u64 (wd N0 3 : Nat)]), false⟩ :: ⟨2, 165, [], Kind.val (.agg #[.int .u64 (wd M 0 : Nat), .int .u64 (wd M 1 : Nat), .int .u64 (wd M 2 : Nat), .int .u64 (wd M 3 : Nat)]), false⟩ :: ⟨3, 166, [0, 1, 2], Kind.val (.tuple #[.agg #[.int .u64 (wd Z 0 : Nat), .int .u64 (wd Z 1 : Nat), .int .u64 (wd Z 2 : Nat), .int .u64 (wd Z 3 : Nat)], .int .i64 0]), false⟩ :: ⟨4, 162, [3], Kind.val (.tuple #[.agg #[.int .u64 (wd Z 0 : Nat), .int .u64 (wd Z 1 : Nat), .int .u64 (wd Z 2 : Nat), .int .u64 (wd Z 3 : Nat)], .int .i64 0]), true⟩ :: ⟨5, 167, [4], Kind.val (.agg #[.int .u64 (wd Z 0 : Nat), .int .u64 (wd Z 1 : Nat), .int .u64 (wd Z 2 : Nat), .int .u64 (wd Z 3 : Nat)]), true⟩ :: ⟨6, 168, [4], Kind.val (.int .i64 0), true⟩ :: ⟨7, 29, [], Kind.cell y29_8.heap.size 24 #[.int .u64 0, .int .u64 0, .int .u64 0, .int .u64 0], false⟩ :: []) _ _ y29_8 _ ?_ ?_ ?_ ?_ ?_ ?_ ?_ ?_ ?_ ?_ ?_
  · rfl
  · kernel_rfl
  · exact of_decide_eq_true rfl
  · exact all_cons ⟨_, rfl, rfl⟩ (all_cons ⟨_, rfl, rfl⟩ (all_cons ⟨_, rfl, rfl⟩ (all_cons ⟨_, rfl, rfl⟩ (all_cons ⟨_, rfl, rfl⟩ (all_cons ⟨_, rfl, rfl⟩ (all_cons ⟨_, rfl, rfl⟩ (all_cons ⟨_, rfl, rfl⟩ (all_nil))))))))
  · exact fun _ hb => trivial
  · exact (Below.refl _ _).drew
  · kernel_rfl
  · exact fun _ _ _ _ _ h => h
  · refine all_cons ?_ (all_cons ?_ (all_cons ?_ (all_cons ?_ (all_cons ?_ (all_cons ?_ (all_cons ?_ (all_cons ?_ (all_nil))))))))
    · exact core_pureAs _ (by rfl)
    · exact core_pureAs _ (by rfl)
    · exact core_pureAs _ (by rfl)
    · exact core_pureAs _ (by rfl)
    · exact core_move _ _ _ _ _ _ (by rfl) (by rfl) (known_core 3 166 _ _ (of_decide_eq_true (by rfl)) (by rfl) (by rfl) (by rfl))
    · exact core_extract _ _ 0 _ _ _ _ _ (by rfl) (by rfl) (known_core 4 162 _ _ (of_decide_eq_true (by rfl)) (by rfl) (by rfl) (by rfl)) (by rfl)
    · exact core_extract _ _ 1 _ _ _ _ _ (by rfl) (by rfl) (known_core 4 162 _ _ (of_decide_eq_true (by rfl)) (by rfl) (by rfl) (by rfl)) (by rfl)
    · exact core_pureAs _ (by rfl)
  · refine all_cons ?_ (all_cons ?_ (all_cons ?_ (all_cons ?_ (all_cons ?_ (all_cons ?_ (all_cons ?_ (all_cons ?_ (all_nil))))))))
    · exact fun _ => core_load _ _ _ _ _ ga _ _ _ _ (by rfl) (by rfl) (known_old 7 _ (of_decide_eq_true (by rfl)) (by rfl)) Fa.out
    · exact fun _ => core_call _ 28 _ _ [.const (.int .u64 0)] _ _ _ _ _ _ (by rfl) Try.func28 (by kernel_rfl) (by rfl) (by rfl) (.cons (known_const _) .nil) (HN.out)
    · exact fun _ => core_load _ _ _ _ _ gm _ _ _ _ (by rfl) (by rfl) (known_old 5 _ (of_decide_eq_true (by rfl)) (by rfl)) Fm.out
    · exact fun _ => core_call _ 20 _ _ [.tmp 163, .tmp 164, .tmp 165] _ _ _ _ _ _ (by rfl) Try.func20 (by kernel_rfl) (by rfl) (by rfl) (.cons (known_core 0 163 _ _ (of_decide_eq_true (by rfl)) (by rfl) (by rfl) (by rfl)) (.cons (known_core 1 164 _ _ (of_decide_eq_true (by rfl)) (by rfl) (by rfl) (by rfl)) (.cons (known_core 2 165 _ _ (of_decide_eq_true (by rfl)) (by rfl) (by rfl) (by rfl)) .nil))) (HEc.out)
    · exact core_stepAs _ (by rfl)
    · exact core_stepAs _ (by rfl)
    · exact core_stepAs _ (by rfl)
    · exact fun _ => core_alloc _ _ _ _ _ (by rfl) (by rfl) (Nat.le_refl _)
  intro vs y30 hc
  obtain ⟨vv0, vv1, vv2, vv3, vv4, vv5, vv6, vv7, rfl⟩ := len8 vs hc.lv
  have qq0 : vv0 = .agg #[.int .u64 (wd a 0 : Nat), .int .u64 (wd a 1 : Nat), .int .u64 (wd a 2 : Nat), .int .u64 (wd a 3 : Nat)] := by obtain ⟨xx, hx, hy⟩ := hc.ok 0 _ rfl rfl; exact (Option.some.inj (show some vv0 = some xx from hx)).trans hy
  have qq1 : vv1 = .agg #[.int .u64 (wd N0 0 : Nat), .int .u64 (wd N0 1 : Nat), .int .u64 (wd N0 2 : Nat), .int .u64 (wd N0 3 : Nat)] := by obtain ⟨xx, hx, hy⟩ := hc.ok 1 _ rfl rfl; exact (Option.some.inj (show some vv1 = some xx from hx)).trans hy
  have qq2 : vv2 = .agg #[.int .u64 (wd M 0 : Nat), .int .u64 (wd M 1 : Nat), .int .u64 (wd M 2 : Nat), .int .u64 (wd M 3 : Nat)] := by obtain ⟨xx, hx, hy⟩ := hc.ok 2 _ rfl rfl; exact (Option.some.inj (show some vv2 = some xx from hx)).trans hy
  have qq3 : vv3 = .tuple #[.agg #[.int .u64 (wd Z 0 : Nat), .int .u64 (wd Z 1 : Nat), .int .u64 (wd Z 2 : Nat), .int .u64 (wd Z 3 : Nat)], .int .i64 0] := by obtain ⟨xx, hx, hy⟩ := hc.ok 3 _ rfl rfl; exact (Option.some.inj (show some vv3 = some xx from hx)).trans hy
  have qq4 : vv4 = .tuple #[.agg #[.int .u64 (wd Z 0 : Nat), .int .u64 (wd Z 1 : Nat), .int .u64 (wd Z 2 : Nat), .int .u64 (wd Z 3 : Nat)], .int .i64 0] := by obtain ⟨xx, hx, hy⟩ := hc.ok 4 _ rfl rfl; exact (Option.some.inj (show some vv4 = some xx from hx)).trans hy
  have qq5 : vv5 = .agg #[.int .u64 (wd Z 0 : Nat), .int .u64 (wd Z 1 : Nat), .int .u64 (wd Z 2 : Nat), .int .u64 (wd Z 3 : Nat)] := by obtain ⟨xx, hx, hy⟩ := hc.ok 5 _ rfl rfl; exact (Option.some.inj (show some vv5 = some xx from hx)).trans hy
  have qq6 : vv6 = .int .i64 0 := by obtain ⟨xx, hx, hy⟩ := hc.ok 6 _ rfl rfl; exact (Option.some.inj (show some vv6 = some xx from hx)).trans hy
  obtain ⟨xx, hx, gno, hv, Eno, Ano⟩ := hc.ok 7 _ rfl rfl
  have qq7 : vv7 = .pointer (some ⟨gno, 0, none⟩) := (Option.some.inj (show some vv7 = some xx from hx)).trans hv
  clear hx hv
  have BZ := hc.bel
  clear hc
  have Nm := Fm.out.on BZ
  have Na := Fa.out.on BZ
  have Nv := Fv.out.on BZ
  have Nvv := Fvv.out.on BZ
  have Nu := Fu.out.on BZ
  have Nxt := Fxt.out.on BZ
  have Non := Fon.out.on BZ
  have Dmno : gm ≠ gno := by have := Fm.out.lt; omega
  have Dano : ga ≠ gno := by have := Fa.out.lt; omega
  have Dvno : gv ≠ gno := by have := Fv.out.lt; omega
  have Dvvno : gvv ≠ gno := by have := Fvv.out.lt; omega
  have Duno : gu ≠ gno := by have := Fu.out.lt; omega
  have Dxtno : gxt ≠ gno := by have := Fxt.out.lt; omega
  have Donno : gon ≠ gno := by have := Fon.out.lt; omega
  have HSZ30 := BW.out.size
  have NB := bel_tr BW.out BZ
  clear BW BZ Fm Fa Fv Fvv Fu Fxt Fon
  subst qq0 qq1 qq2 qq3 qq4 qq5 qq6 qq7
  simp only [List.map_cons, List.map_nil, over, Act.put, List.setIfInBounds_toArray, List.set_cons_zero, List.set_cons_succ]
  have OLD := Ano
  replace Nm := put4_far Nm Dmno (.int .u64 (wd Z 0 : Nat)) (.int .u64 (wd Z 1 : Nat)) (.int .u64 (wd Z 2 : Nat)) (.int .u64 (wd Z 3 : Nat))
  replace Na := put4_far Na Dano (.int .u64 (wd Z 0 : Nat)) (.int .u64 (wd Z 1 : Nat)) (.int .u64 (wd Z 2 : Nat)) (.int .u64 (wd Z 3 : Nat))
  replace Nv := put4_far Nv Dvno (.int .u64 (wd Z 0 : Nat)) (.int .u64 (wd Z 1 : Nat)) (.int .u64 (wd Z 2 : Nat)) (.int .u64 (wd Z 3 : Nat))
  replace Nvv := put4_far Nvv Dvvno (.int .u64 (wd Z 0 : Nat)) (.int .u64 (wd Z 1 : Nat)) (.int .u64 (wd Z 2 : Nat)) (.int .u64 (wd Z 3 : Nat))
  replace Nu := put4_far Nu Duno (.int .u64 (wd Z 0 : Nat)) (.int .u64 (wd Z 1 : Nat)) (.int .u64 (wd Z 2 : Nat)) (.int .u64 (wd Z 3 : Nat))
  replace Nxt := put4_far Nxt Dxtno (.int .u64 (wd Z 0 : Nat)) (.int .u64 (wd Z 1 : Nat)) (.int .u64 (wd Z 2 : Nat)) (.int .u64 (wd Z 3 : Nat))
  replace Non := put4_far Non Donno (.int .u64 (wd Z 0 : Nat)) (.int .u64 (wd Z 1 : Nat)) (.int .u64 (wd Z 2 : Nat)) (.int .u64 (wd Z 3 : Nat))
  replace Ano := put4_at Ano (.int .u64 (wd Z 0 : Nat)) (.int .u64 (wd Z 1 : Nat)) (.int .u64 (wd Z 2 : Nat)) (.int .u64 (wd Z 3 : Nat))
  replace NB := put4_below NB (Nat.le_trans HSZ30 Eno) (.int .u64 (wd Z 0 : Nat)) (.int .u64 (wd Z 1 : Nat)) (.int .u64 (wd Z 2 : Nat)) (.int .u64 (wd Z 3 : Nat))
  refine store_one (i := 8) _ _ _ _ _ gno _ _ _ _ _ _ _ _ (by kernel_rfl) (by rfl) (by rfl) (by rfl) OLD (trivial) ?_
  clear OLD
  generalize (put4 y30 gno (.int .u64 (wd Z 0 : Nat)) (.int .u64 (wd Z 1 : Nat)) (.int .u64 (wd Z 2 : Nat)) (.int .u64 (wd Z 3 : Nat))) = y30_8 at *
  refine assign_one (i := 9) _ 30 _ _ _ (.int .i64 0) (by kernel_rfl) (by rfl) (by rfl) (trivial) ?_
  try simp only [Act.put, List.setIfInBounds_toArray, List.set_cons_zero, List.set_cons_succ]
  refine wpAnyH_done (by kernel_rfl) ?_ _
  refine NoPanic.normal ?_
  have Fm := Lib.hid Nm
  have Fa := Lib.hid Na
  have Fv := Lib.hid Nv
  have Fvv := Lib.hid Nvv
  have Fu := Lib.hid Nu
  have Fxt := Lib.hid Nxt
  have Fon := Lib.hid Non
  have Fno := Lib.hid Ano
  have BW := Lib.hid NB
  clear NB Nm Na Nv Nvv Nu Nxt Non Ano
  clear Eno
  clear HSZ30
  go_wp2_with fail
  clear Fm
  try simp only [List.append_eq, List.cons_append, List.nil_append]
  refine wp_region_noPanic ?_
  refine wp_region_held_drew (S := fun w' => At w' gv 24 #[.int .u64 (wd q 0 : Nat), .int .u64 (wd q 1 : Nat), .int .u64 (wd q 2 : Nat), .int .u64 (wd q 3 : Nat)] ∧ At w' gvv 24 #[.int .u64 (wd q 0 : Nat), .int .u64 (wd q 1 : Nat), .int .u64 (wd q 2 : Nat), .int .u64 (wd q 3 : Nat)] ∧ At w' gu 24 #[.int .u64 (wd u 0 : Nat), .int .u64 (wd u 1 : Nat), .int .u64 (wd u 2 : Nat), .int .u64 (wd u 3 : Nat)] ∧ At w' gxt 24 #[.int .u64 (wd u 0 : Nat), .int .u64 (wd u 1 : Nat), .int .u64 (wd u 2 : Nat), .int .u64 (wd u 3 : Nat)] ∧ At w' gon 24 #[.int .u64 (wd a 0 : Nat), .int .u64 (wd a 1 : Nat), .int .u64 (wd a 2 : Nat), .int .u64 (wd a 3 : Nat)] ∧ At w' ga 24 #[.int .u64 (wd a 0 : Nat), .int .u64 (wd a 1 : Nat), .int .u64 (wd a 2 : Nat), .int .u64 (wd a 3 : Nat)] ∧ At w' gno 24 #[.int .u64 (wd Z 0 : Nat), .int .u64 (wd Z 1 : Nat), .int .u64 (wd Z 2 : Nat), .int .u64 (wd Z 3 : Nat)]) (by kernel_rfl) (⟨Fv.out.drew, Fvv.out.drew, Fu.out.drew, Fxt.out.drew, Fon.out.drew, Fa.out.drew, Fno.out.drew⟩) (fun _ => ?_)
  refine wpAnyH_cores (fuel := 1) (⟨0, 169, [], Kind.val (.bool true), false⟩ :: ⟨1, 170, [0], Kind.val (.bool true), true⟩ :: ⟨2, 171, [1], Kind.val (.int .i64 0), true⟩ :: ⟨3, 172, [1, 2], Kind.val (.bool true), true⟩ :: ⟨4, 173, [1, 3], Kind.val (.bool true), true⟩ :: ⟨5, 174, [4], Kind.val (.bool true), true⟩ :: ⟨6, 175, [5], Kind.val (.int .i64 0), true⟩ :: ⟨7, 176, [5, 6], Kind.val (.bool true), true⟩ :: ⟨8, 177, [5, 7], Kind.val (.bool true), true⟩ :: ⟨9, 178, [8], Kind.val (.bool true), true⟩ :: ⟨10, 179, [9], Kind.val (.int .i64 0), true⟩ :: ⟨11, 180, [9, 10], Kind.val (.bool true), true⟩ :: ⟨12, 181, [9, 11], Kind.val (.bool true), true⟩ :: ⟨13, 182, [12], Kind.val (.bool true), true⟩ :: ⟨14, 183, [13], Kind.val (.int .i64 0), true⟩ :: ⟨15, 184, [13, 14], Kind.val (.bool true), true⟩ :: ⟨16, 185, [13, 15], Kind.val (.bool true), true⟩ :: ⟨17, 186, [16], Kind.val (.bool true), true⟩ :: ⟨18, 187, [17], Kind.val (.int .i64 0), true⟩ :: ⟨19, 188, [17, 18], Kind.val (.bool true), true⟩ :: ⟨20, 189, [17, 19], Kind.val (.bool true), true⟩ :: ⟨21, 190, [20], Kind.val (.bool true), true⟩ :: ⟨22, 191, [21], Kind.val (.int .i64 0), true⟩ :: ⟨23, 192, [21, 22], Kind.val (.bool true), true⟩ :: ⟨24, 193, [21, 23], Kind.val (.bool true), true⟩ :: ⟨25, 194, [24], Kind.val (.bool true), true⟩ :: ⟨26, 195, [25], Kind.val (.int .i64 0), true⟩ :: ⟨27, 196, [25, 26], Kind.val (.bool true), true⟩ :: ⟨28, 197, [25, 27], Kind.val (.bool true), true⟩ :: ⟨29, 198, [28], Kind.val (.bool true), true⟩ :: ⟨30, 199, [29], Kind.val (.int .i64 0), true⟩ :: ⟨31, 200, [29, 30], Kind.val (.bool true), true⟩ :: ⟨32, 201, [29, 31], Kind.val (.bool true), true⟩ :: ⟨33, 202, [32], Kind.val (.bool true), true⟩ :: ⟨34, 203, [33], Kind.val (.agg #[.int .u64 (wd q 0 : Nat), .int .u64 (wd q 1 : Nat), .int .u64 (wd q 2 : Nat), .int .u64 (wd q 3 : Nat)]), true⟩ :: ⟨35, 204, [33, 34], Kind.val (.agg #[.int .u64 (wd q 0 : Nat), .int .u64 (wd q 1 : Nat), .int .u64 (wd q 2 : Nat), .int .u64 (wd q 3 : Nat)]), true⟩ :: ⟨36, 205, [33, 34, 35], Kind.val (.bool true), true⟩ :: ⟨37, 206, [33, 36], Kind.val (.bool true), true⟩ :: ⟨38, 207, [37], Kind.val (.bool true), true⟩ :: ⟨39, 208, [38], Kind.val (.agg #[.int .u64 (wd u 0 : Nat), .int .u64 (wd u 1 : Nat), .int .u64 (wd u 2 : Nat), .int .u64 (wd u 3 : Nat)]), true⟩ :: ⟨40, 209, [38, 39], Kind.val (.agg #[.int .u64 (wd u 0 : Nat), .int .u64 (wd u 1 : Nat), .int .u64 (wd u 2 : Nat), .int .u64 (wd u 3 : Nat)]), true⟩ :: ⟨41, 210, [38, 39, 40], Kind.val (.bool true), true⟩ :: ⟨42, 211, [38, 41], Kind.val (.bool true), true⟩ :: ⟨43, 212, [42], Kind.val (.bool true), true⟩ :: ⟨44, 213, [43], Kind.val (.agg #[.int .u64 (wd a 0 : Nat), .int .u64 (wd a 1 : Nat), .int .u64 (wd a 2 : Nat), .int .u64 (wd a 3 : Nat)]), true⟩ :: ⟨45, 214, [43, 44], Kind.val (.agg #[.int .u64 (wd a 0 : Nat), .int .u64 (wd a 1 : Nat), .int .u64 (wd a 2 : Nat), .int .u64 (wd a 3 : Nat)]), true⟩ :: ⟨46, 215, [43, 44, 45], Kind.val (.bool true), true⟩ :: ⟨47, 216, [43, 46], Kind.val (.bool true), true⟩ :: ⟨48, 217, [47], Kind.val (.bool true), true⟩ :: ⟨49, 218, [48], Kind.val (.agg #[.int .u64 (wd Z 0 : Nat), .int .u64 (wd Z 1 : Nat), .int .u64 (wd Z 2 : Nat), .int .u64 (wd Z 3 : Nat)]), true⟩ :: ⟨50, 219, [48, 49], Kind.val (.agg #[.int .u64 (wd Z 0 : Nat), .int .u64 (wd Z 1 : Nat), .int .u64 (wd Z 2 : Nat), .int .u64 (wd Z 3 : Nat)]), false⟩ :: ⟨51, 220, [48, 49, 50], Kind.val (.bool true), true⟩ :: ⟨52, 221, [48, 51], Kind.val (.bool true), true⟩ :: []) _ _ y30_8 _ ?_ ?_ ?_ ?_ ?_ ?_ ?_ ?_ ?_ ?_ ?_
  · rfl
  · kernel_rfl
  · exact of_decide_eq_true (by kernel_rfl)
  · exact all_cons ⟨_, by rfl, by rfl⟩ (all_cons ⟨_, by rfl, by rfl⟩ (all_cons ⟨_, by rfl, by rfl⟩ (all_cons ⟨_, by rfl, by rfl⟩ (all_cons ⟨_, by rfl, by rfl⟩ (all_cons ⟨_, by rfl, by rfl⟩ (all_cons ⟨_, by rfl, by rfl⟩ (all_cons ⟨_, by rfl, by rfl⟩ (all_cons ⟨_, by rfl, by rfl⟩ (all_cons ⟨_, by rfl, by rfl⟩ (all_cons ⟨_, by rfl, by rfl⟩ (all_cons ⟨_, by rfl, by rfl⟩ (all_cons ⟨_, by rfl, by rfl⟩ (all_cons ⟨_, by rfl, by rfl⟩ (all_cons ⟨_, by rfl, by rfl⟩ (all_cons ⟨_, by rfl, by rfl⟩ (all_cons ⟨_, by rfl, by rfl⟩ (all_cons ⟨_, by rfl, by rfl⟩ (all_cons ⟨_, by rfl, by rfl⟩ (all_cons ⟨_, by rfl, by rfl⟩ (all_cons ⟨_, by rfl, by rfl⟩ (all_cons ⟨_, by rfl, by rfl⟩ (all_cons ⟨_, by rfl, by rfl⟩ (all_cons ⟨_, by rfl, by rfl⟩ (all_cons ⟨_, by rfl, by rfl⟩ (all_cons ⟨_, by rfl, by rfl⟩ (all_cons ⟨_, by rfl, by rfl⟩ (all_cons ⟨_, by rfl, by rfl⟩ (all_cons ⟨_, by rfl, by rfl⟩ (all_cons ⟨_, by rfl, by rfl⟩ (all_cons ⟨_, by rfl, by rfl⟩ (all_cons ⟨_, by rfl, by rfl⟩ (all_cons ⟨_, by rfl, by rfl⟩ (all_cons ⟨_, by rfl, by rfl⟩ (all_cons ⟨_, by rfl, by rfl⟩ (all_cons ⟨_, by rfl, by rfl⟩ (all_cons ⟨_, by rfl, by rfl⟩ (all_cons ⟨_, by rfl, by rfl⟩ (all_cons ⟨_, by rfl, by rfl⟩ (all_cons ⟨_, by rfl, by rfl⟩ (all_cons ⟨_, by rfl, by rfl⟩ (all_cons ⟨_, by rfl, by rfl⟩ (all_cons ⟨_, by rfl, by rfl⟩ (all_cons ⟨_, by rfl, by rfl⟩ (all_cons ⟨_, by rfl, by rfl⟩ (all_cons ⟨_, by rfl, by rfl⟩ (all_cons ⟨_, by rfl, by rfl⟩ (all_cons ⟨_, by rfl, by rfl⟩ (all_cons ⟨_, by rfl, by rfl⟩ (all_cons ⟨_, by rfl, by rfl⟩ (all_cons ⟨_, by rfl, by rfl⟩ (all_cons ⟨_, by rfl, by rfl⟩ (all_cons ⟨_, by rfl, by rfl⟩ (all_nil)))))))))))))))))))))))))))))))))))))))))))))))))))))
  · exact fun _ hb => ⟨Fv.out.on hb, Fvv.out.on hb, Fu.out.on hb, Fxt.out.on hb, Fon.out.on hb, Fa.out.on hb, Fno.out.on hb⟩
  · exact (Below.refl _ _).drew
  · kernel_rfl
  · exact fun _ _ _ _ _ h => h
  · refine all_cons ?_ (all_cons ?_ (all_cons ?_ (all_cons ?_ (all_cons ?_ (all_cons ?_ (all_cons ?_ (all_cons ?_ (all_cons ?_ (all_cons ?_ (all_cons ?_ (all_cons ?_ (all_cons ?_ (all_cons ?_ (all_cons ?_ (all_cons ?_ (all_cons ?_ (all_cons ?_ (all_cons ?_ (all_cons ?_ (all_cons ?_ (all_cons ?_ (all_cons ?_ (all_cons ?_ (all_cons ?_ (all_cons ?_ (all_cons ?_ (all_cons ?_ (all_cons ?_ (all_cons ?_ (all_cons ?_ (all_cons ?_ (all_cons ?_ (all_cons ?_ (all_cons ?_ (all_cons ?_ (all_cons ?_ (all_cons ?_ (all_cons ?_ (all_cons ?_ (all_cons ?_ (all_cons ?_ (all_cons ?_ (all_cons ?_ (all_cons ?_ (all_cons ?_ (all_cons ?_ (all_cons ?_ (all_cons ?_ (all_cons ?_ (all_cons ?_ (all_cons ?_ (all_cons ?_ (all_nil)))))))))))))))))))))))))))))))))))))))))))))))))))))
    · exact core_pureAs _ (by rfl)
    · exact coreG_move _ _ _ _ _ _ _ (by rfl) (by rfl) (wants_none) (known_core 0 169 _ _ (of_decide_eq_true (by rfl)) (by rfl) (by rfl) (by rfl))
    · exact coreG_move _ _ _ _ _ _ _ (by rfl) (by rfl) (wants_core 1 170 1 _ _ _ (by rfl) (by rfl) (by rfl) (known_core 1 170 _ _ (of_decide_eq_true (by rfl)) (by rfl) (by rfl) (by rfl)) _ (by rfl)) (known_old 12 _ (of_decide_eq_true (by rfl)) (by rfl))
    · exact coreG_bin _ _ _ _ _ _ _ _ _ _ _ _ _ (by rfl) (by rfl) (wants_core 1 170 1 _ _ _ (by rfl) (by rfl) (by rfl) (known_core 1 170 _ _ (of_decide_eq_true (by rfl)) (by rfl) (by rfl) (by rfl)) _ (by rfl)) (known_core 2 171 _ _ (of_decide_eq_true (by rfl)) (by rfl) (by rfl) (by rfl)) (known_const _) ((fun ρ w hx hy => by simp only [execOp, hx, hy]; simp [go_sem]))
    · exact coreG_pick _ _ _ _ _ _ _ _ _ _ _ _ (by rfl) (by rfl) (wants_none) (known_core 1 170 _ _ (of_decide_eq_true (by rfl)) (by rfl) (by rfl) (by rfl)) (known_core 3 172 _ _ (of_decide_eq_true (by rfl)) (by rfl) (by rfl) (by rfl)) (known_const _) (by rfl)
    · exact coreG_move _ _ _ _ _ _ _ (by rfl) (by rfl) (wants_none) (known_core 4 173 _ _ (of_decide_eq_true (by rfl)) (by rfl) (by rfl) (by rfl))
    · exact coreG_move _ _ _ _ _ _ _ (by rfl) (by rfl) (wants_core 5 174 5 _ _ _ (by rfl) (by rfl) (by rfl) (known_core 5 174 _ _ (of_decide_eq_true (by rfl)) (by rfl) (by rfl) (by rfl)) _ (by rfl)) (known_old 14 _ (of_decide_eq_true (by rfl)) (by rfl))
    · exact coreG_bin _ _ _ _ _ _ _ _ _ _ _ _ _ (by rfl) (by rfl) (wants_core 5 174 5 _ _ _ (by rfl) (by rfl) (by rfl) (known_core 5 174 _ _ (of_decide_eq_true (by rfl)) (by rfl) (by rfl) (by rfl)) _ (by rfl)) (known_core 6 175 _ _ (of_decide_eq_true (by rfl)) (by rfl) (by rfl) (by rfl)) (known_const _) ((fun ρ w hx hy => by simp only [execOp, hx, hy]; simp [go_sem]))
    · exact coreG_pick _ _ _ _ _ _ _ _ _ _ _ _ (by rfl) (by rfl) (wants_none) (known_core 5 174 _ _ (of_decide_eq_true (by rfl)) (by rfl) (by rfl) (by rfl)) (known_core 7 176 _ _ (of_decide_eq_true (by rfl)) (by rfl) (by rfl) (by rfl)) (known_const _) (by rfl)
    · exact coreG_move _ _ _ _ _ _ _ (by rfl) (by rfl) (wants_none) (known_core 8 177 _ _ (of_decide_eq_true (by rfl)) (by rfl) (by rfl) (by rfl))
    · exact coreG_move _ _ _ _ _ _ _ (by rfl) (by rfl) (wants_core 9 178 9 _ _ _ (by rfl) (by rfl) (by rfl) (known_core 9 178 _ _ (of_decide_eq_true (by rfl)) (by rfl) (by rfl) (by rfl)) _ (by rfl)) (known_old 16 _ (of_decide_eq_true (by rfl)) (by rfl))
    · exact coreG_bin _ _ _ _ _ _ _ _ _ _ _ _ _ (by rfl) (by rfl) (wants_core 9 178 9 _ _ _ (by rfl) (by rfl) (by rfl) (known_core 9 178 _ _ (of_decide_eq_true (by rfl)) (by rfl) (by rfl) (by rfl)) _ (by rfl)) (known_core 10 179 _ _ (of_decide_eq_true (by rfl)) (by rfl) (by rfl) (by rfl)) (known_const _) ((fun ρ w hx hy => by simp only [execOp, hx, hy]; simp [go_sem]))
    · exact coreG_pick _ _ _ _ _ _ _ _ _ _ _ _ (by rfl) (by rfl) (wants_none) (known_core 9 178 _ _ (of_decide_eq_true (by rfl)) (by rfl) (by rfl) (by rfl)) (known_core 11 180 _ _ (of_decide_eq_true (by rfl)) (by rfl) (by rfl) (by rfl)) (known_const _) (by rfl)
    · exact coreG_move _ _ _ _ _ _ _ (by rfl) (by rfl) (wants_none) (known_core 12 181 _ _ (of_decide_eq_true (by rfl)) (by rfl) (by rfl) (by rfl))
    · exact coreG_move _ _ _ _ _ _ _ (by rfl) (by rfl) (wants_core 13 182 13 _ _ _ (by rfl) (by rfl) (by rfl) (known_core 13 182 _ _ (of_decide_eq_true (by rfl)) (by rfl) (by rfl) (by rfl)) _ (by rfl)) (known_old 18 _ (of_decide_eq_true (by rfl)) (by rfl))
    · exact coreG_bin _ _ _ _ _ _ _ _ _ _ _ _ _ (by rfl) (by rfl) (wants_core 13 182 13 _ _ _ (by rfl) (by rfl) (by rfl) (known_core 13 182 _ _ (of_decide_eq_true (by rfl)) (by rfl) (by rfl) (by rfl)) _ (by rfl)) (known_core 14 183 _ _ (of_decide_eq_true (by rfl)) (by rfl) (by rfl) (by rfl)) (known_const _) ((fun ρ w hx hy => by simp only [execOp, hx, hy]; simp [go_sem]))
    · exact coreG_pick _ _ _ _ _ _ _ _ _ _ _ _ (by rfl) (by rfl) (wants_none) (known_core 13 182 _ _ (of_decide_eq_true (by rfl)) (by rfl) (by rfl) (by rfl)) (known_core 15 184 _ _ (of_decide_eq_true (by rfl)) (by rfl) (by rfl) (by rfl)) (known_const _) (by rfl)
    · exact coreG_move _ _ _ _ _ _ _ (by rfl) (by rfl) (wants_none) (known_core 16 185 _ _ (of_decide_eq_true (by rfl)) (by rfl) (by rfl) (by rfl))
    · exact coreG_move _ _ _ _ _ _ _ (by rfl) (by rfl) (wants_core 17 186 17 _ _ _ (by rfl) (by rfl) (by rfl) (known_core 17 186 _ _ (of_decide_eq_true (by rfl)) (by rfl) (by rfl) (by rfl)) _ (by rfl)) (known_old 24 _ (of_decide_eq_true (by rfl)) (by rfl))
    · exact coreG_bin _ _ _ _ _ _ _ _ _ _ _ _ _ (by rfl) (by rfl) (wants_core 17 186 17 _ _ _ (by rfl) (by rfl) (by rfl) (known_core 17 186 _ _ (of_decide_eq_true (by rfl)) (by rfl) (by rfl) (by rfl)) _ (by rfl)) (known_core 18 187 _ _ (of_decide_eq_true (by rfl)) (by rfl) (by rfl) (by rfl)) (known_const _) ((fun ρ w hx hy => by simp only [execOp, hx, hy]; simp [go_sem]))
    · exact coreG_pick _ _ _ _ _ _ _ _ _ _ _ _ (by rfl) (by rfl) (wants_none) (known_core 17 186 _ _ (of_decide_eq_true (by rfl)) (by rfl) (by rfl) (by rfl)) (known_core 19 188 _ _ (of_decide_eq_true (by rfl)) (by rfl) (by rfl) (by rfl)) (known_const _) (by rfl)
    · exact coreG_move _ _ _ _ _ _ _ (by rfl) (by rfl) (wants_none) (known_core 20 189 _ _ (of_decide_eq_true (by rfl)) (by rfl) (by rfl) (by rfl))
    · exact coreG_move _ _ _ _ _ _ _ (by rfl) (by rfl) (wants_core 21 190 21 _ _ _ (by rfl) (by rfl) (by rfl) (known_core 21 190 _ _ (of_decide_eq_true (by rfl)) (by rfl) (by rfl) (by rfl)) _ (by rfl)) (known_old 26 _ (of_decide_eq_true (by rfl)) (by rfl))
    · exact coreG_bin _ _ _ _ _ _ _ _ _ _ _ _ _ (by rfl) (by rfl) (wants_core 21 190 21 _ _ _ (by rfl) (by rfl) (by rfl) (known_core 21 190 _ _ (of_decide_eq_true (by rfl)) (by rfl) (by rfl) (by rfl)) _ (by rfl)) (known_core 22 191 _ _ (of_decide_eq_true (by rfl)) (by rfl) (by rfl) (by rfl)) (known_const _) ((fun ρ w hx hy => by simp only [execOp, hx, hy]; simp [go_sem]))
    · exact coreG_pick _ _ _ _ _ _ _ _ _ _ _ _ (by rfl) (by rfl) (wants_none) (known_core 21 190 _ _ (of_decide_eq_true (by rfl)) (by rfl) (by rfl) (by rfl)) (known_core 23 192 _ _ (of_decide_eq_true (by rfl)) (by rfl) (by rfl) (by rfl)) (known_const _) (by rfl)
    · exact coreG_move _ _ _ _ _ _ _ (by rfl) (by rfl) (wants_none) (known_core 24 193 _ _ (of_decide_eq_true (by rfl)) (by rfl) (by rfl) (by rfl))
    · exact coreG_move _ _ _ _ _ _ _ (by rfl) (by rfl) (wants_core 25 194 25 _ _ _ (by rfl) (by rfl) (by rfl) (known_core 25 194 _ _ (of_decide_eq_true (by rfl)) (by rfl) (by rfl) (by rfl)) _ (by rfl)) (known_old 28 _ (of_decide_eq_true (by rfl)) (by rfl))
    · exact coreG_bin _ _ _ _ _ _ _ _ _ _ _ _ _ (by rfl) (by rfl) (wants_core 25 194 25 _ _ _ (by rfl) (by rfl) (by rfl) (known_core 25 194 _ _ (of_decide_eq_true (by rfl)) (by rfl) (by rfl) (by rfl)) _ (by rfl)) (known_core 26 195 _ _ (of_decide_eq_true (by rfl)) (by rfl) (by rfl) (by rfl)) (known_const _) ((fun ρ w hx hy => by simp only [execOp, hx, hy]; simp [go_sem]))
    · exact coreG_pick _ _ _ _ _ _ _ _ _ _ _ _ (by rfl) (by rfl) (wants_none) (known_core 25 194 _ _ (of_decide_eq_true (by rfl)) (by rfl) (by rfl) (by rfl)) (known_core 27 196 _ _ (of_decide_eq_true (by rfl)) (by rfl) (by rfl) (by rfl)) (known_const _) (by rfl)
    · exact coreG_move _ _ _ _ _ _ _ (by rfl) (by rfl) (wants_none) (known_core 28 197 _ _ (of_decide_eq_true (by rfl)) (by rfl) (by rfl) (by rfl))
    · exact coreG_move _ _ _ _ _ _ _ (by rfl) (by rfl) (wants_core 29 198 29 _ _ _ (by rfl) (by rfl) (by rfl) (known_core 29 198 _ _ (of_decide_eq_true (by rfl)) (by rfl) (by rfl) (by rfl)) _ (by rfl)) (known_old 30 _ (of_decide_eq_true (by rfl)) (by rfl))
    · exact coreG_bin _ _ _ _ _ _ _ _ _ _ _ _ _ (by rfl) (by rfl) (wants_core 29 198 29 _ _ _ (by rfl) (by rfl) (by rfl) (known_core 29 198 _ _ (of_decide_eq_true (by rfl)) (by rfl) (by rfl) (by rfl)) _ (by rfl)) (known_core 30 199 _ _ (of_decide_eq_true (by rfl)) (by rfl) (by rfl) (by rfl)) (known_const _) ((fun ρ w hx hy => by simp only [execOp, hx, hy]; simp [go_sem]))
    · exact coreG_pick _ _ _ _ _ _ _ _ _ _ _ _ (by rfl) (by rfl) (wants_none) (known_core 29 198 _ _ (of_decide_eq_true (by rfl)) (by rfl) (by rfl) (by rfl)) (known_core 31 200 _ _ (of_decide_eq_true (by rfl)) (by rfl) (by rfl) (by rfl)) (known_const _) (by rfl)
    · exact coreG_move _ _ _ _ _ _ _ (by rfl) (by rfl) (wants_none) (known_core 32 201 _ _ (of_decide_eq_true (by rfl)) (by rfl) (by rfl) (by rfl))
    · exact coreG_loadP _ _ _ _ _ _ gv _ _ _ _ (by rfl) (by rfl) (wants_core 33 202 33 _ _ _ (by rfl) (by rfl) (by rfl) (known_core 33 202 _ _ (of_decide_eq_true (by rfl)) (by rfl) (by rfl) (by rfl)) _ (by rfl)) (known_old 19 _ (of_decide_eq_true (by rfl)) (by rfl)) (fun _ hs => hs.1)
    · exact coreG_loadP _ _ _ _ _ _ gvv _ _ _ _ (by rfl) (by rfl) (wants_core 33 202 33 _ _ _ (by rfl) (by rfl) (by rfl) (known_core 33 202 _ _ (of_decide_eq_true (by rfl)) (by rfl) (by rfl) (by rfl)) _ (by rfl)) (known_old 20 _ (of_decide_eq_true (by rfl)) (by rfl)) (fun _ hs => hs.2.1)
    · exact coreG_bin _ _ _ _ _ _ _ _ _ _ _ _ _ (by rfl) (by rfl) (wants_core 33 202 33 _ _ _ (by rfl) (by rfl) (by rfl) (known_core 33 202 _ _ (of_decide_eq_true (by rfl)) (by rfl) (by rfl) (by rfl)) _ (by rfl)) (known_core 34 203 _ _ (of_decide_eq_true (by rfl)) (by rfl) (by rfl) (by rfl)) (known_core 35 204 _ _ (of_decide_eq_true (by rfl)) (by rfl) (by rfl) (by rfl)) (eql_run true _ _ _ _ _ _ _ _ _ _ _ _ _ _ _ (eqY q))
    · exact coreG_pick _ _ _ _ _ _ _ _ _ _ _ _ (by rfl) (by rfl) (wants_none) (known_core 33 202 _ _ (of_decide_eq_true (by rfl)) (by rfl) (by rfl) (by rfl)) (known_core 36 205 _ _ (of_decide_eq_true (by rfl)) (by rfl) (by rfl) (by rfl)) (known_const _) (by rfl)
    · exact coreG_move _ _ _ _ _ _ _ (by rfl) (by rfl) (wants_none) (known_core 37 206 _ _ (of_decide_eq_true (by rfl)) (by rfl) (by rfl) (by rfl))
    · exact coreG_loadP _ _ _ _ _ _ gu _ _ _ _ (by rfl) (by rfl) (wants_core 38 207 38 _ _ _ (by rfl) (by rfl) (by rfl) (known_core 38 207 _ _ (of_decide_eq_true (by rfl)) (by rfl) (by rfl) (by rfl)) _ (by rfl)) (known_old 22 _ (of_decide_eq_true (by rfl)) (by rfl)) (fun _ hs => hs.2.2.1)
    · exact coreG_loadP _ _ _ _ _ _ gxt _ _ _ _ (by rfl) (by rfl) (wants_core 38 207 38 _ _ _ (by rfl) (by rfl) (by rfl) (known_core 38 207 _ _ (of_decide_eq_true (by rfl)) (by rfl) (by rfl) (by rfl)) _ (by rfl)) (known_old 25 _ (of_decide_eq_true (by rfl)) (by rfl)) (fun _ hs => hs.2.2.2.1)
    · exact coreG_bin _ _ _ _ _ _ _ _ _ _ _ _ _ (by rfl) (by rfl) (wants_core 38 207 38 _ _ _ (by rfl) (by rfl) (by rfl) (known_core 38 207 _ _ (of_decide_eq_true (by rfl)) (by rfl) (by rfl) (by rfl)) _ (by rfl)) (known_core 39 208 _ _ (of_decide_eq_true (by rfl)) (by rfl) (by rfl) (by rfl)) (known_core 40 209 _ _ (of_decide_eq_true (by rfl)) (by rfl) (by rfl) (by rfl)) (eql_run true _ _ _ _ _ _ _ _ _ _ _ _ _ _ _ (eqY u))
    · exact coreG_pick _ _ _ _ _ _ _ _ _ _ _ _ (by rfl) (by rfl) (wants_none) (known_core 38 207 _ _ (of_decide_eq_true (by rfl)) (by rfl) (by rfl) (by rfl)) (known_core 41 210 _ _ (of_decide_eq_true (by rfl)) (by rfl) (by rfl) (by rfl)) (known_const _) (by rfl)
    · exact coreG_move _ _ _ _ _ _ _ (by rfl) (by rfl) (wants_none) (known_core 42 211 _ _ (of_decide_eq_true (by rfl)) (by rfl) (by rfl) (by rfl))
    · exact coreG_loadP _ _ _ _ _ _ gon _ _ _ _ (by rfl) (by rfl) (wants_core 43 212 43 _ _ _ (by rfl) (by rfl) (by rfl) (known_core 43 212 _ _ (of_decide_eq_true (by rfl)) (by rfl) (by rfl) (by rfl)) _ (by rfl)) (known_old 27 _ (of_decide_eq_true (by rfl)) (by rfl)) (fun _ hs => hs.2.2.2.2.1)
    · exact coreG_loadP _ _ _ _ _ _ ga _ _ _ _ (by rfl) (by rfl) (wants_core 43 212 43 _ _ _ (by rfl) (by rfl) (by rfl) (known_core 43 212 _ _ (of_decide_eq_true (by rfl)) (by rfl) (by rfl) (by rfl)) _ (by rfl)) (known_old 7 _ (of_decide_eq_true (by rfl)) (by rfl)) (fun _ hs => hs.2.2.2.2.2.1)
    · exact coreG_bin _ _ _ _ _ _ _ _ _ _ _ _ _ (by rfl) (by rfl) (wants_core 43 212 43 _ _ _ (by rfl) (by rfl) (by rfl) (known_core 43 212 _ _ (of_decide_eq_true (by rfl)) (by rfl) (by rfl) (by rfl)) _ (by rfl)) (known_core 44 213 _ _ (of_decide_eq_true (by rfl)) (by rfl) (by rfl) (by rfl)) (known_core 45 214 _ _ (of_decide_eq_true (by rfl)) (by rfl) (by rfl) (by rfl)) (eql_run true _ _ _ _ _ _ _ _ _ _ _ _ _ _ _ (eqY a))
    · exact coreG_pick _ _ _ _ _ _ _ _ _ _ _ _ (by rfl) (by rfl) (wants_none) (known_core 43 212 _ _ (of_decide_eq_true (by rfl)) (by rfl) (by rfl) (by rfl)) (known_core 46 215 _ _ (of_decide_eq_true (by rfl)) (by rfl) (by rfl) (by rfl)) (known_const _) (by rfl)
    · exact coreG_move _ _ _ _ _ _ _ (by rfl) (by rfl) (wants_none) (known_core 47 216 _ _ (of_decide_eq_true (by rfl)) (by rfl) (by rfl) (by rfl))
    · exact coreG_loadP _ _ _ _ _ _ gno _ _ _ _ (by rfl) (by rfl) (wants_core 48 217 48 _ _ _ (by rfl) (by rfl) (by rfl) (known_core 48 217 _ _ (of_decide_eq_true (by rfl)) (by rfl) (by rfl) (by rfl)) _ (by rfl)) (known_old 29 _ (of_decide_eq_true (by rfl)) (by rfl)) (fun _ hs => hs.2.2.2.2.2.2)
    · exact core_pureAs _ (by rfl)
    · exact coreG_bin _ _ _ _ _ _ _ _ _ _ _ _ _ (by rfl) (by rfl) (wants_core 48 217 48 _ _ _ (by rfl) (by rfl) (by rfl) (known_core 48 217 _ _ (of_decide_eq_true (by rfl)) (by rfl) (by rfl) (by rfl)) _ (by rfl)) (known_core 49 218 _ _ (of_decide_eq_true (by rfl)) (by rfl) (by rfl) (by rfl)) (known_core 50 219 _ _ (of_decide_eq_true (by rfl)) (by rfl) (by rfl) (by rfl)) (eql_run true _ _ _ _ _ _ _ _ _ _ _ _ _ _ _ (eqY Z))
    · exact coreG_pick _ _ _ _ _ _ _ _ _ _ _ _ (by rfl) (by rfl) (wants_none) (known_core 48 217 _ _ (of_decide_eq_true (by rfl)) (by rfl) (by rfl) (by rfl)) (known_core 51 220 _ _ (of_decide_eq_true (by rfl)) (by rfl) (by rfl) (by rfl)) (known_const _) (by rfl)
  · refine all_cons ?_ (all_cons ?_ (all_cons ?_ (all_cons ?_ (all_cons ?_ (all_cons ?_ (all_cons ?_ (all_cons ?_ (all_cons ?_ (all_cons ?_ (all_cons ?_ (all_cons ?_ (all_cons ?_ (all_cons ?_ (all_cons ?_ (all_cons ?_ (all_cons ?_ (all_cons ?_ (all_cons ?_ (all_cons ?_ (all_cons ?_ (all_cons ?_ (all_cons ?_ (all_cons ?_ (all_cons ?_ (all_cons ?_ (all_cons ?_ (all_cons ?_ (all_cons ?_ (all_cons ?_ (all_cons ?_ (all_cons ?_ (all_cons ?_ (all_cons ?_ (all_cons ?_ (all_cons ?_ (all_cons ?_ (all_cons ?_ (all_cons ?_ (all_cons ?_ (all_cons ?_ (all_cons ?_ (all_cons ?_ (all_cons ?_ (all_cons ?_ (all_cons ?_ (all_cons ?_ (all_cons ?_ (all_cons ?_ (all_cons ?_ (all_cons ?_ (all_cons ?_ (all_cons ?_ (all_nil)))))))))))))))))))))))))))))))))))))))))))))))))))))
    · exact fun _ => coreG_call _ 29 _ _ [] _ _ _ _ _ _ _ (by rfl) Try.func29 (by kernel_rfl) (by rfl) (by rfl) (wants_none) .nil (alive4_any)
    · exact core_stepAs _ (by rfl)
    · exact core_stepAs _ (by rfl)
    · exact core_stepAs _ (by rfl)
    · exact core_stepAs _ (by rfl)
    · exact core_stepAs _ (by rfl)
    · exact core_stepAs _ (by rfl)
    · exact core_stepAs _ (by rfl)
    · exact core_stepAs _ (by rfl)
    · exact core_stepAs _ (by rfl)
    · exact core_stepAs _ (by rfl)
    · exact core_stepAs _ (by rfl)
    · exact core_stepAs _ (by rfl)
    · exact core_stepAs _ (by rfl)
    · exact core_stepAs _ (by rfl)
    · exact core_stepAs _ (by rfl)
    · exact core_stepAs _ (by rfl)
    · exact core_stepAs _ (by rfl)
    · exact core_stepAs _ (by rfl)
    · exact core_stepAs _ (by rfl)
    · exact core_stepAs _ (by rfl)
    · exact core_stepAs _ (by rfl)
    · exact core_stepAs _ (by rfl)
    · exact core_stepAs _ (by rfl)
    · exact core_stepAs _ (by rfl)
    · exact core_stepAs _ (by rfl)
    · exact core_stepAs _ (by rfl)
    · exact core_stepAs _ (by rfl)
    · exact core_stepAs _ (by rfl)
    · exact core_stepAs _ (by rfl)
    · exact core_stepAs _ (by rfl)
    · exact core_stepAs _ (by rfl)
    · exact core_stepAs _ (by rfl)
    · exact core_stepAs _ (by rfl)
    · exact core_stepAs _ (by rfl)
    · exact core_stepAs _ (by rfl)
    · exact core_stepAs _ (by rfl)
    · exact core_stepAs _ (by rfl)
    · exact core_stepAs _ (by rfl)
    · exact core_stepAs _ (by rfl)
    · exact core_stepAs _ (by rfl)
    · exact core_stepAs _ (by rfl)
    · exact core_stepAs _ (by rfl)
    · exact core_stepAs _ (by rfl)
    · exact core_stepAs _ (by rfl)
    · exact core_stepAs _ (by rfl)
    · exact core_stepAs _ (by rfl)
    · exact core_stepAs _ (by rfl)
    · exact core_stepAs _ (by rfl)
    · exact core_stepAs _ (by rfl)
    · exact fun _ => coreG_call _ 28 _ _ [.const (.int .u64 1)] _ _ _ _ _ _ _ (by rfl) Try.func28 (by kernel_rfl) (by rfl) (by rfl) (wants_core 48 217 48 _ _ _ (by rfl) (by rfl) (by rfl) (known_core 48 217 _ _ (of_decide_eq_true (by rfl)) (by rfl) (by rfl) (by rfl)) _ (by rfl)) (.cons (known_const _) .nil) (HO.out)
    · exact core_stepAs _ (by rfl)
    · exact core_stepAs _ (by rfl)
  intro vs y31 hc
  have BZ := bel_tr BW.out hc.bel
  refine assign_one (i := 53) (.tmp 221) 6 _ _ _ (.bool true) (by kernel_rfl) (by rfl) (hc.at_ (of_decide_eq_true (by kernel_rfl)) (by rfl) 52 221 _ (.bool true) (by rfl) (by rfl) (by rfl)) (⟨Fv.out.on hc.bel, Fvv.out.on hc.bel, Fu.out.on hc.bel, Fxt.out.on hc.bel, Fon.out.on hc.bel, Fa.out.on hc.bel, Fno.out.on hc.bel⟩) ?_
  refine wpAnyH_done (by kernel_rfl) ?_ _
  refine NoPanic.normal ?_
  generalize hA : Act.put (over _ _ vs) (some 6) (.bool true) = A
  have hA0 : A.tmps.getD 6 undef = .bool true := by rw [← hA]; exact put_at _ _ _ (by rw [over_size]; exact Nat.le_of_ble_eq_true rfl)
  have hAd : A.defers = [] := by rw [← hA, put_defers, over_defers]
  clear hA hc
  go_wp2_with fail
  refine bodyPost_ret (v := .bool true) (by simp [results, Try.results7, go_sem] at hA0 ⊢; simp [hA0]) hAd ⟨rfl, BZ⟩

theorem powers_walk (X Y i j M : Nat) (hX : X < 2 ^ 256) (hY : Y < 2 ^ 256) (hi : i < 4294967296) (hj : j < 4294967296) (hM : M < 2 ^ 256) (w : World) : Calls Try.prog 7 #[.agg #[.int .u64 (wd X 0 : Nat), .int .u64 (wd X 1 : Nat), .int .u64 (wd X 2 : Nat), .int .u64 (wd X 3 : Nat), .int .u64 (wd Y 0 : Nat), .int .u64 (wd Y 1 : Nat), .int .u64 (wd Y 2 : Nat), .int .u64 (wd Y 3 : Nat)], .agg #[.int .u32 (i : Nat), .int .u32 (j : Nat)], num M] w fun e w' => e = .returned (.bool true) ∧ Below w.heap.size w w' := by
  by_cases h1 : 1 < M
  · have h0 : M ≠ 0 := by omega
    have lt : ∀ x, x % M < M := fun x => Nat.mod_lt _ (by omega)
    have hp : i * j < 18446744073709551616 := by
      have : i * j ≤ 4294967295 * 4294967295 := Nat.mul_le_mul (by omega) (by omega)
      omega
    obtain ⟨a, ea⟩ : ∃ a, a = X % M := ⟨_, rfl⟩
    obtain ⟨b, eb⟩ : ∃ b, b = Y % M := ⟨_, rfl⟩
    have ha : a < M := by rw [ea]; exact lt _
    have hb : b < M := by rw [eb]; exact lt _
    have B1 := belowM_any X M hX hM h0
    have B2 := belowM_any Y M hY hM h0
    rw [← ea] at B1
    rw [← eb] at B2
    have E3 := mmul_yes (a ^ i % M) (a ^ j % M) M hM h1 (lt _) (lt _)
    rw [show a ^ i % M * (a ^ j % M) % M = a ^ (i + j) % M by rw [← Nat.mul_mod, ← Nat.pow_add]] at E3
    have E5 := mexp_yes (a ^ i % M) j M hM (by omega) h1 (lt _)
    rw [show (a ^ i % M) ^ j % M = a ^ (i * j) % M by rw [← Nat.pow_mod, ← Nat.pow_mul]] at E5
    have E8 := mexp_yes (a * b % M) i M hM (by omega) h1 (lt _)
    have Ea := mmul_yes (a ^ i % M) (b ^ i % M) M hM h1 (lt _) (lt _)
    rw [show a ^ i % M * (b ^ i % M) % M = (a * b % M) ^ i % M by rw [← Nat.mul_mod, ← Nat.mul_pow, ← Nat.pow_mod]] at Ea
    have Eb := mexp_yes a 1 M hM (by decide) h1 ha
    rw [show a ^ 1 % M = a by rw [Nat.pow_one, Nat.mod_eq_of_lt ha]] at Eb
    have Ec := mexp_yes a 0 M hM (by decide) h1 ha
    rw [show a ^ 0 % M = 1 by rw [Nat.pow_zero, Nat.mod_eq_of_lt h1]] at Ec
    exact powers_some X Y i j M 1 0 a b _ _ _ _ _ _ _ (i + j) (i * j) _ (cmpN_pos h1) hi hj (by omega) hp (fun w => ofM_any 1 (by decide) w) (fun w => cmp_any M 1 hM (by decide) w) (fun w => ofM_any 0 (by decide) w) B1 B2 (fun w => ofM_any i (by omega) w) (fun w => ofM_any j (by omega) w)
      (fun w => ofM_any (i + j) (by omega) w) (fun w => ofM_any (i * j) hp w) (mexp_yes a i M hM (by omega) h1 ha) (mexp_yes a j M hM (by omega) h1 ha) E3 (mexp_yes a (i + j) M hM (by omega) h1 ha) E5 (mexp_yes a (i * j) M hM (by omega) h1 ha)
      (mmul_yes a b M hM h1 ha hb) E8 (mexp_yes b i M hM (by omega) h1 hb) Ea Eb Ec w
  · exact powers_none X Y i j M 1 _ (cmpN_le (by omega)) (fun w => ofM_any 1 (by decide) w) (fun w => cmp_any M 1 hM (by decide) w) w
end Go.Proofs.Ytmhmdbjjmmmgkaa
