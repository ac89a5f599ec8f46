/-
  The walk of NumsGet: it answers true, and nothing that was there is changed.
-/
import Derived.Test.YtjleelpnkkeakaaGreatDoorGetBoth
namespace Go.Proofs.YtjleelpnkkeakaaGreatDoor
open Go.RowKit
attribute [local go_sem ↓] Go.wp_at_zero Go.wp_at_succ

theorem Bk.start (w : World) (N : Nat) (hN : N ≤ w.heap.size) : Bk (w.alloc (.cells (bkc 0 (.slice none 0 0)) 52)) N w.heap.size 0 (.slice none 0 0) (fun _ => .slice none 0 0) (fun _ => .slice none 0 0) (fun _ => 0) (fun _ => []) :=
  ⟨At.new _ _ _, .inl ⟨rfl, rfl⟩, fun j hj => absurd hj (Nat.not_lt_zero j), fun i _ hi => absurd hi (Nat.not_lt_zero i), hN⟩
theorem apart_of {u v : Value} (a : Nat) (h1 : ∀ g, u.ownBlock = some g → a ≤ g) (h2 : ∀ g, v.ownBlock = some g → g < a) : u.ownBlock = none ∨ u.ownBlock ≠ v.ownBlock := by
  cases h : u.ownBlock with
  | none => exact .inl rfl
  | some g =>
    refine .inr fun e => ?_
    have := h1 g h
    have := h2 g e.symm
    omega

set_option maxRecDepth 100000 in
set_option maxHeartbeats 6000000 in
theorem get_walk (kk : Int) (A : Option Addr) (n c : Nat) (l : List Nat) (w : World) (hn : n ≤ 140737488355328) (hc : n ≤ c) (hm : c ≤ 9223372036854775807) (hr : Rd w A n (bs l)) (hb : ∀ y ∈ l, y < 256) :
    Calls Tryz.prog 4 #[.slice A n c, .int .i64 kk] w fun e w' => e = .returned (.bool true) ∧ Below w.heap.size w w' := by
  have hrw : Rd (w.alloc (.cells #[.int .i64 (n : Int)] 3)) (some ⟨w.heap.size, 0, none⟩) 1 (is [(n : Int)]) := Rd.built w 3 (is [(n : Int)]) (by simp [is])
  by_cases hbig : 1048576 < n
  · have H := Lib.hid (beyond1_yes _ 1 n _ hn hrw hbig)
    clear hrw hr
    go_enter Tryz.func4, Tryz.ntmps4
    go_wp2_with (go_at_call 5; refine H.out.mono ?_; rintro e w' ⟨rfl, rfl⟩)
    go_ret
    exact ⟨rfl, (Below.refl _ _).alloc (Nat.le_refl _) _⟩
  have H := Lib.hid (beyond1_no _ 1 n _ hrw (by omega))
  obtain ⟨w0, hw0⟩ : ∃ w0, w0 = w.alloc (.cells #[.int .i64 (n : Int)] 3) := ⟨_, rfl⟩
  rw [← hw0] at H
  have b0 : Below w.heap.size w w0 := by rw [hw0]; exact (Below.refl _ _).alloc (Nat.le_refl _) _
  have hln : l.length = n := by have := hr.1; rwa [bs_len] at this
  obtain ⟨r, s, G1⟩ := get_both kk n l hb
  obtain ⟨a, b, p, q, s2, G2⟩ := getLong_both n l hb
  obtain ⟨m, t3, s3, xs, hmn, G3⟩ := getBytes_both n l (by omega) hb
  have G1 := Lib.hid G1
  have G2 := Lib.hid G2
  have G3 := Lib.hid G3
  have hr0 := hr.below b0
  clear hrw hr hb
  go_enter Tryz.func4, Tryz.ntmps4
  go_wp2_with fail
  rw [← hw0]
  refine H.out.mono ?_
  rintro e w' ⟨rfl, rfl⟩
  clear H hw0
  go_wp2_with fail
  refine (twin_ok A n c l _ (by omega) hr0).mono ?_
  rintro e w1 ⟨rfl, tw1, z1⟩
  obtain ⟨T, hT⟩ : ∃ T, w0.heap.size = T := ⟨_, rfl⟩
  have hr1 := hr0.below z1
  rw [hT] at tw1 ⊢
  have rt1 : Rd w1 (some ⟨T, 0, none⟩) n (bs l) := by have := tw1.rd; rwa [hln] at this
  clear hr0
  go_wp2_with fail
  refine (G1.out (some ⟨T, 0, none⟩) (n + 1) w1 (by omega) (by omega) rt1).1.mono ?_
  rintro e w' ⟨rfl, rfl⟩
  go_wp2_with fail
  refine (G1.out A c w1 hc hm hr1).2.mono ?_
  rintro e w' ⟨rfl, rfl⟩
  clear G1
  go_wp2_with fail
  refine (G2.out (some ⟨T, 0, none⟩) (n + 1) w1 (by omega) (by omega) rt1).1.mono ?_
  rintro e w2 ⟨rfl, z2⟩
  go_wp2_with fail
  have P2 := At.new w2 25 #[.int .u64 a, .int .u64 b, .int .u64 p, .int .u64 q]
  have b2 : Below w2.heap.size w2 (w2.alloc (.cells #[.int .u64 a, .int .u64 b, .int .u64 p, .int .u64 q] 25)) := (Below.refl _ _).alloc (Nat.le_refl _) _
  have c2 := bel_tr z2 b2
  obtain ⟨P, hP⟩ : ∃ P, w2.heap.size = P := ⟨_, rfl⟩
  rw [hP] at P2 ⊢
  clear z2 b2
  generalize w2.alloc (.cells #[.int .u64 a, .int .u64 b, .int .u64 p, .int .u64 q] 25) = w3 at *
  refine (G2.out A c w3 hc hm (hr1.below c2)).2.mono ?_
  rintro e w4 ⟨rfl, z4⟩
  clear G2
  go_wp2_with fail
  have Q4 := At.new w4 25 #[.int .u64 a, .int .u64 b, .int .u64 p, .int .u64 q]
  have b4 : Below w4.heap.size w4 (w4.alloc (.cells #[.int .u64 a, .int .u64 b, .int .u64 p, .int .u64 q] 25)) := (Below.refl _ _).alloc (Nat.le_refl _) _
  have c4 := bel_tr z4 b4
  obtain ⟨Q, hQ⟩ : ∃ Q, w4.heap.size = Q := ⟨_, rfl⟩
  rw [hQ] at Q4 ⊢
  clear z4 b4
  generalize w4.alloc (.cells #[.int .u64 a, .int .u64 b, .int .u64 p, .int .u64 q] 25) = w5 at *
  have d5 := bel_tr c2 c4
  have P5 := P2.on c4
  refine (G3.out (some ⟨T, 0, none⟩) (n + 1) w5 (by omega) (by omega) (rt1.below d5)).1.mono ?_
  rintro e w6 ⟨vx, rfl, ox, z6⟩
  obtain ⟨X, cx, rfl, _, _⟩ := own_form ox
  go_wp2_with fail
  refine (G3.out (some ⟨T, 0, none⟩) (n + 1) w6 (by omega) (by omega) (rt1.below (bel_tr d5 z6))).1.mono ?_
  rintro e w7 ⟨vy, rfl, oy, z7⟩
  obtain ⟨Y, cy, rfl, _, _⟩ := own_form oy
  go_wp2_with fail
  refine (G3.out A c w7 hc hm (hr1.below (bel_tr (bel_tr d5 z6) z7))).2.mono ?_
  rintro e w8 ⟨vz, rfl, oz, z8⟩
  obtain ⟨Z, cz, rfl, _, _⟩ := own_form oz
  clear G3 c2 c4
  have d8 := bel_tr (bel_tr (bel_tr d5 z6) z7) z8
  have c8 := bel_tr (bel_tr z6 z7) z8
  have P8 := P5.on c8
  have Q8 := Q4.on c8
  have q0 : w8.cell? ⟨P, 0, none⟩ = some (.int .u64 a) := P8.cell 0
  have q1 : w8.cell? ⟨P, 1, none⟩ = some (.int .u64 b) := P8.cell 1
  have q2 : w8.cell? ⟨P, 2, none⟩ = some (.int .u64 p) := P8.cell 2
  have q3 : w8.cell? ⟨P, 3, none⟩ = some (.int .u64 q) := P8.cell 3
  have y0 : w8.cell? ⟨Q, 0, none⟩ = some (.int .u64 a) := Q8.cell 0
  have y1 : w8.cell? ⟨Q, 1, none⟩ = some (.int .u64 b) := Q8.cell 1
  have y2 : w8.cell? ⟨Q, 2, none⟩ = some (.int .u64 p) := Q8.cell 2
  have y3 : w8.cell? ⟨Q, 3, none⟩ = some (.int .u64 q) := Q8.cell 3
  clear P2 P5 P8 Q4 Q8
  have heq := eqNum a b p q
  go_wp2_with fail
  have S1 := same_yes X Z m cx cz xs w8 (by omega) ((own_rd ox).below (bel_tr z7 z8)) (own_rd oz)
  refine S1.mono ?_
  rintro e w9 ⟨rfl, k9, hw9⟩
  have z9 : Below w8.heap.size w8 w9 := by rw [hw9]; exact below_drewN (Below.refl _ _) k9
  clear hw9 S1 heq q0 q1 q2 q3 y0 y1 y2 y3
  go_wp2_with fail
  have S2 := same_yes Y Z m cy cz xs w9 (by omega) ((own_rd oy).below (bel_tr z8 z9)) ((own_rd oz).below z9)
  refine S2.mono ?_
  rintro e w10 ⟨rfl, k10, hw10⟩
  have z10 : Below w9.heap.size w9 w10 := by rw [hw10]; exact below_drewN (Below.refl _ _) k10
  clear hw10 S2
  have d10 := bel_tr (bel_tr d8 z9) z10
  go_wp2_with fail
  refine (left_ok A n c T l w10 (by omega) (hr1.below d10) (tw1.on d10)).mono ?_
  rintro e w11 ⟨rfl, z11⟩
  go_wp2_with fail
  have hN : w.heap.size ≤ T := by have := b0.size; omega
  have hT5 : T < w5.heap.size := by have := (tw1.on d5).lt; exact this
  have lx := fun g hg => ox.lt g hg
  have ly := fun g hg => oy.lt g hg
  have e11 := bel_tr (bel_tr z9 z10) z11
  have f11 := bel_tr d8 e11
  have g11 : Below w.heap.size w w11 := bel_tr (bel_tr b0 z1) f11
  have ot : w11.ownsRow w.heap.size 5 1 (.slice (some ⟨T, 0, none⟩) n (n + 1)) n (bs l) := by
    have := Twin.own (g := T) (l := l) (tw1.on f11) hN (by unfold maxLen; omega)
    rwa [hln] at this
  have hs5 : w.heap.size ≤ w5.heap.size := by omega
  have hs6 : w5.heap.size ≤ w6.heap.size := z6.size
  have oxx : w11.ownsRow w.heap.size 5 1 (.slice X m cx) m (bs xs) := own_on ox (bel_tr (bel_tr z7 z8) e11) hs5
  have oyy : w11.ownsRow w.heap.size 5 1 (.slice Y m cy) m (bs xs) := own_on oy (bel_tr z8 e11) (by have := z6.size; omega)
  clear ox oy oz z6 z7 z8 z9 z10 z11 e11 f11 d8 d10 d5 tw1 rt1 hr1 c8 b0 z1
  have BK0 := Bk.start w11 w.heap.size g11.size
  have b12 : Below w11.heap.size w11 (w11.alloc (.cells (bkc 0 (.slice none 0 0)) 52)) := (Below.refl _ _).alloc (Nat.le_refl _) _
  have g12 : Below w.heap.size w (w11.alloc (.cells (bkc 0 (.slice none 0 0)) 52)) := bel_tr g11 b12
  have ot := own_on ot b12 (Nat.le_refl _)
  have oxx := own_on oxx b12 (Nat.le_refl _)
  have oyy := own_on oyy b12 (Nat.le_refl _)
  clear b12 g11
  unfold bkc at ot oxx oyy g12 BK0
  generalize w11.alloc (.cells _ 52) = w12 at *
  generalize w11.heap.size = B at *
  refine (bytes_ok w12 w.heap.size B 0 n _ (some ⟨T, 0, none⟩) (n + 1) _ _ _ _ (bs l) (by omega) BK0 ot (fun j hj => absurd hj (Nat.not_lt_zero j))).mono ?_
  rintro e w13 ⟨rfl, ⟨v13, BK1⟩, kp13, z13⟩
  have oxx := kp13 _ _ _ oxx
  have oyy := kp13 _ _ _ oyy
  have g13 := g12.trans z13
  clear ot kp13 z13 g12 BK0
  go_wp2_with fail
  refine (bytes_ok w13 w.heap.size B 1 m v13 X cx _ _ _ _ (bs xs) (by omega) BK1 oxx (fun j hj => ?h1)).mono ?_
  case h1 =>
    obtain rfl : j = 0 := by omega
    exact apart_of w5.heap.size (fun g hg => (lx g hg).1) (fun g hg => by simp [upd, Value.ownBlock] at hg; omega)
  rintro e w14 ⟨rfl, ⟨v14, BK2⟩, kp14, z14⟩
  have oyy := kp14 _ _ _ oyy
  have g14 := g13.trans z14
  clear oxx kp14 z14 g13 BK1
  go_wp2_with fail
  refine (bytes_ok w14 w.heap.size B 2 m v14 Y cy _ _ _ _ (bs xs) (by omega) BK2 oyy (fun j hj => ?h2)).mono ?_
  case h2 =>
    have hj2 : j = 0 ∨ j = 1 := by omega
    rcases hj2 with rfl | rfl
    · exact apart_of w6.heap.size (fun g hg => (ly g hg).1) (fun g hg => by simp [upd, Value.ownBlock] at hg; omega)
    · exact apart_of w6.heap.size (fun g hg => (ly g hg).1) (fun g hg => (lx g hg).2)
  rintro e w15 ⟨rfl, ⟨v15, BK3⟩, kp15, z15⟩
  have g15 := g14.trans z15
  clear oyy kp15 z15 g14 BK2
  go_wp2_with fail
  refine (apart_ok w15 w.heap.size B 3 v15 _ _ _ _ (by omega) BK3 (fun j hj => ?h3)).mono ?_
  case h3 =>
    have hj3 : j = 0 ∨ j = 1 ∨ j = 2 := by omega
    rcases hj3 with rfl | rfl | rfl
    · show n ≤ 4194304; omega
    · show m ≤ 4194304; omega
    · show m ≤ 4194304; omega
  rintro e w16 ⟨rfl, z16⟩
  clear BK3
  go_wp2_with fail
  go_ret
  exact ⟨rfl, g15.trans z16⟩
end Go.Proofs.YtjleelpnkkeakaaGreatDoor
