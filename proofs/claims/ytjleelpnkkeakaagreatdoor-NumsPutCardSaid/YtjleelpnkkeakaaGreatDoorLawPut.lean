/-
  The walk of NumsPut: it answers true, and nothing that was there is changed.
-/
import Derived.Test.YtjleelpnkkeakaaGreatDoorLawGet
import Derived.Test.YtjleelpnkkeakaaGreatDoorRefMore
namespace Go.Proofs.YtjleelpnkkeakaaGreatDoor
open Go.RowKit
attribute [local go_sem ↓] Go.wp_at_zero Go.wp_at_succ

theorem clamp_of (kk : Int) : ∃ k : Nat, (kk < 0 ∧ k = 0) ∨ (0 ≤ kk ∧ kk ≤ 8 ∧ kk = k) ∨ (8 < kk ∧ k = 8) := by
  by_cases h0 : kk < 0
  · exact ⟨0, .inl ⟨h0, rfl⟩⟩
  by_cases h8 : 8 < kk
  · exact ⟨8, .inr (.inr ⟨h8, rfl⟩)⟩
  · exact ⟨kk.toNat, .inr (.inl ⟨by omega, by omega, by omega⟩)⟩

set_option maxRecDepth 100000 in
set_option maxHeartbeats 8000000 in
theorem put_walk (A L : Option Addr) (n c m d : Nat) (bl ll : List Nat) (x : Nat) (kk : Int) (a b p q : Nat) (w : World) (hn : n ≤ 140737488355328) (hm : m ≤ 140737488355328)
    (hnil : A = none → n = 0 ∧ c = 0) (hnil' : L = none → m = 0 ∧ d = 0) (hr : Rd w A n (bs bl)) (hl : Rd w L m (bs ll)) (hx : x < 18446744073709551616)
    (ha : a < 18446744073709551616) (hb : b < 18446744073709551616) (hp : p < 18446744073709551616) (hq : q < 18446744073709551616) :
    Calls Tryz.prog 3 #[.slice A n c, .slice L m d, .agg #[.int .u64 x, .int .i64 kk, .int .u64 a, .int .u64 b, .int .u64 p, .int .u64 q]] w fun e w' => e = .returned (.bool true) ∧ Below w.heap.size w w' := by
  obtain ⟨k, hk⟩ := clamp_of kk
  have hk8 : k ≤ 8 := by omega
  have hk := Lib.hid hk
  obtain ⟨wz, hwz⟩ : ∃ wz, wz = w.alloc (.cells #[.int .u64 (x : Int), .int .i64 kk, .int .u64 (a : Int), .int .u64 (b : Int), .int .u64 (p : Int), .int .u64 (q : Int)] 27) := ⟨_, rfl⟩
  have Gz : At wz w.heap.size 27 #[.int .u64 (x : Int), .int .i64 kk, .int .u64 (a : Int), .int .u64 (b : Int), .int .u64 (p : Int), .int .u64 (q : Int)] := by rw [hwz]; exact At.new _ _ _
  have bz : Below w.heap.size w wz := by rw [hwz]; exact (Below.refl _ _).alloc (Nat.le_refl _) _
  obtain ⟨w0, hw0⟩ : ∃ w0, w0 = wz.alloc (.cells #[.int .i64 (n : Int), .int .i64 (m : Int)] 3) := ⟨_, rfl⟩
  have b0' : Below wz.heap.size wz w0 := by rw [hw0]; exact (Below.refl _ _).alloc (Nat.le_refl _) _
  have hrw : Rd w0 (some ⟨wz.heap.size, 0, none⟩) 2 (is [(n : Int), (m : Int)]) := by rw [hw0]; exact Rd.built wz 3 (is [(n : Int), (m : Int)]) (by simp [is])
  have b0 := bel_tr bz b0'
  have hB0 : wz.heap.size = w.heap.size + 1 := by rw [hwz]; simp
  by_cases hbig : 1048576 < n + m
  · have H := beyond_yes _ 2 n m _ hn hm hrw hbig
    rw [hB0] at H
    clear hr hl hrw b0' bz Gz
    go_enter Tryz.func3, Tryz.ntmps3
    go_wp2_with fail
    rw [← hwz, ← hw0]
    refine H.mono ?_
    rintro e w' ⟨rfl, rfl⟩
    clear H hwz hw0 hB0
    go_wp2_with fail
    go_ret
    exact ⟨rfl, b0⟩
  have H := beyond_no _ 2 n m _ hrw (by omega)
  rw [hB0] at H
  have hln : bl.length = n := by have := hr.1; rwa [bs_len] at this
  have hlm : ll.length = m := by have := hl.1; rwa [bs_len] at this
  have G0 := Gz.on b0'
  have hr0 := hr.below b0
  have hl0 := hl.below b0
  clear hr hl hrw b0' bz Gz
  go_enter Tryz.func3, Tryz.ntmps3
  go_wp2_with fail
  rw [← hwz, ← hw0]
  refine H.mono ?_
  rintro e w' ⟨rfl, rfl⟩
  clear H hwz hw0
  go_wp2_with fail
  refine (twin_ok A n c bl _ (by omega) hr0).mono ?_
  rintro e w1 ⟨rfl, tw1, z1⟩
  obtain ⟨T, hT⟩ : ∃ T, w0.heap.size = T := ⟨_, rfl⟩
  have hr1 := hr0.below z1
  have hl1 := hl0.below z1
  have G1 := G0.on z1
  rw [hT] at tw1 ⊢
  clear hr0 hl0 G0
  go_wp2_with fail
  refine (twin_ok L m d ll _ (by omega) hl1).mono ?_
  rintro e w2 ⟨rfl, uw2, z2⟩
  obtain ⟨U, hU⟩ : ∃ U, w1.heap.size = U := ⟨_, rfl⟩
  have hr2 := hr1.below z2
  have hl2 := hl1.below z2
  have G2 := G1.on z2
  have tw2 : Twin w2 T bl := At.on tw1 z2
  rw [hU] at uw2 ⊢
  have rt2 : Rd w2 (some ⟨T, 0, none⟩) n (bs bl) := by have := tw2.rd; rwa [hln] at this
  have ru2 : Rd w2 (some ⟨U, 0, none⟩) m (bs ll) := by have := uw2.rd; rwa [hlm] at this
  have q0 : w2.cell? ⟨w.heap.size, 0, none⟩ = some (.int .u64 x) := G2.cell 0
  have q1 : w2.cell? ⟨w.heap.size, 1, none⟩ = some (.int .i64 kk) := G2.cell 1
  clear hr1 hl1 G1
  go_wp2_with fail
  refine (put_any (some ⟨T, 0, none⟩) n (n + 1) k x kk bl w2 hk.out (by omega) (by omega) (by simp) rt2 hx).mono ?_
  rintro e w3 ⟨rfl, ox, z3⟩
  obtain ⟨X, hX⟩ : ∃ X, w2.heap.size + 1 = X := ⟨_, rfl⟩
  rw [hX] at ox ⊢
  have G3 := G2.on z3
  have p2 : w3.cell? ⟨w.heap.size, 2, none⟩ = some (.int .u64 a) := G3.cell 2
  have p3 : w3.cell? ⟨w.heap.size, 3, none⟩ = some (.int .u64 b) := G3.cell 3
  have p4 : w3.cell? ⟨w.heap.size, 4, none⟩ = some (.int .u64 p) := G3.cell 4
  have p5 : w3.cell? ⟨w.heap.size, 5, none⟩ = some (.int .u64 q) := G3.cell 5
  clear q0 q1
  go_wp2_with fail
  refine (putLong_any (some ⟨T, 0, none⟩) n (n + 1) a b p q bl w3 (by omega) (by omega) (by simp) (rt2.below z3) ha hb hp hq).mono ?_
  rintro e w4 ⟨rfl, oy, z4⟩
  obtain ⟨Y, hY⟩ : ∃ Y, w3.heap.size + 2 = Y := ⟨_, rfl⟩
  rw [hY] at oy ⊢
  have d4 := bel_tr z3 z4
  clear p2 p3 p4 p5
  go_wp2_with fail
  refine (putBytes_any (some ⟨T, 0, none⟩) (some ⟨U, 0, none⟩) n (n + 1) m (m + 1) bl ll w4 (by omega) (by omega) (by simp) (rt2.below d4) (by omega) (by simp) (ru2.below d4)).mono ?_
  rintro e w5 ⟨vv, rfl, ow, z5⟩
  obtain ⟨Wa, cw, rfl, _, _⟩ := own_form ow
  have d5 := bel_tr d4 z5
  go_wp2_with fail
  refine (putBytes_any (some ⟨T, 0, none⟩) (some ⟨U, 0, none⟩) n (n + 1) m (m + 1) bl ll w5 (by omega) (by omega) (by simp) (rt2.below d5) (by omega) (by simp) (ru2.below d5)).mono ?_
  rintro e w6 ⟨vv, rfl, ov, z6⟩
  obtain ⟨Va, cv, rfl, _, _⟩ := own_form ov
  have d6 := bel_tr d5 z6
  have G6 := G2.on d6
  have q0 : w6.cell? ⟨w.heap.size, 0, none⟩ = some (.int .u64 x) := G6.cell 0
  have q1 : w6.cell? ⟨w.heap.size, 1, none⟩ = some (.int .i64 kk) := G6.cell 1
  clear G3 d4 d5
  go_wp2_with fail
  refine (rput_any A n c k x kk bl w6 hk.out (by omega) hnil (hr2.below d6) hx).mono ?_
  rintro e w7 ⟨r1, rfl, or1, z7⟩
  obtain ⟨R1, e1, rfl, _, _⟩ := own_form or1
  have x7 := bel_tr (bel_tr (bel_tr z4 z5) z6) z7
  clear q0 q1
  go_wp2_with fail
  refine (same_yes (some ⟨X, 0, none⟩) R1 (n + k) (n + k) e1 (bl ++ be k x) w7 (by omega) ((own_rd ox).below x7) (own_rd or1)).mono ?_
  rintro e w8 ⟨rfl, k8, hw8⟩
  have z8 : Below w7.heap.size w7 w8 := by rw [hw8]; exact below_drewN (Below.refl _ _) k8
  have d8 := bel_tr (bel_tr d6 z7) z8
  have G8 := G2.on d8
  have p2 : w8.cell? ⟨w.heap.size, 2, none⟩ = some (.int .u64 a) := G8.cell 2
  have p3 : w8.cell? ⟨w.heap.size, 3, none⟩ = some (.int .u64 b) := G8.cell 3
  have p4 : w8.cell? ⟨w.heap.size, 4, none⟩ = some (.int .u64 p) := G8.cell 4
  have p5 : w8.cell? ⟨w.heap.size, 5, none⟩ = some (.int .u64 q) := G8.cell 5
  clear hw8 or1 G6
  go_wp2_with fail
  refine (rputLong_any A n c a b p q bl w8 (by omega) hnil (hr2.below d8) ha hb hp hq).mono ?_
  rintro e w9 ⟨r2, rfl, or2, z9⟩
  obtain ⟨R2, e2, rfl, _, _⟩ := own_form or2
  have y9 := bel_tr (bel_tr (bel_tr (bel_tr z5 z6) z7) z8) z9
  clear p2 p3 p4 p5 G8
  go_wp2_with fail
  refine (same_yes (some ⟨Y, 0, none⟩) R2 (n + 32) (n + 32) e2 (bl ++ longs a b p q) w9 (by omega) ((own_rd oy).below y9) (own_rd or2)).mono ?_
  rintro e w10 ⟨rfl, k10, hw10⟩
  have z10 : Below w9.heap.size w9 w10 := by rw [hw10]; exact below_drewN (Below.refl _ _) k10
  have d10 := bel_tr (bel_tr d8 z9) z10
  clear hw10 or2 d8
  go_wp2_with fail
  refine (rputBytes_any A L n c m d bl ll w10 (by omega) hnil (hr2.below d10) (by omega) hnil' (hl2.below d10)).mono ?_
  rintro e w11 ⟨r3, rfl, or3, z11⟩
  obtain ⟨R3, e3, rfl, _, _⟩ := own_form or3
  have v11 := bel_tr (bel_tr (bel_tr (bel_tr z7 z8) z9) z10) z11
  have u11 := bel_tr z6 v11
  go_wp2_with fail
  refine (same_yes Wa R3 (n + (4 + m)) cw e3 (bl ++ putB ll) w11 (by omega) ((own_rd ow).below u11) (own_rd or3)).mono ?_
  rintro e w12 ⟨rfl, k12, hw12⟩
  have z12 : Below w11.heap.size w11 w12 := by rw [hw12]; exact below_drewN (Below.refl _ _) k12
  have v12 := bel_tr v11 z12
  have u12 := bel_tr u11 z12
  clear hw12 or3 v11 u11
  go_wp2_with fail
  refine (same_yes Va Wa (n + (4 + m)) cv cw (bl ++ putB ll) w12 (by omega) ((own_rd ov).below v12) ((own_rd ow).below u12)).mono ?_
  rintro e w13 ⟨rfl, k13, hw13⟩
  have z13 : Below w12.heap.size w12 w13 := by rw [hw13]; exact below_drewN (Below.refl _ _) k13
  have d13 := bel_tr (bel_tr (bel_tr d10 z11) z12) z13
  clear hw13 d10
  go_wp2_with fail
  refine (left_ok A n c T bl w13 (by omega) (hr2.below d13) (tw2.on d13)).mono ?_
  rintro e w14 ⟨rfl, z14⟩
  have d14 := bel_tr d13 z14
  go_wp2_with fail
  refine (left_ok L m d U ll w14 (by omega) (hl2.below d14) (uw2.on d14)).mono ?_
  rintro e w15 ⟨rfl, z15⟩
  have d15 := bel_tr d14 z15
  clear d13 d14 hr2 hl2
  go_wp2_with fail
  have hN : w.heap.size ≤ T := by have := b0.size; omega
  have lU : U < w2.heap.size := At.lt uw2
  have lT : T < U := by have := At.lt tw1; omega
  have s3 := z3.size
  have s4 := z4.size
  have s5 := z5.size
  have s6 := z6.size
  have bt : ∀ g, (Value.slice (some ⟨T, 0, none⟩) n (n + 1)).ownBlock = some g → g < U := fun g hg => by simp [Value.ownBlock] at hg; omega
  have bu : ∀ g, (Value.slice (some ⟨U, 0, none⟩) m (m + 1)).ownBlock = some g → U ≤ g ∧ g < w2.heap.size := fun g hg => by simp [Value.ownBlock] at hg; omega
  have bx : ∀ g, (Value.slice (some ⟨X, 0, none⟩) (n + k) (n + k)).ownBlock = some g → w2.heap.size ≤ g ∧ g < w3.heap.size := fun g hg => by have := ox.lt g hg; omega
  have by_ : ∀ g, (Value.slice (some ⟨Y, 0, none⟩) (n + 32) (n + 32)).ownBlock = some g → w3.heap.size ≤ g ∧ g < w4.heap.size := fun g hg => by have := oy.lt g hg; omega
  have bw : ∀ g, (Value.slice Wa (n + (4 + m)) cw).ownBlock = some g → w4.heap.size ≤ g ∧ g < w5.heap.size := fun g hg => by have := ow.lt g hg; omega
  have bv : ∀ g, (Value.slice Va (n + (4 + m)) cv).ownBlock = some g → w5.heap.size ≤ g := fun g hg => by have := ov.lt g hg; omega
  have f6 : Below w6.heap.size w6 w15 := bel_tr (bel_tr (bel_tr v12 z13) z14) z15
  have f5 := bel_tr z6 f6
  have f4 := bel_tr z5 f5
  have f3 := bel_tr z4 f4
  have g15 : Below w.heap.size w w15 := bel_tr (bel_tr (bel_tr b0 z1) z2) d15
  have o_t : w15.ownsRow w.heap.size 5 1 (.slice (some ⟨T, 0, none⟩) n (n + 1)) n (bs bl) := by
    have := Twin.own (g := T) (l := bl) (tw2.on d15) hN (by unfold maxLen; omega)
    rwa [hln] at this
  have o_u : w15.ownsRow w.heap.size 5 1 (.slice (some ⟨U, 0, none⟩) m (m + 1)) m (bs ll) := by
    have := Twin.own (g := U) (l := ll) (uw2.on d15) (N := w.heap.size) (by omega) (by unfold maxLen; omega)
    rwa [hlm] at this
  have o_x : w15.ownsRow w.heap.size 5 1 (.slice (some ⟨X, 0, none⟩) (n + k) (n + k)) (n + k) (bs (bl ++ be k x)) := own_on ox f3 (by omega)
  have o_y : w15.ownsRow w.heap.size 5 1 (.slice (some ⟨Y, 0, none⟩) (n + 32) (n + 32)) (n + 32) (bs (bl ++ longs a b p q)) := own_on oy f4 (by omega)
  have o_w : w15.ownsRow w.heap.size 5 1 (.slice Wa (n + (4 + m)) cw) (n + (4 + m)) (bs (bl ++ putB ll)) := own_on ow f5 (by omega)
  have o_v : w15.ownsRow w.heap.size 5 1 (.slice Va (n + (4 + m)) cv) (n + (4 + m)) (bs (bl ++ putB ll)) := own_on ov f6 (by omega)
  clear ox oy ow ov z1 z2 z3 z4 z5 z6 z7 z8 z9 z10 z11 z12 z13 z14 z15 f3 f4 f5 f6 d6 d15 tw1 tw2 uw2 rt2 ru2 G2 x7 y9 v12 u12 b0 hT hU hX hY hln hlm hB0
  have BK0 := Bk.start w15 w.heap.size g15.size
  have b16 : Below w15.heap.size w15 (w15.alloc (.cells (bkc 0 (.slice none 0 0)) 52)) := (Below.refl _ _).alloc (Nat.le_refl _) _
  have g0 : Below w.heap.size w (w15.alloc (.cells (bkc 0 (.slice none 0 0)) 52)) := bel_tr g15 b16
  have o_t := own_on o_t b16 (Nat.le_refl _)
  have o_u := own_on o_u b16 (Nat.le_refl _)
  have o_x := own_on o_x b16 (Nat.le_refl _)
  have o_y := own_on o_y b16 (Nat.le_refl _)
  have o_w := own_on o_w b16 (Nat.le_refl _)
  have o_v := own_on o_v b16 (Nat.le_refl _)
  clear b16 g15
  unfold bkc at o_t o_u o_x o_y o_w o_v g0 BK0
  generalize w15.alloc (.cells _ 52) = k0 at *
  generalize w15.heap.size = B at *
  refine (bytes_ok k0 w.heap.size B 0 n _ (some ⟨T, 0, none⟩) (n + 1) _ _ _ _ (bs bl) (by omega) BK0 o_t (fun j hj => absurd hj (Nat.not_lt_zero j))).mono ?_
  rintro e k1 ⟨rfl, ⟨v1_, BK1⟩, kp, zk⟩
  have o_u := kp _ _ _ o_u
  have o_x := kp _ _ _ o_x
  have o_y := kp _ _ _ o_y
  have o_w := kp _ _ _ o_w
  have o_v := kp _ _ _ o_v
  have g1_ := g0.trans zk
  clear o_t kp zk BK0 g0
  go_wp2_with fail
  refine (bytes_ok k1 w.heap.size B 1 m v1_ (some ⟨U, 0, none⟩) (m + 1) _ _ _ _ (bs ll) (by omega) BK1 o_u (fun j hj => ?h1)).mono ?_
  case h1 =>
    obtain rfl : j = 0 := by omega
    exact apart_of U (fun g hg => (bu g hg).1) (fun g hg => by have := bt g hg; omega)
  rintro e k2 ⟨rfl, ⟨v2_, BK2⟩, kp, zk⟩
  have o_x := kp _ _ _ o_x
  have o_y := kp _ _ _ o_y
  have o_w := kp _ _ _ o_w
  have o_v := kp _ _ _ o_v
  have g2_ := g1_.trans zk
  clear o_u kp zk BK1 g1_
  go_wp2_with fail
  refine (bytes_ok k2 w.heap.size B 2 (n + k) v2_ (some ⟨X, 0, none⟩) (n + k) _ _ _ _ (bs (bl ++ be k x)) (by omega) BK2 o_x (fun j hj => ?h2)).mono ?_
  case h2 =>
    have hj' : j = 0 ∨ j = 1 := by omega
    rcases hj' with rfl | rfl
    · exact apart_of w2.heap.size (fun g hg => (bx g hg).1) (fun g hg => by have := bt g hg; omega)
    · exact apart_of w2.heap.size (fun g hg => (bx g hg).1) (fun g hg => by have := (bu g hg).2; omega)
  rintro e k3 ⟨rfl, ⟨v3_, BK3⟩, kp, zk⟩
  have o_y := kp _ _ _ o_y
  have o_w := kp _ _ _ o_w
  have o_v := kp _ _ _ o_v
  have g3_ := g2_.trans zk
  clear o_x kp zk BK2 g2_
  go_wp2_with fail
  refine (bytes_ok k3 w.heap.size B 3 (n + 32) v3_ (some ⟨Y, 0, none⟩) (n + 32) _ _ _ _ (bs (bl ++ longs a b p q)) (by omega) BK3 o_y (fun j hj => ?h3)).mono ?_
  case h3 =>
    have hj' : j = 0 ∨ j = 1 ∨ j = 2 := by omega
    rcases hj' with rfl | rfl | rfl
    · exact apart_of w3.heap.size (fun g hg => (by_ g hg).1) (fun g hg => by have := bt g hg; omega)
    · exact apart_of w3.heap.size (fun g hg => (by_ g hg).1) (fun g hg => by have := (bu g hg).2; omega)
    · exact apart_of w3.heap.size (fun g hg => (by_ g hg).1) (fun g hg => by have := (bx g hg).2; omega)
  rintro e k4 ⟨rfl, ⟨v4_, BK4⟩, kp, zk⟩
  have o_w := kp _ _ _ o_w
  have o_v := kp _ _ _ o_v
  have g4_ := g3_.trans zk
  clear o_y kp zk BK3 g3_
  go_wp2_with fail
  refine (bytes_ok k4 w.heap.size B 4 (n + (4 + m)) v4_ Wa cw _ _ _ _ (bs (bl ++ putB ll)) (by omega) BK4 o_w (fun j hj => ?h4)).mono ?_
  case h4 =>
    have hj' : j = 0 ∨ j = 1 ∨ j = 2 ∨ j = 3 := by omega
    rcases hj' with rfl | rfl | rfl | rfl
    · exact apart_of w4.heap.size (fun g hg => (bw g hg).1) (fun g hg => by have := bt g hg; omega)
    · exact apart_of w4.heap.size (fun g hg => (bw g hg).1) (fun g hg => by have := (bu g hg).2; omega)
    · exact apart_of w4.heap.size (fun g hg => (bw g hg).1) (fun g hg => by have := (bx g hg).2; omega)
    · exact apart_of w4.heap.size (fun g hg => (bw g hg).1) (fun g hg => by have := (by_ g hg).2; omega)
  rintro e k5 ⟨rfl, ⟨v5_, BK5⟩, kp, zk⟩
  have o_v := kp _ _ _ o_v
  have g5_ := g4_.trans zk
  clear o_w kp zk BK4 g4_
  go_wp2_with fail
  refine (bytes_ok k5 w.heap.size B 5 (n + (4 + m)) v5_ Va cv _ _ _ _ (bs (bl ++ putB ll)) (by omega) BK5 o_v (fun j hj => ?h5)).mono ?_
  case h5 =>
    have hj' : j = 0 ∨ j = 1 ∨ j = 2 ∨ j = 3 ∨ j = 4 := by omega
    rcases hj' with rfl | rfl | rfl | rfl | rfl
    · exact apart_of w5.heap.size (fun g hg => bv g hg) (fun g hg => by have := bt g hg; omega)
    · exact apart_of w5.heap.size (fun g hg => bv g hg) (fun g hg => by have := (bu g hg).2; omega)
    · exact apart_of w5.heap.size (fun g hg => bv g hg) (fun g hg => by have := (bx g hg).2; omega)
    · exact apart_of w5.heap.size (fun g hg => bv g hg) (fun g hg => by have := (by_ g hg).2; omega)
    · exact apart_of w5.heap.size (fun g hg => bv g hg) (fun g hg => by have := (bw g hg).2; omega)
  rintro e k6 ⟨rfl, ⟨v6_, BK6⟩, kp, zk⟩
  have g6_ := g5_.trans zk
  clear o_v kp zk BK5 g5_
  go_wp2_with fail
  refine (apart_ok k6 w.heap.size B 6 v6_ _ _ _ _ (by omega) BK6 (fun j hj => ?h6)).mono ?_
  case h6 =>
    have hj' : j = 0 ∨ j = 1 ∨ j = 2 ∨ j = 3 ∨ j = 4 ∨ j = 5 := by omega
    rcases hj' with rfl | rfl | rfl | rfl | rfl | rfl
    · show n ≤ 4194304; omega
    · show m ≤ 4194304; omega
    · show n + k ≤ 4194304; omega
    · show n + 32 ≤ 4194304; omega
    · show n + (4 + m) ≤ 4194304; omega
    · show n + (4 + m) ≤ 4194304; omega
  rintro e k7 ⟨rfl, z7⟩
  clear BK6
  go_wp2_with fail
  go_ret
  exact ⟨rfl, g6_.trans z7⟩
end Go.Proofs.YtjleelpnkkeakaaGreatDoor
