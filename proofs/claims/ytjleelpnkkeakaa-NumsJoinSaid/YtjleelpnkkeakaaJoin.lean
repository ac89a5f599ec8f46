/-
  The walk of NumsJoin: it answers true, and nothing that was there is changed.
-/
import Derived.Test.YtjleelpnkkeakaaAlive
import Derived.Test.YtjleelpnkkeakaaSame
import Derived.Deep.RegionHeld3
import Derived.Deep.DrawnRows
namespace Go.Proofs.Ytjleelpnkkeakaa
open Go.RowKit
attribute [local go_sem ↓] Go.wp_at_zero Go.wp_at_succ

theorem box_cell (w : World) (t : TypeId) (cs : Array Value) (i : Nat) : (w.alloc (.cells cs t)).cell? ⟨w.heap.size, i, none⟩ = cs[i]? := cell_of_row _ _ i cs t (0, 0) (heap_alloc_new w _)

theorem putBytes_at (A L : Option Addr) (n c m d t : Nat) (b l r : List Nat) (w : World) (ht : n + (4 + m) = t) (hbl : b ++ putB l = r) (hn : n ≤ 4194000) (hc : n ≤ c) (hnil : A = none → n = 0 ∧ c = 0) (hr : Rd w A n (bs b))
    (hm : m ≤ 4194000) (hnil' : L = none → m = 0 ∧ d = 0) (hl : Rd w L m (bs l)) :
    Calls Try.prog 13 #[.slice A n c, .slice L m d] w fun e w' => ∃ g k, e = .returned (.slice (some ⟨g, 0, none⟩) t k) ∧ t ≤ k ∧ k ≤ maxLen ∧ Rd w' (some ⟨g, 0, none⟩) t (bs r) ∧ Below w.heap.size w w' := by
  subst ht hbl
  exact (putBytes_any A L n c m d b l w hn hc hnil hr hm hnil' hl).mono fun e w' ⟨v, he, ho, hb⟩ => by
    rcases ho.2 with ⟨_, h0⟩ | ⟨g, cap, cur, rfl, _, _, h1, h2, _⟩
    · omega
    · exact ⟨g, cap, he, h1, h2, Rd.own ho, hb⟩

theorem putB_len (l : List Nat) : (putB l).length = 4 + l.length := by simp [putB, be_len]
theorem putB_four (l r : List Nat) : (putB l ++ r).take 4 = be 4 l.length := by
  have h : (be 4 l.length).length = 4 := be_len 4 _
  rw [putB, List.append_assoc, List.take_append_of_le_length (by omega), List.take_of_length_le (by omega)]
theorem putB_rest (l r : List Nat) : (putB l ++ r).drop 4 = l ++ r := by
  have h : (be 4 l.length).length = 4 := be_len 4 _
  rw [putB, List.append_assoc, List.drop_append_of_le_length (by omega), List.drop_of_length_le (by omega), List.nil_append]
theorem putB_val (l r : List Nat) (h : l.length ≤ 4194304) : val ((putB l ++ r).take 4) = l.length := by
  rw [putB_four, val_be]; exact Nat.mod_eq_of_lt (by omega)
theorem putB_lt (l : List Nat) (h : ∀ y ∈ l, y < 256) : ∀ y ∈ putB l, y < 256 := by
  intro y hy
  rcases List.mem_append.1 hy with h1 | h1
  · exact be_lt _ _ y h1
  · exact h y h1

/-- bytes that were put are got, whatever stands behind -/
theorem gb_ok (A : Option Addr) (n c m : Nat) (l r : List Nat) (w : World) (hm : l.length = m) (hmm : m ≤ 4194304) (hn : n ≤ 8388608) (hc : n ≤ c) (hcm : c ≤ 9223372036854775807) (hr : Rd w A n (bs (putB l ++ r))) (hl : ∀ y ∈ l, y < 256) (hrr : ∀ y ∈ r, y < 256) :
    Calls Try.prog 14 #[.slice A n c] w fun e w' => ∃ A' c', e = .returned (.tuple #[.slice A' m c', .int .i64 (4 + m : Nat), .int .i64 0]) ∧ Rd w' A' m (bs l) ∧ Below w.heap.size w w' := by
  subst hm
  have hlen := hr.1
  rw [bs_len, List.length_append, putB_len] at hlen
  refine (getBytes_ok A n c l.length (putB l ++ r) w (by omega) hn hc hcm hr ?_ (putB_val l r hmm) (by omega)).mono ?_
  · intro y hy
    rcases List.mem_append.1 hy with h1 | h1
    · exact putB_lt l hl y h1
    · exact hrr y h1
  · rintro e w' ⟨v, he, ho, hb⟩
    obtain ⟨A', c', rfl, _, _⟩ := own_form ho
    refine ⟨A', c', he, ?_, hb⟩
    have := Rd.own ho
    rwa [putB_rest, List.take_append_of_le_length (Nat.le_refl _), List.take_of_length_le (Nat.le_refl _)] at this

/-- bytes that are cut are too short -/
theorem gb_cut (A : Option Addr) (n c : Nat) (l : List Nat) (w : World) (hm : l.length ≤ 4194304) (hn : n < 4 + l.length) (hc : n ≤ c) (hcm : c ≤ 9223372036854775807) (hr : Rd w A n (bs ((putB l).take n))) (hl : ∀ y ∈ l, y < 256) :
    Calls Try.prog 14 #[.slice A n c] w fun e w' => e = .returned (.tuple #[.slice none 0 0, .int .i64 0, .int .i64 5]) ∧ w = w' := by
  by_cases h4 : n < 4
  · exact getBytes_four A n c w h4
  · refine getBytes_short A n c l.length ((putB l).take n) w (by omega) (by omega) hc hcm hr (fun y hy => putB_lt l hl y (List.mem_of_mem_take hy)) ?_ (by omega)
    rw [List.take_take, Nat.min_eq_left (by omega)]
    have := putB_val l [] hm
    rwa [List.append_nil] at this

theorem same_b (A B : Option Addr) (n c d : Nat) (l : List Nat) (w : World) (hn : n ≤ 9223372036854775807) (hA : Rd w A n (bs l)) (hB : Rd w B n (bs l)) :
    Calls Try.prog 10 #[.slice A n c, .slice B n d] w fun e w' => e = .returned (.bool true) ∧ Below w.heap.size w w' :=
  (same_yes A B n c d l w hn hA hB).mono fun e w' ⟨he, k, hw⟩ => ⟨he, hw ▸ below_drewN (Below.refl _ _) k⟩

theorem behind {w : World} {g n m : Nat} {a b : List Nat} (h : Rd w (some ⟨g, 0, none⟩) (n + m) (bs (a ++ b))) (ha : a.length = n) : Rd w (some ⟨g, n, none⟩) m (bs b) := by
  have hl := h.1
  rw [bs_len, List.length_append] at hl
  refine ⟨by rw [bs_len]; omega, fun hm => ?_⟩
  obtain ⟨b', off', e, hb, hc⟩ := h.2 (by omega)
  injection e with e
  injection e with e1 e2
  subst e1 e2
  refine ⟨g, n, rfl, hb, fun j u hu => ?_⟩
  have := hc (n + j) u (by
    rw [bs_append, List.getElem?_append_right (by rw [bs_len]; omega), bs_len, ha, Nat.add_sub_cancel_left]
    exact hu)
  rwa [Nat.zero_add] at this

theorem big_yes (W : World) (a b : Nat) (ha : a ≤ 140737488355328) (hb : b ≤ 140737488355328) (h : 1048576 < a + b) :
    Calls Try.prog 7 #[.slice (some ⟨W.heap.size, 0, none⟩) 2 2] (W.alloc (.cells #[.int .i64 (a : Int), .int .i64 (b : Int)] 3)) fun e w' => e = .returned (.bool true) ∧ Below W.heap.size W w' :=
  (beyond_yes _ 2 a b _ ha hb (Rd.built W 3 (is [(a : Int), (b : Int)]) (by simp [is])) h).mono fun e w' ⟨he, hw⟩ => ⟨he, hw ▸ (Below.refl _ _).alloc (Nat.le_refl _) _⟩
theorem big_no (W : World) (a b : Nat) (h : a + b ≤ 1048576) :
    Calls Try.prog 7 #[.slice (some ⟨W.heap.size, 0, none⟩) 2 2] (W.alloc (.cells #[.int .i64 (a : Int), .int .i64 (b : Int)] 3)) fun e w' => e = .returned (.bool false) ∧ Below W.heap.size W w' :=
  (beyond_no _ 2 a b _ (Rd.built W 3 (is [(a : Int), (b : Int)]) (by simp [is])) h).mono fun e w' ⟨he, hw⟩ => ⟨he, hw ▸ (Below.refl _ _).alloc (Nat.le_refl _) _⟩

set_option maxRecDepth 100000 in
set_option maxHeartbeats 2000000 in
theorem join_walk (A0 A1 : Option Addr) (n0 c0 n1 c1 cut : Nat) (l0 l1 : List Nat) (w : World)
    (hn0 : n0 ≤ 140737488355328) (hn1 : n1 ≤ 140737488355328) (hc0 : n0 ≤ c0) (hc1 : n1 ≤ c1) (hm0 : c0 ≤ 9223372036854775807) (hm1 : c1 ≤ 9223372036854775807)
    (hz0 : A0 = none → n0 = 0 ∧ c0 = 0) (hz1 : A1 = none → n1 = 0 ∧ c1 = 0) (hr0 : Rd w A0 n0 (bs l0)) (hr1 : Rd w A1 n1 (bs l1)) (hb0 : ∀ y ∈ l0, y < 256) (hb1 : ∀ y ∈ l1, y < 256) (hcut : cut < 65536) :
    Calls Try.prog 4 #[.agg #[.slice A0 n0 c0, .slice A1 n1 c1], .int .u16 cut] w fun e w' => e = .returned (.bool true) ∧ Below w.heap.size w w' := by
  have hcb : Hid (((w.alloc (.cells #[.slice A0 n0 c0, .slice A1 n1 c1] 28)).cell? ⟨w.heap.size, 0, none⟩ = some (.slice A0 n0 c0)) ∧ ((w.alloc (.cells #[.slice A0 n0 c0, .slice A1 n1 c1] 28)).cell? ⟨w.heap.size, 1, none⟩ = some (.slice A1 n1 c1))) :=
    Lib.hid ⟨box_cell w 28 _ 0, box_cell w 28 _ 1⟩
  have B0 : Below w.heap.size w (w.alloc (.cells #[.slice A0 n0 c0, .slice A1 n1 c1] 28)) := (Below.refl _ _).alloc (Nat.le_refl _) _
  go_enter Try.func4, Try.ntmps4
  go_wp2_with fail
  refine (alive_true _).mono ?_
  rintro e w1 ⟨rfl, b1⟩
  have k0 := cell_on b1 hcb.out.1
  have k1 := cell_on b1 hcb.out.2
  have B1 := bel_tr B0 b1
  clear b1 B0 hcb
  go_wp2_with fail
  by_cases hbig : 1048576 < n0 + n1
  · refine (big_yes _ n0 n1 hn0 hn1 hbig).mono ?_
    rintro e w2 ⟨rfl, b2⟩
    go_wp2_with fail
    refine (alive_true _).mono ?_
    rintro e w3 ⟨rfl, b3⟩
    go_wp2_with fail
    go_ret
    exact ⟨rfl, bel_tr B1 (bel_tr b2 b3)⟩
  · refine (big_no _ n0 n1 (by omega)).mono ?_
    rintro e w2 ⟨rfl, b2⟩
    have k0' := cell_on b2 k0
    have k1' := cell_on b2 k1
    have B2 := bel_tr B1 b2
    have q0 := hr0.below B2
    have q1 := hr1.below B2
    clear k0 k1 B1 b2 hn0 hn1
    go_wp2_with fail
    go_region_held3 (fun w' => w'.cell? ⟨w.heap.size, 0, none⟩ = some (.slice A0 n0 c0) ∧ w'.cell? ⟨w.heap.size, 1, none⟩ = some (.slice A1 n1 c1)) (first | go_keep | exact ⟨cell_on b3 k0', cell_on b3 k1'⟩ | exact ⟨cell_on b4 (cell_on b3 k0'), cell_on b4 (cell_on b3 k1')⟩)
      (first
        | (go_at_call 13; ((with_reducible refine (putBytes_at none A0 0 0 n0 c0 (4 + n0) [] l0 (putB l0) _ (by omega) rfl (by omega) (by omega) (by simp) (Rd.nil _ _) (by omega) hz0 q0.drew).mono ?_); rintro e w3 ⟨g, k, rfl, hk, hk2, hg, b3⟩))
        | (go_at_call 13; ((with_reducible refine (putBytes_at (some ⟨g, 0, none⟩) A1 (4 + n0) k n1 c1 (4 + n0 + (4 + n1)) (putB l0) l1 (putB l0 ++ putB l1) _ rfl rfl (by omega) hk (by simp) hg (by omega) hz1 (q1.drew.below b3)).mono ?_); rintro e w4 ⟨g2, k2, rfl, hj, hj2, hg2, b4⟩)))
    have B4 := bel_tr B2 (bel_tr (below_drewN (Below.refl _ _) 1) (bel_tr b3 b4))
    have k0 := cell_on b4 (cell_on b3 k0')
    have k1 := cell_on b4 (cell_on b3 k1')
    have hL0 : l0.length = n0 := by have := hr0.1; rwa [bs_len] at this
    have hL1 : l1.length = n1 := by have := hr1.1; rwa [bs_len] at this
    have HL0 := Lib.hid hL0
    have HL1 := Lib.hid hL1
    have p0 := hr0.below B4
    have p1 := hr1.below B4
    have hk2m : k2 ≤ 9223372036854775807 := by unfold maxLen at hj2; omega
    clear hj2
    clear q0 q1 b3 b4 B2 k0' k1' hg hk hk2 hL0 hL1
    go_wp2_with fail
    refine (gb_ok (some ⟨g2, 0, none⟩) _ _ n0 l0 (putB l1) _ HL0.out (by omega) (by omega) hj hk2m hg2 hb0 (putB_lt l1 hb1)).mono ?_
    rintro e w5 ⟨A5, c5, rfl, r5, b5⟩
    have k0' := cell_on b5 k0
    have k1' := cell_on b5 k1
    have hg3 := hg2.below b5
    have p0' := p0.below b5
    have p1' := p1.below b5
    have B5 := bel_tr B4 b5
    clear k0 k1 hg2 p0 p1 B4 b5
    go_wp2_with fail
    refine (same_b A5 A0 n0 c5 c0 l0 _ (by omega) r5 p0').mono ?_
    rintro e w6 ⟨rfl, b6⟩
    have k1 := cell_on b6 k1'
    have hg4 := hg3.below b6
    have p1 := p1'.below b6
    have B6 := bel_tr B5 b6
    have hne : ¬ k2 = 4 + n0 := by omega
    have hle1 : (4 + (n0 : Int)) ≤ ((4 + n0 + (4 + n1) : Nat) : Int) := by omega
    clear k0' k1' hg3 p0' p1' B5 b6 r5
    go_wp2_with fail
    have hg5 : Rd w6 (some ⟨g2, 4 + n0, none⟩) (4 + n1) (bs (putB l1)) := behind hg4 (by rw [putB_len, HL0.out])
    have hg5' : Rd w6 (some ⟨g2, 4 + n0, none⟩) (4 + n1) (bs (putB l1 ++ [])) := by rw [List.append_nil]; exact hg5
    clear hg4
    refine (gb_ok (some ⟨g2, 4 + n0, none⟩) _ _ n1 l1 [] _ HL1.out (by omega) (by omega) (by omega) (by omega) hg5' hb1 (by simp)).mono ?_
    rintro e w7 ⟨A7, c7, rfl, r7, b7⟩
    have k1' := cell_on b7 k1
    have hg7 := hg5.below b7
    have p1' := p1.below b7
    have B7 := bel_tr B6 b7
    obtain ⟨q, hq⟩ : ∃ q, q = cut % (4 + n1) := ⟨_, rfl⟩
    have hq1 : q < 4 + n1 := by rw [hq]; exact Nat.mod_lt _ (by omega)
    have hqi : (cut : Int) % (4 + (n1 : Int)) = (q : Int) := by rw [hq, Int.natCast_emod]; simp
    clear hq k1 hg5 hg5' p1 B6 b7
    go_wp2_with fail
    have hq8 : Rd w7 (some ⟨g2, 4 + n0, none⟩) q (bs ((putB l1).take q)) := by
      have := hg7.take (k := q) (by omega)
      rwa [show (bs (putB l1)).take q = bs ((putB l1).take q) by simp [bs]] at this
    refine (gb_cut (some ⟨g2, 4 + n0, none⟩) q _ l1 _ (by rw [HL1.out]; omega) (by rw [HL1.out]; omega) (by omega) (by omega) hq8 hb1).mono ?_
    rintro e w8 ⟨rfl, rfl⟩
    clear hq8 hg7
    go_wp2_with fail
    refine (same_b A7 A1 n1 c7 c1 l1 _ (by omega) r7 p1').mono ?_
    rintro e w9 ⟨rfl, b9⟩
    have B9 := bel_tr B7 b9
    clear B7 b9 r7 p1' k1'
    go_wp2_with fail
    go_ret
    exact ⟨rfl, B9⟩
end Go.Proofs.Ytjleelpnkkeakaa
