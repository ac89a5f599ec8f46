/-
  balefireref01's Get, GetLong, GetBytes: what they answer, whatever bytes they are given.
-/
import Derived.Test.YtjleelpnkkeakaaGreatDoorMore
namespace Go.Proofs.YtjleelpnkkeakaaGreatDoor
open Go.RowKit

theorem rval_step (l : List Nat) (j : Nat) (hj : j < 8) (hl : j < l.length) (hb : ∀ y ∈ l, y < 256) :
    IntKind.u64.wrap (IntKind.u64.wrap (↑(val (List.take j l)) * 256) + IntKind.u64.wrap ↑(l[j]?.getD 0)) = ((val (l.take (j + 1)) : Nat) : Int) := by
  have h1 := val_lt (l.take j) fun y hy => hb y (List.mem_of_mem_take hy)
  have h2 : (l.take j).length = j := by rw [List.length_take]; omega
  have h3 : 256 ^ j ≤ 256 ^ 7 := Nat.pow_le_pow_right (by decide) (by omega)
  rw [h2] at h1
  have h4 : (256 : Nat) ^ 7 = 72057594037927936 := by decide
  have h5 : l[j] < 256 := hb _ (List.getElem_mem hl)
  rw [List.take_succ_eq_append_getElem hl, val_snoc, IntKind.wrap_u64, IntKind.wrap_u64, IntKind.wrap_u64]
  generalize val (l.take j) = P at *
  have e2 : (((l[j]?.getD 0 : Nat) : Int)) = ((l[j] : Nat) : Int) := by rw [List.getElem?_eq_getElem hl]; simp
  rw [e2]
  omega

theorem rget_low (A : Option Addr) (n c : Nat) (k : Int) (w : World) (h : k < 0) :
    Calls Tryz.prog 18 #[.slice A n c, .int .i64 k] w fun e w' => e = .returned (.tuple #[.int .u64 0, .int .i64 1]) ∧ w = w' := by
  go_enter Tryz.func18, Tryz.ntmps18
  go_wp2
  go_ret2
  exact ⟨rfl, rfl⟩

theorem rget_high (A : Option Addr) (n c : Nat) (k : Int) (w : World) (h : 8 < k) :
    Calls Tryz.prog 18 #[.slice A n c, .int .i64 k] w fun e w' => e = .returned (.tuple #[.int .u64 0, .int .i64 1]) ∧ w = w' := by
  have h0 : decide (k < 0) = false := by simp; omega
  go_enter Tryz.func18, Tryz.ntmps18
  go_wp2
  go_ret2
  exact ⟨rfl, rfl⟩

theorem rget_short (A : Option Addr) (n c k : Nat) (w : World) (h8 : k ≤ 8) (h : n < k) :
    Calls Tryz.prog 18 #[.slice A n c, .int .i64 k] w fun e w' => e = .returned (.tuple #[.int .u64 0, .int .i64 5]) ∧ w = w' := by
  have h0 : decide ((k : Int) < 0) = false := by simp
  have h1 : decide ((8 : Int) < (k : Int)) = false := by simp; omega
  go_enter Tryz.func18, Tryz.ntmps18
  go_wp2
  go_ret2
  exact ⟨rfl, rfl⟩

theorem rget_ok (A : Option Addr) (n c k : Nat) (l : List Nat) (w : World) (h8 : k ≤ 8) (h : k ≤ n) (hc : n ≤ c) (hm : c ≤ 9223372036854775807) (hr : Rd w A n (bs l)) (hb : ∀ y ∈ l, y < 256) :
    Calls Tryz.prog 18 #[.slice A n c, .int .i64 k] w fun e w' => e = .returned (.tuple #[.int .u64 (val (l.take k) : Nat), .int .i64 0]) ∧ w = w' := by
  have h0 : decide ((k : Int) < 0) = false := by simp
  have h1 : decide ((8 : Int) < (k : Int)) = false := by simp; omega
  have h2 : decide (n < k) = false := by simp; omega
  go_enter Tryz.func18, Tryz.ntmps18
  go_wp2
  go_loop [6, 7] (fun t i => ∃ j : Nat, j ≤ k ∧ i = .int .i64 j ∧ t = .int .u64 (val (l.take j) : Nat)) (fun _ i => k - (intOf i).toNat)
  case atStart => exact ⟨0, Nat.zero_le _, rfl, rfl⟩
  case round =>
    obtain ⟨j, hj, rfl, rfl⟩ := hrel
    by_cases hlt : j < k
    · obtain ⟨b, off, rfl, hbs, hcell⟩ := hr.spot (show j < n by omega)
      have hln : l.length = n := by have := hr.1; rw [bs_len] at this; exact this
      have hx : w.cell? ⟨b, off + j, none⟩ = some (.int .u8 (l.getD j 0 : Nat)) := hcell j _ (bs_at l j (by omega))
      have hv := Lib.hid (rval_step l j (by omega) (by omega) hb)
      clear hcell hr hln hb
      go_wp2
      go_round
      case rel => exact ⟨j + 1, by omega, by go_num, by rw [hv.out]⟩
      case measure => simp [intOf]; omega
    · obtain rfl : j = k := by omega
      go_wp2
      go_ret2
      exact ⟨rfl, rfl⟩
theorem rgetBytes_four (A : Option Addr) (n c : Nat) (w : World) (h : n < 4) :
    Calls Tryz.prog 22 #[.slice A n c] w fun e w' => e = .returned (.tuple #[.slice none 0 0, .int .i64 0, .int .i64 5]) ∧ w = w' := by
  have H := Lib.hid (rget_short A n c 4 w (by omega) h)
  go_enter Tryz.func22, Tryz.ntmps22
  go_wp2_with (go_at_call 18; refine H.out.mono ?_; rintro e w1 ⟨rfl, rfl⟩)
  go_ret3
  exact ⟨rfl, rfl⟩

set_option maxRecDepth 4000 in
theorem rgetBytes_ok (A : Option Addr) (n c m : Nat) (l : List Nat) (w : World) (h : 4 ≤ n) (hn : n ≤ 8388608) (hc : n ≤ c) (hm : c ≤ 9223372036854775807) (hr : Rd w A n (bs l)) (hb : ∀ y ∈ l, y < 256) (hv : val (l.take 4) = m) (hmn : 4 + m ≤ n) :
    Calls Tryz.prog 22 #[.slice A n c] w fun e w' => ∃ v, e = .returned (.tuple #[v, .int .i64 (4 + m : Nat), .int .i64 0]) ∧ w'.ownsRow w.heap.size 5 1 v m (bs ((l.drop 4).take m)) ∧ Below w.heap.size w w' := by
  have H := Lib.hid (rget_ok A n c 4 l w (by omega) h hc hm hr hb)
  rw [hv] at H
  clear hv
  obtain ⟨i0, hi, hz0, hz1, hz2⟩ := info_parts Tryz.info5
  obtain ⟨b, off, rfl, hbs, hcell⟩ := hr.spot (show 0 < n by omega)
  have hd : decide (n - 4 < m) = false := by simp; omega
  have hd1 : decide ((n : Int) - 4 < (m : Int)) = false := by simp; omega
  have hd2 : (4 : Int) ≤ 4 + (m : Int) := by omega
  have hd3 : 4 + (m : Int) ≤ (c : Int) := by omega
  by_cases hc4 : c = 4
  · subst hc4
    obtain rfl : m = 0 := by omega
    have hr0 : Rd w (some ⟨b, off, none⟩) 0 (bs ((l.drop 4).take 0)) := by simpa [bs] using Rd.nil w (some ⟨b, off, none⟩)
    clear hr hcell hb
    go_enter Tryz.func22, Tryz.ntmps22
    go_wp2_with (first | (go_at_call 18; refine H.out.mono ?_; rintro e w1 ⟨rfl, rfl⟩) | (at_builtin; refine wpList_append_rd _ rfl (.const (.slice none 0 0)) (.tmp 26) 22 rfl w.heap.size 5 i0 (.int .u8 0) 1 Tryz.underlying22 hi hz0 hz1 hz2 rfl (.slice none 0 0) 0 [] rfl (World.ownsRow_nil _ _ _ _) (some ⟨b, off, none⟩) 0 0 _ rfl (by simp) hr0 (bs_one _) (by unfold maxLen; omega) (by omega) (Nat.le_refl _) ?_; intro v w2 hown2 hgrow2; obtain ⟨V, cv, rfl, _, _⟩ := own_form hown2))
    go_ret3
    exact ⟨.slice V 0 cv, by simp, by simpa using hown2, (Below.refl _ _).grown hgrow2 (Nat.le_refl _) (by simp [Value.ownBlock])⟩
  · have hr0 : Rd w (some ⟨b, off + 4, none⟩) m (bs ((l.drop 4).take m)) := by
      have hll := hr.1
      rw [bs_len] at hll
      refine ⟨by rw [bs_len, List.length_take, List.length_drop]; omega, fun _ => ⟨b, off + 4, rfl, hbs, fun j u hu => ?_⟩⟩
      rw [Nat.add_assoc]
      refine hcell (4 + j) u ?_
      simp only [bs, List.map_take, List.map_drop, List.getElem?_take, List.getElem?_drop] at hu
      split at hu
      · exact hu
      · cases hu
    clear hr hcell hb
    go_enter Tryz.func22, Tryz.ntmps22
    go_wp2_with (first | (go_at_call 18; refine H.out.mono ?_; rintro e w1 ⟨rfl, rfl⟩) | (at_builtin; refine wpList_append_rd _ rfl (.const (.slice none 0 0)) (.tmp 26) 22 rfl w.heap.size 5 i0 (.int .u8 0) 1 Tryz.underlying22 hi hz0 hz1 hz2 rfl (.slice none 0 0) 0 [] rfl (World.ownsRow_nil _ _ _ _) (some ⟨b, off + 4, none⟩) m (c - 4) _ (by first | rfl | exact congrArg (fun k => Value.slice (some ⟨b, off + 4, none⟩) k (c - 4)) (Nat.add_sub_cancel_left) | (simp [Act.eval]; done)) (by simp) hr0 (bs_one _) (by unfold maxLen; omega) (by omega) (Nat.le_refl _) ?_; intro v w2 hown2 hgrow2; obtain ⟨V, cv, rfl, _, _⟩ := own_form hown2))
    go_ret3
    exact ⟨.slice V m cv, by simp, by simpa using hown2, (Below.refl _ _).grown hgrow2 (Nat.le_refl _) (by simp [Value.ownBlock])⟩

theorem rgetBytes_short (A : Option Addr) (n c m : Nat) (l : List Nat) (w : World) (h : 4 ≤ n) (hn : n ≤ 8388608) (hc : n ≤ c) (hm : c ≤ 9223372036854775807) (hr : Rd w A n (bs l)) (hb : ∀ y ∈ l, y < 256) (hv : val (l.take 4) = m) (hmn : n < 4 + m) :
    Calls Tryz.prog 22 #[.slice A n c] w fun e w' => e = .returned (.tuple #[.slice none 0 0, .int .i64 0, .int .i64 5]) ∧ w = w' := by
  have H := Lib.hid (rget_ok A n c 4 l w (by omega) h hc hm hr hb)
  rw [hv] at H
  clear hv
  obtain ⟨b, off, rfl, hbs, hcell⟩ := hr.spot (show 0 < n by omega)
  have hd : decide (n - 4 < m) = true := by simp; omega
  clear hr hcell hb
  by_cases hc4 : c = 4
  · subst hc4
    obtain rfl : n = 4 := by omega
    have hd : ((0 : Int) < (m : Int)) := by omega
    go_enter Tryz.func22, Tryz.ntmps22
    go_wp2_with (go_at_call 18; refine H.out.mono ?_; rintro e w1 ⟨rfl, rfl⟩)
    go_ret3
    exact ⟨rfl, rfl⟩
  · go_enter Tryz.func22, Tryz.ntmps22
    go_wp2_with (go_at_call 18; refine H.out.mono ?_; rintro e w1 ⟨rfl, rfl⟩)
    go_ret3
    exact ⟨rfl, rfl⟩

theorem rgetLong_short (A : Option Addr) (n c : Nat) (w : World) (h : n < 32) :
    Calls Tryz.prog 20 #[.slice A n c] w fun e w' => e = .returned (.tuple #[.agg #[.int .u64 0, .int .u64 0, .int .u64 0, .int .u64 0], .int .i64 5]) ∧ Below w.heap.size w w' := by
  go_enter Tryz.func20, Tryz.ntmps20
  go_wp2
  exact bodyPost_ret (v := .tuple #[.agg #[.int .u64 0, .int .u64 0, .int .u64 0, .int .u64 0], .int .i64 5]) (by simp [results, Tryz.results20, go_sem]) rfl ⟨rfl, (Below.refl _ _).alloc (Nat.le_refl _) _⟩

set_option maxHeartbeats 1000000 in
theorem rgetLong_ok (A : Option Addr) (n c : Nat) (l : List Nat) (w : World) (h : 32 ≤ n) (hc : n ≤ c) (hm : c ≤ 9223372036854775807) (hr : Rd w A n (bs l)) (hb : ∀ y ∈ l, y < 256) :
    Calls Tryz.prog 20 #[.slice A n c] w fun e w' => e = .returned (.tuple #[.agg #[.int .u64 (val ((l.drop 24).take 8) : Nat), .int .u64 (val ((l.drop 16).take 8) : Nat), .int .u64 (val ((l.drop 8).take 8) : Nat), .int .u64 (val (l.take 8) : Nat)], .int .i64 0]) ∧ Below w.heap.size w w' := by
  obtain ⟨b, off, rfl, hbs, hcell⟩ := hr.spot (show 0 < n by omega)
  have hdr : ∀ k, ∀ y ∈ l.drop k, y < 256 := fun k y hy => hb y (List.mem_of_mem_drop hy)
  have g0 : ∀ W, Below w.heap.size w W → Calls Tryz.prog 18 #[.slice (some ⟨b, off, none⟩) n c, .int .i64 8] W fun e w' => e = .returned (.tuple #[.int .u64 (val (l.take 8) : Nat), .int .i64 0]) ∧ W = w' :=
    fun W hW => rget_ok _ n c 8 l W (by omega) (by omega) hc hm (hr.below hW) hb
  have g1 : ∀ W, Below w.heap.size w W → Calls Tryz.prog 18 #[.slice (some ⟨b, off + 8, none⟩) (n - 8) (c - 8), .int .i64 8] W fun e w' => e = .returned (.tuple #[.int .u64 (val ((l.drop 8).take 8) : Nat), .int .i64 0]) ∧ W = w' :=
    fun W hW => rget_ok _ _ _ 8 (l.drop 8) W (by omega) (by omega) (by omega) (by omega) (by rw [← bs_drop]; exact ((hr.below hW).later (by omega))) (hdr 8)
  have g2 : ∀ W, Below w.heap.size w W → Calls Tryz.prog 18 #[.slice (some ⟨b, off + 16, none⟩) (n - 16) (c - 16), .int .i64 8] W fun e w' => e = .returned (.tuple #[.int .u64 (val ((l.drop 16).take 8) : Nat), .int .i64 0]) ∧ W = w' :=
    fun W hW => rget_ok _ _ _ 8 (l.drop 16) W (by omega) (by omega) (by omega) (by omega) (by rw [← bs_drop]; exact ((hr.below hW).later (by omega))) (hdr 16)
  have g3 : ∀ W, Below w.heap.size w W → Calls Tryz.prog 18 #[.slice (some ⟨b, off + 24, none⟩) (n - 24) (c - 24), .int .i64 8] W fun e w' => e = .returned (.tuple #[.int .u64 (val ((l.drop 24).take 8) : Nat), .int .i64 0]) ∧ W = w' :=
    fun W hW => rget_ok _ _ _ 8 (l.drop 24) W (by omega) (by omega) (by omega) (by omega) (by rw [← bs_drop]; exact ((hr.below hW).later (by omega))) (hdr 24)
  have G0 := Lib.hid g0
  have G1 := Lib.hid g1
  have G2 := Lib.hid g2
  have G3 := Lib.hid g3
  have hn8 : ¬ c = 8 := by omega
  have hn16 : ¬ c = 16 := by omega
  have hn24 : ¬ c = 24 := by omega
  have hn0 : ¬ c = 0 := by omega
  have hb2 : ∀ (o o' : Obj), Below w.heap.size w ((w.alloc o).alloc o') := fun o o' => ((Below.refl _ _).alloc (Nat.le_refl _) o).alloc (by simp) o'
  have HB := Lib.hid hb2
  clear g0 g1 g2 g3 hdr hr hcell hb hb2
  go_enter Tryz.func20, Tryz.ntmps20
  go_wp2
  refine wp_loop_rounds 5 ?_
  rw [rounds_succ]
  go_wp2_with (go_at_call 18; refine (G0.out _ (HB.out _ _)).mono ?_; rintro e w1 ⟨rfl, rfl⟩)
  rw [rounds_succ]
  go_wp2_with (go_at_call 18; refine (G1.out _ (HB.out _ _)).mono ?_; rintro e w1 ⟨rfl, rfl⟩)
  rw [rounds_succ]
  go_wp2_with (go_at_call 18; refine (G2.out _ (HB.out _ _)).mono ?_; rintro e w1 ⟨rfl, rfl⟩)
  rw [rounds_succ]
  go_wp2_with (go_at_call 18; refine (G3.out _ (HB.out _ _)).mono ?_; rintro e w1 ⟨rfl, rfl⟩)
  rw [rounds_succ]
  go_wp2
  exact bodyPost_ret (v := .tuple #[.agg #[.int .u64 (val ((l.drop 24).take 8) : Nat), .int .u64 (val ((l.drop 16).take 8) : Nat), .int .u64 (val ((l.drop 8).take 8) : Nat), .int .u64 (val (l.take 8) : Nat)], .int .i64 0]) (by simp [results, Tryz.results20, go_sem]) rfl ⟨rfl, HB.out _ _⟩
end Go.Proofs.YtjleelpnkkeakaaGreatDoor
