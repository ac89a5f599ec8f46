/-
  balefireref01's PutLong, PutBytes: what they answer.
-/
import Derived.Test.YtjleelpnkkeakaaGreatDoorRefPut
namespace Go.Proofs.YtjleelpnkkeakaaGreatDoor
open Go.RowKit

set_option maxRecDepth 100000 in
theorem rputBytes_any (A L : Option Addr) (n c m d : Nat) (b l : List Nat) (w : World) (hn : n ≤ 4194000) (hnil : A = none → n = 0 ∧ c = 0) (hr : Rd w A n (bs b))
    (hm : m ≤ 4194000) (hnil' : L = none → m = 0 ∧ d = 0) (hl : Rd w L m (bs l)) :
    Calls Tryz.prog 13 #[.slice A n c, .slice L m d] w fun e w' => ∃ v, e = .returned v ∧ w'.ownsRow w.heap.size 5 1 v (n + (4 + m)) (bs (b ++ putB l)) ∧ Below w.heap.size w w' := by
  obtain ⟨i0, hi, hz0, hz1, hz2⟩ := info_parts Tryz.info5
  have H := Lib.hid (rput_any A n c 4 m 4 b w (by omega) (by omega) hnil hr (by omega))
  have hlen := Lib.hid hl.1
  go_enter Tryz.func13, Tryz.ntmps13
  go_wp2_with (first | (go_at_call 11; refine H.out.mono ?_; rintro e w1 ⟨v1, rfl, hown, hb⟩; obtain ⟨V1, c1, rfl, _, _⟩ := own_form hown) | (at_builtin; refine wpList_append_rd _ rfl (.tmp 9) (.tmp 10) 22 rfl w.heap.size 5 i0 (.int .u8 0) 1 Tryz.underlying22 hi hz0 hz1 hz2 rfl (.slice V1 (n + 4) c1) (n + 4) _ rfl hown L m d (bs l) rfl hnil' (hl.below hb) (bs_one l) (by unfold maxLen; omega) (by omega) hb.size ?_; intro v w2 hown2 hgrow2))
  go_ret
  refine ⟨v, rfl, ?_, hb.grown hgrow2 hb.size (fun g hg => (hown.lt g hg).1)⟩
  have e1 : b ++ putB l = (b ++ be 4 m) ++ l := by
    have := hlen.out
    rw [bs_len] at this
    simp [putB, this]
  rw [e1, bs_append (b ++ be 4 m), ← Nat.add_assoc]
  exact hown2

theorem cell_on {W w : World} {a : Addr} {v : Value} (hb : Below W.heap.size W w) (h : W.cell? a = some v) : w.cell? a = some v := (hb.cell (World.block_lt_of_cell? W a h)).trans h

theorem rput_more (w0 w : World) (g n c x : Nat) (l : List Nat) (h : w.ownsRow w0.heap.size 5 1 (.slice (some ⟨g, 0, none⟩) n c) n (bs l)) (hn : n ≤ 4194304) (h0 : Below w0.heap.size w0 w) (hx : x < 18446744073709551616) :
    Calls Tryz.prog 11 #[.slice (some ⟨g, 0, none⟩) n c, .int .u64 x, .int .i64 8] w fun e w' => ∃ g' c', e = .returned (.slice (some ⟨g', 0, none⟩) (n + 8) c') ∧ w'.ownsRow w0.heap.size 5 1 (.slice (some ⟨g', 0, none⟩) (n + 8) c') (n + 8) (bs (l ++ be 8 x)) ∧ Below w.heap.size w w' := by
  refine (rput_any (some ⟨g, 0, none⟩) n c 8 x 8 l w (by omega) hn (by simp) (own_rd h) hx).mono ?_
  rintro e w' ⟨v, rfl, ho, hb⟩
  rcases own_cases ho with ⟨_, h0, _⟩ | ⟨g', c', rfl⟩
  · omega
  · exact ⟨g', c', rfl, own_on ho (Below.refl _ _) h0.size, hb⟩

set_option maxRecDepth 100000 in
set_option maxHeartbeats 2000000 in
theorem rputLong_any (A : Option Addr) (n c a b p q : Nat) (l : List Nat) (w : World) (hn : n ≤ 4194000) (hnil : A = none → n = 0 ∧ c = 0) (hr : Rd w A n (bs l))
    (ha : a < 18446744073709551616) (hb : b < 18446744073709551616) (hp : p < 18446744073709551616) (hq : q < 18446744073709551616) :
    Calls Tryz.prog 12 #[.slice A n c, .agg #[.int .u64 a, .int .u64 b, .int .u64 p, .int .u64 q]] w fun e w' => ∃ v, e = .returned v ∧ w'.ownsRow w.heap.size 5 1 v (n + 32) (bs (l ++ longs a b p q)) ∧ Below w.heap.size w w' := by
  have Q0 := At.new w 25 #[.int .u64 (a : Int), .int .u64 (b : Int), .int .u64 (p : Int), .int .u64 (q : Int)]
  have z0 : Below w.heap.size w (w.alloc (.cells #[.int .u64 (a : Int), .int .u64 (b : Int), .int .u64 (p : Int), .int .u64 (q : Int)] 25)) := (Below.refl _ _).alloc (Nat.le_refl _) _
  obtain ⟨wa, hwa⟩ : ∃ wa, wa = w.alloc (.cells #[.int .u64 (a : Int), .int .u64 (b : Int), .int .u64 (p : Int), .int .u64 (q : Int)] 25) := ⟨_, rfl⟩
  go_enter Tryz.func12, Tryz.ntmps12
  go_wp2_with fail
  rw [← hwa] at Q0 z0 ⊢
  clear hwa
  have hra := hr.below z0
  clear hr
  have k3 : wa.cell? ⟨w.heap.size, 3, none⟩ = some (.int .u64 q) := Q0.cell 3
  refine wp_loop_rounds 5 ?_
  rw [rounds_succ]
  go_wp2_with fail
  refine (rput_any A n c 8 q 8 l wa (by omega) (by omega) hnil hra hq).mono ?_
  rintro e w1 ⟨v1, rfl, o1, z1⟩
  rcases own_cases o1 with ⟨_, h0, _⟩ | ⟨g1, c1, rfl⟩
  · omega
  have o1 := own_on o1 (Below.refl _ _) z0.size
  have b1 := bel_tr z0 z1
  have k2 : w1.cell? ⟨w.heap.size, 2, none⟩ = some (.int .u64 p) := (Q0.on z1).cell 2
  clear k3 hra
  go_wp2_with fail
  rw [rounds_succ]
  go_wp2_with fail
  refine (rput_more w w1 g1 (n + 8) c1 p _ o1 (by omega) b1 hp).mono ?_
  rintro e w2 ⟨g2, c2, rfl, o2, z2⟩
  have b2 := bel_tr b1 z2
  have k1 : w2.cell? ⟨w.heap.size, 1, none⟩ = some (.int .u64 b) := (Q0.on (bel_tr z1 z2)).cell 1
  clear k2 o1 b1
  go_wp2_with fail
  rw [rounds_succ]
  go_wp2_with fail
  refine (rput_more w w2 g2 (n + 8 + 8) c2 b _ o2 (by omega) b2 hb).mono ?_
  rintro e w3 ⟨g3, c3, rfl, o3, z3⟩
  have b3 := bel_tr b2 z3
  have k0 : w3.cell? ⟨w.heap.size, 0, none⟩ = some (.int .u64 a) := (Q0.on (bel_tr (bel_tr z1 z2) z3)).cell 0
  clear k1 o2 b2
  go_wp2_with fail
  rw [rounds_succ]
  go_wp2_with fail
  refine (rput_more w w3 g3 (n + 8 + 8 + 8) c3 a _ o3 (by omega) b3 ha).mono ?_
  rintro e w4 ⟨g4, c4, rfl, o4, z4⟩
  have b4 := bel_tr b3 z4
  clear k0 o3 b3
  go_wp2_with fail
  rw [rounds_succ]
  go_wp2_with fail
  go_ret
  refine ⟨_, rfl, ?_, b4⟩
  have e1 : l ++ longs a b p q = l ++ be 8 q ++ be 8 p ++ be 8 b ++ be 8 a := by simp [longs]
  rw [e1]
  exact o4
end Go.Proofs.YtjleelpnkkeakaaGreatDoor
