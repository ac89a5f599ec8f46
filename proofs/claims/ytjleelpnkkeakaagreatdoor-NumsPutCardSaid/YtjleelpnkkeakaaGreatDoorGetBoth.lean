/-
  The calls of nums that read, and the document's own: both answer the same.
-/
import Derived.Test.YtjleelpnkkeakaaGreatDoorRefGet
import Derived.Test.YtjleelpnkkeakaaGreatDoorTwin
import Derived.Test.YtjleelpnkkeakaaGreatDoorBkApart
namespace Go.Proofs.YtjleelpnkkeakaaGreatDoor
open Go.RowKit
attribute [local go_sem ↓] Go.wp_at_zero Go.wp_at_succ

theorem get_both (kk : Int) (n : Nat) (l : List Nat) (hb : ∀ y ∈ l, y < 256) : ∃ r s : Int, ∀ (A : Option Addr) (c : Nat) (w : World), n ≤ c → c ≤ 9223372036854775807 → Rd w A n (bs l) →
    Calls Tryz.prog 17 #[.slice A n c, .int .i64 kk] w (fun e w' => e = .returned (.tuple #[.int .u64 r, .int .i64 s]) ∧ w = w') ∧
    Calls Tryz.prog 18 #[.slice A n c, .int .i64 kk] w (fun e w' => e = .returned (.tuple #[.int .u64 r, .int .i64 s]) ∧ w = w') := by
  by_cases h0 : kk < 0
  · exact ⟨0, 1, fun A c w _ _ _ => ⟨get_low A n c kk w h0, rget_low A n c kk w h0⟩⟩
  by_cases h8 : 8 < kk
  · exact ⟨0, 1, fun A c w _ _ _ => ⟨get_high A n c kk w h8, rget_high A n c kk w h8⟩⟩
  obtain ⟨k, rfl⟩ : ∃ k : Nat, kk = (k : Int) := ⟨kk.toNat, by omega⟩
  by_cases hk : n < k
  · exact ⟨0, 5, fun A c w _ _ _ => ⟨get_short A n c k w (by omega) hk, rget_short A n c k w (by omega) hk⟩⟩
  · exact ⟨_, 0, fun A c w hc hm hr => ⟨get_ok A n c k l w (by omega) (by omega) hc hm hr hb, rget_ok A n c k l w (by omega) (by omega) hc hm hr hb⟩⟩

theorem getLong_both (n : Nat) (l : List Nat) (hb : ∀ y ∈ l, y < 256) : ∃ a b p q s : Int, ∀ (A : Option Addr) (c : Nat) (w : World), n ≤ c → c ≤ 9223372036854775807 → Rd w A n (bs l) →
    Calls Tryz.prog 19 #[.slice A n c] w (fun e w' => e = .returned (.tuple #[.agg #[.int .u64 a, .int .u64 b, .int .u64 p, .int .u64 q], .int .i64 s]) ∧ Below w.heap.size w w') ∧
    Calls Tryz.prog 20 #[.slice A n c] w (fun e w' => e = .returned (.tuple #[.agg #[.int .u64 a, .int .u64 b, .int .u64 p, .int .u64 q], .int .i64 s]) ∧ Below w.heap.size w w') := by
  by_cases h : n < 32
  · exact ⟨0, 0, 0, 0, 5, fun A c w _ _ _ => ⟨getLong_short A n c w h, rgetLong_short A n c w h⟩⟩
  · exact ⟨_, _, _, _, 0, fun A c w hc hm hr => ⟨getLong_ok A n c l w (by omega) hc hm hr hb, rgetLong_ok A n c l w (by omega) hc hm hr hb⟩⟩

theorem getBytes_both (n : Nat) (l : List Nat) (hn : n ≤ 8388608) (hb : ∀ y ∈ l, y < 256) : ∃ (m : Nat) (t s : Int) (xs : List Nat), m ≤ n ∧ ∀ (A : Option Addr) (c : Nat) (w : World), n ≤ c → c ≤ 9223372036854775807 → Rd w A n (bs l) →
    Calls Tryz.prog 21 #[.slice A n c] w (fun e w' => ∃ v, e = .returned (.tuple #[v, .int .i64 t, .int .i64 s]) ∧ w'.ownsRow w.heap.size 5 1 v m (bs xs) ∧ Below w.heap.size w w') ∧
    Calls Tryz.prog 22 #[.slice A n c] w (fun e w' => ∃ v, e = .returned (.tuple #[v, .int .i64 t, .int .i64 s]) ∧ w'.ownsRow w.heap.size 5 1 v m (bs xs) ∧ Below w.heap.size w w') := by
  have nil : ∀ (e : Ending) (w w' : World), e = .returned (.tuple #[.slice none 0 0, .int .i64 0, .int .i64 5]) ∧ w = w' → ∃ v, e = .returned (.tuple #[v, .int .i64 0, .int .i64 5]) ∧ w'.ownsRow w.heap.size 5 1 v 0 (bs []) ∧ Below w.heap.size w w' := by
    rintro e w w' ⟨rfl, rfl⟩
    exact ⟨_, rfl, World.ownsRow_nil _ _ _ _, Below.refl _ _⟩
  by_cases h : n < 4
  · exact ⟨0, 0, 5, [], Nat.zero_le _, fun A c w _ _ _ => ⟨(getBytes_four A n c w h).mono fun e w' => nil e w w', (rgetBytes_four A n c w h).mono fun e w' => nil e w w'⟩⟩
  by_cases h2 : n < 4 + val (l.take 4)
  · exact ⟨0, 0, 5, [], Nat.zero_le _, fun A c w hc hm hr => ⟨(getBytes_short A n c _ l w (by omega) hn hc hm hr hb rfl h2).mono fun e w' => nil e w w', (rgetBytes_short A n c _ l w (by omega) hn hc hm hr hb rfl h2).mono fun e w' => nil e w w'⟩⟩
  · exact ⟨val (l.take 4), _, 0, _, by omega, fun A c w hc hm hr => ⟨getBytes_ok A n c _ l w (by omega) hn hc hm hr hb rfl (by omega), rgetBytes_ok A n c _ l w (by omega) hn hc hm hr hb rfl (by omega)⟩⟩

theorem beyond1_yes (W : Option Addr) (d : Nat) (a : Nat) (w : World) (ha : a ≤ 140737488355328) (hr : Rd w W 1 (is [(a : Int)])) (h : 1048576 < a) :
    Calls Tryz.prog 5 #[.slice W 1 d] w fun e w' => e = .returned (.bool true) ∧ w = w' := by
  obtain ⟨g, off, rfl, hgs, hcell⟩ := hr.spot (show 0 < 1 by omega)
  have h1 : w.cell? ⟨g, off, none⟩ = some (.int .i64 (a : Int)) := hcell 0 _ rfl
  clear hcell hr
  go_enter Tryz.func5, Tryz.ntmps5
  go_wp2
  refine wp_loop_rounds 3 ?_
  rw [rounds_succ]
  go_wp2
  go_ret
  exact ⟨rfl, rfl⟩

theorem beyond1_no (W : Option Addr) (d : Nat) (a : Nat) (w : World) (hr : Rd w W 1 (is [(a : Int)])) (h : a ≤ 1048576) :
    Calls Tryz.prog 5 #[.slice W 1 d] w fun e w' => e = .returned (.bool false) ∧ w = w' := by
  obtain ⟨g, off, rfl, hgs, hcell⟩ := hr.spot (show 0 < 1 by omega)
  have h1 : w.cell? ⟨g, off, none⟩ = some (.int .i64 (a : Int)) := hcell 0 _ rfl
  clear hcell hr
  go_enter Tryz.func5, Tryz.ntmps5
  go_wp2
  refine wp_loop_rounds 3 ?_
  rw [rounds_succ]
  go_wp2
  rw [rounds_succ]
  go_wp2
  go_ret
  exact ⟨rfl, rfl⟩

theorem eqNum (a b c d : Int) (w : World) : (Op.equalIn 10000 25 (.agg #[.int .u64 a, .int .u64 b, .int .u64 c, .int .u64 d]) (.agg #[.int .u64 a, .int .u64 b, .int .u64 c, .int .u64 d])).run Tryz.prog w = .ok true w := by
  have u3 := Tryz.underlying23
  have a3 := Tryz.isAgg23
  have z3 := Tryz.sizeOf23
  rw [show (10000 : Nat) = 9999 + 1 from rfl, Op.equalIn]
  simp only [Sem.run_bind, run_underlying Tryz.underlying25, Result.andThen_ok]
  simp only [Std.Legacy.Range.forIn_eq_forIn_range', Std.Legacy.Range.size, Nat.sub_zero, Nat.add_sub_cancel, Nat.div_one, List.range'_succ, List.range'_zero, List.forIn_cons, List.forIn_nil]
  go_simp

theorem At.on {W w : World} {g : Nat} {t : TypeId} {cs : Array Value} (h : At W g t cs) (hb : Below W.heap.size W w) : At w g t cs := (hb.block g h.lt).trans h
theorem own_on {W w : World} {N base n : Nat} {e : TypeId} {v : Value} {xs : List Value} (h : W.ownsRow base e 1 v n xs) (hb : Below W.heap.size W w) (hN : N ≤ base) : w.ownsRow N e 1 v n xs := by
  rcases own_cases h with ⟨rfl, rfl, rfl⟩ | ⟨g, c, rfl⟩
  · exact World.ownsRow_nil _ _ _ _
  · obtain ⟨cur, hg, hbg, hn, hc, hs, ht⟩ := own_at h
    have := at_own (base := N) (n := n) (c := c) (hg.on hb) (by omega) hn hc hs
    rwa [ht] at this
theorem bel_tr {a b c : World} (h : Below a.heap.size a b) (k : Below b.heap.size b c) : Below a.heap.size a c := h.trans (k.mono h.size)
theorem own_rd {w : World} {base n : Nat} {A : Option Addr} {c : Nat} {xs : List Value} (h : w.ownsRow base 5 1 (.slice A n c) n xs) : Rd w A n xs := Rd.own h
end Go.Proofs.YtjleelpnkkeakaaGreatDoor
