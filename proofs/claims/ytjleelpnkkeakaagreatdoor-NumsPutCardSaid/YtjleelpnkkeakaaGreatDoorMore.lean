/-
  nums.PutBytes, GetBytes, GetLong: what they answer.
-/
import Derived.Test.YtjleelpnkkeakaaGreatDoorCalls
import Derived.Laws.AppendOwnNone
namespace Go.Proofs.YtjleelpnkkeakaaGreatDoor
open Go.RowKit

/-- append onto a row of the call's own, from a slice that reads as a list, nil too -/
theorem wpList_append_rd {P : Program} (w : World) {ops : Array Oper} {rest : List Oper} {o : Oper} {a : Act} {Q : Exit → Act → World → Prop} (hgd : o.guard = none) (s x : Operand) (t : TypeId)
    (ho : o.op = .call { callee := .builtin .append, args := #[s, x], argTypes := #[t, t] })
    (base : Nat) (e : TypeId) (i : TypeInfo) (z : Value) (bytes : Nat) (ht : P.underlying t = some (.slice e)) (hi : P.info? e = some i) (hz : i.zero = some z)
    (hsize : i.size = 1) (hby : i.bytes = bytes) (hzs : z.cells.size = 1)
    (v : Value) (n : Nat) (xs : List Value) (hs : a.eval s = v) (hown : w.ownsRow base e 1 v n xs)
    (A : Option Addr) (m c : Nat) (news : List Value) (hx : a.eval x = .slice A m c) (hnil : A = none → m = 0 ∧ c = 0) (hr : Rd w A m news) (h1 : ∀ u ∈ news, u.oneCell' = true)
    (h63 : n + m ≤ maxLen) (hbytes : (n + m) * bytes ≤ 140737488355328) (hbase : base ≤ w.heap.size)
    (h : ∀ v' w', w'.ownsRow base e 1 v' (n + m) (xs ++ news) → w.grownBy w' v.ownBlock → wpList P ops Q rest (a.put o.dst v') w') :
    wpList P ops Q (o :: rest) a w := by
  cases A with
  | none =>
    obtain ⟨rfl, rfl⟩ := hnil rfl
    have hn : news = [] := List.eq_nil_of_length_eq_zero hr.1
    subst hn
    exact wpList_append_own_none hgd s x t ho base e i 1 ht hi v n xs hs hown hx (h v w (by simpa using hown) (World.grownBy.refl _ _))
  | some ad => exact wpList_append_own w hgd s x t ho base e i z 1 bytes ht hi hz hsize hby hzs (by decide) v n xs hs hown ad m c news hx (by rw [hr.1, Nat.mul_one]) (hr.src ad rfl) h1 h63 hbytes hbase fun v' w' h2 h3 _ => h v' w' h2 h3

theorem own_base {w : World} {base g : Nat} {e : TypeId} {n c : Nat} {xs : List Value} {v : Value} (h : w.ownsRow base e 1 v n xs) (hv : v = .slice (some ⟨g, 0, none⟩) n c) : base ≤ w.heap.size := by
  have := h.lt g (by rw [hv]; rfl)
  omega

def putB (l : List Nat) : List Nat := be 4 l.length ++ l

theorem putBytes_any (A L : Option Addr) (n c m d : Nat) (b l : List Nat) (w : World) (hn : n ≤ 4194000) (hc : n ≤ c) (hnil : A = none → n = 0 ∧ c = 0) (hr : Rd w A n (bs b))
    (hm : m ≤ 4194000) (hnil' : L = none → m = 0 ∧ d = 0) (hl : Rd w L m (bs l)) :
    Calls Tryz.prog 9 #[.slice A n c, .slice L m d] w fun e w' => ∃ v, e = .returned v ∧ w'.ownsRow (w.heap.size + 1) 5 1 v (n + (4 + m)) (bs (b ++ putB l)) ∧ Below w.heap.size w w' := by
  obtain ⟨i0, hi, hz0, hz1, hz2⟩ := info_parts Tryz.info5
  have H := Lib.hid (put_any A n c 4 m 4 b w (by omega) (by omega) hc hnil hr (by omega))
  have hlen := Lib.hid hl.1
  go_enter Tryz.func9, Tryz.ntmps9
  go_wp2_with (first | (go_at_call 7; refine H.out.mono ?_; rintro e w1 ⟨rfl, hown, hb⟩) | (at_builtin; refine wpList_append_rd _ rfl (.tmp 9) (.tmp 10) 22 rfl (w.heap.size + 1) 5 i0 (.int .u8 0) 1 Tryz.underlying22 hi hz0 hz1 hz2 rfl (.slice (some ⟨w.heap.size + 1, 0, none⟩) (n + 4) (n + 4)) (n + 4) _ rfl hown L m d (bs l) rfl hnil' (hl.below hb) (bs_one l) (by unfold maxLen; omega) (by omega) (own_base hown rfl) ?_; intro v w2 hown2 hgrow2))
  go_ret
  refine ⟨v, rfl, ?_, hb.grown hgrow2 hb.size (by simp [Value.ownBlock])⟩
  have e1 : b ++ putB l = (b ++ be 4 m) ++ l := by
    have := hlen.out
    rw [bs_len] at this
    simp [putB, this]
  rw [e1, bs_append (b ++ be 4 m), ← Nat.add_assoc]
  exact hown2

theorem getBytes_four (A : Option Addr) (n c : Nat) (w : World) (h : n < 4) :
    Calls Tryz.prog 21 #[.slice A n c] w fun e w' => e = .returned (.tuple #[.slice none 0 0, .int .i64 0, .int .i64 5]) ∧ w = w' := by
  have H := Lib.hid (get_short A n c 4 w (by omega) h)
  go_enter Tryz.func21, Tryz.ntmps21
  go_wp2_with (go_at_call 17; refine H.out.mono ?_; rintro e w1 ⟨rfl, rfl⟩)
  go_ret3
  exact ⟨rfl, rfl⟩

theorem getBytes_ok (A : Option Addr) (n c m : Nat) (l : List Nat) (w : World) (h : 4 ≤ n) (hn : n ≤ 8388608) (hc : n ≤ c) (hm : c ≤ 9223372036854775807) (hr : Rd w A n (bs l)) (hb : ∀ y ∈ l, y < 256) (hv : val (l.take 4) = m) (hmn : 4 + m ≤ n) :
    Calls Tryz.prog 21 #[.slice A n c] w fun e w' => ∃ v, e = .returned (.tuple #[v, .int .i64 (4 + m : Nat), .int .i64 0]) ∧ w'.ownsRow w.heap.size 5 1 v m (bs ((l.drop 4).take m)) ∧ Below w.heap.size w w' := by
  have H := Lib.hid (get_ok A n c 4 l w (by omega) h hc hm hr hb)
  rw [hv] at H
  clear hv
  obtain ⟨i0, hi, hz0, hz1, hz2⟩ := info_parts Tryz.info5
  obtain ⟨b, off, rfl, hbs, hcell⟩ := hr.spot (show 0 < n by omega)
  have hd : decide (n - 4 < m) = false := by simp; omega
  by_cases hc4 : c = 4
  · subst hc4
    obtain rfl : m = 0 := by omega
    have hr0 : Rd w (some ⟨b, off, none⟩) 0 (bs ((l.drop 4).take 0)) := by simpa [bs] using Rd.nil w (some ⟨b, off, none⟩)
    clear hr hcell hb
    go_enter Tryz.func21, Tryz.ntmps21
    go_wp2_with (first | (go_at_call 17; refine H.out.mono ?_; rintro e w1 ⟨rfl, rfl⟩) | (at_builtin; refine wpList_append_rd _ rfl (.const (.slice none 0 0)) (.tmp 24) 22 rfl w.heap.size 5 i0 (.int .u8 0) 1 Tryz.underlying22 hi hz0 hz1 hz2 rfl (.slice none 0 0) 0 [] rfl (World.ownsRow_nil _ _ _ _) (some ⟨b, off, none⟩) 0 0 _ rfl (by simp) hr0 (bs_one _) (by unfold maxLen; omega) (by omega) (Nat.le_refl _) ?_; intro v w2 hown2 hgrow2; obtain ⟨V, cv, rfl, _, _⟩ := own_form hown2))
    go_ret3
    exact ⟨.slice V 0 cv, by simp, by simpa using hown2, (Below.refl _ _).grown hgrow2 (Nat.le_refl _) (by simp [Value.ownBlock])⟩
  · have hr0 : Rd w (some ⟨b, off + 4, none⟩) m (bs ((l.drop 4).take m)) := by
      have hll := hr.1
      rw [bs_len] at hll
      refine ⟨by rw [bs_len, List.length_take, List.length_drop]; omega, fun _ => ⟨b, off + 4, rfl, hbs, fun j u hu => ?_⟩⟩
      rw [Nat.add_assoc]
      refine hcell (4 + j) u ?_
      simp only [bs, List.map_take, List.map_drop, List.getElem?_take, List.getElem?_drop] at hu
      split at hu
      · exact hu
      · cases hu
    clear hr hcell hb
    go_enter Tryz.func21, Tryz.ntmps21
    go_wp2_with (first | (go_at_call 17; refine H.out.mono ?_; rintro e w1 ⟨rfl, rfl⟩) | (at_builtin; refine wpList_append_rd _ rfl (.const (.slice none 0 0)) (.tmp 24) 22 rfl w.heap.size 5 i0 (.int .u8 0) 1 Tryz.underlying22 hi hz0 hz1 hz2 rfl (.slice none 0 0) 0 [] rfl (World.ownsRow_nil _ _ _ _) (some ⟨b, off + 4, none⟩) m (c - 4) _ rfl (by simp) hr0 (bs_one _) (by unfold maxLen; omega) (by omega) (Nat.le_refl _) ?_; intro v w2 hown2 hgrow2; obtain ⟨V, cv, rfl, _, _⟩ := own_form hown2))
    go_ret3
    exact ⟨.slice V m cv, by simp, by simpa using hown2, (Below.refl _ _).grown hgrow2 (Nat.le_refl _) (by simp [Value.ownBlock])⟩

theorem getBytes_short (A : Option Addr) (n c m : Nat) (l : List Nat) (w : World) (h : 4 ≤ n) (hn : n ≤ 8388608) (hc : n ≤ c) (hm : c ≤ 9223372036854775807) (hr : Rd w A n (bs l)) (hb : ∀ y ∈ l, y < 256) (hv : val (l.take 4) = m) (hmn : n < 4 + m) :
    Calls Tryz.prog 21 #[.slice A n c] w fun e w' => e = .returned (.tuple #[.slice none 0 0, .int .i64 0, .int .i64 5]) ∧ w = w' := by
  have H := Lib.hid (get_ok A n c 4 l w (by omega) h hc hm hr hb)
  rw [hv] at H
  clear hv
  obtain ⟨b, off, rfl, hbs, hcell⟩ := hr.spot (show 0 < n by omega)
  have hd : decide (n - 4 < m) = true := by simp; omega
  clear hr hcell hb
  by_cases hc4 : c = 4
  · subst hc4
    obtain rfl : n = 4 := by omega
    have hd : ((0 : Int) < (m : Int)) := by omega
    go_enter Tryz.func21, Tryz.ntmps21
    go_wp2_with (go_at_call 17; refine H.out.mono ?_; rintro e w1 ⟨rfl, rfl⟩)
    go_ret3
    exact ⟨rfl, rfl⟩
  · go_enter Tryz.func21, Tryz.ntmps21
    go_wp2_with (go_at_call 17; refine H.out.mono ?_; rintro e w1 ⟨rfl, rfl⟩)
    go_ret3
    exact ⟨rfl, rfl⟩

theorem getLong_short (A : Option Addr) (n c : Nat) (w : World) (h : n < 32) :
    Calls Tryz.prog 19 #[.slice A n c] w fun e w' => e = .returned (.tuple #[.agg #[.int .u64 0, .int .u64 0, .int .u64 0, .int .u64 0], .int .i64 5]) ∧ Below w.heap.size w w' := by
  go_enter Tryz.func19, Tryz.ntmps19
  go_wp2
  exact bodyPost_ret (v := .tuple #[.agg #[.int .u64 0, .int .u64 0, .int .u64 0, .int .u64 0], .int .i64 5]) (by simp [results, Tryz.results19, go_sem]) rfl ⟨rfl, (Below.refl _ _).alloc (Nat.le_refl _) _⟩

/-- a later part of a slice, where the capacity goes beyond it -/
theorem Rd.later {w : World} {b off n k : Nat} {xs : List Value} (h : Rd w (some ⟨b, off, none⟩) n xs) (hk : k < n) : Rd w (some ⟨b, off + k, none⟩) (n - k) (xs.drop k) := by
  have hl := h.1
  refine ⟨by rw [List.length_drop]; omega, fun _ => ?_⟩
  obtain ⟨b', off', e, hb, hc⟩ := h.2 (by omega)
  injection e with e
  injection e with e1 e2
  subst e1 e2
  refine ⟨b, off + k, rfl, hb, fun j u hu => ?_⟩
  rw [List.getElem?_drop] at hu
  rw [Nat.add_assoc]
  exact hc _ u hu

theorem bs_drop (l : List Nat) (k : Nat) : (bs l).drop k = bs (l.drop k) := by simp [bs]

set_option maxHeartbeats 1000000 in
theorem getLong_ok (A : Option Addr) (n c : Nat) (l : List Nat) (w : World) (h : 32 ≤ n) (hc : n ≤ c) (hm : c ≤ 9223372036854775807) (hr : Rd w A n (bs l)) (hb : ∀ y ∈ l, y < 256) :
    Calls Tryz.prog 19 #[.slice A n c] w fun e w' => e = .returned (.tuple #[.agg #[.int .u64 (val ((l.drop 24).take 8) : Nat), .int .u64 (val ((l.drop 16).take 8) : Nat), .int .u64 (val ((l.drop 8).take 8) : Nat), .int .u64 (val (l.take 8) : Nat)], .int .i64 0]) ∧ Below w.heap.size w w' := by
  obtain ⟨b, off, rfl, hbs, hcell⟩ := hr.spot (show 0 < n by omega)
  have hdr : ∀ k, ∀ y ∈ l.drop k, y < 256 := fun k y hy => hb y (List.mem_of_mem_drop hy)
  have g0 : ∀ W, Below w.heap.size w W → Calls Tryz.prog 17 #[.slice (some ⟨b, off, none⟩) n c, .int .i64 8] W fun e w' => e = .returned (.tuple #[.int .u64 (val (l.take 8) : Nat), .int .i64 0]) ∧ W = w' :=
    fun W hW => get_ok _ n c 8 l W (by omega) (by omega) hc hm (hr.below hW) hb
  have g1 : ∀ W, Below w.heap.size w W → Calls Tryz.prog 17 #[.slice (some ⟨b, off + 8, none⟩) (n - 8) (c - 8), .int .i64 8] W fun e w' => e = .returned (.tuple #[.int .u64 (val ((l.drop 8).take 8) : Nat), .int .i64 0]) ∧ W = w' :=
    fun W hW => get_ok _ _ _ 8 (l.drop 8) W (by omega) (by omega) (by omega) (by omega) (by rw [← bs_drop]; exact ((hr.below hW).later (by omega))) (hdr 8)
  have g2 : ∀ W, Below w.heap.size w W → Calls Tryz.prog 17 #[.slice (some ⟨b, off + 16, none⟩) (n - 16) (c - 16), .int .i64 8] W fun e w' => e = .returned (.tuple #[.int .u64 (val ((l.drop 16).take 8) : Nat), .int .i64 0]) ∧ W = w' :=
    fun W hW => get_ok _ _ _ 8 (l.drop 16) W (by omega) (by omega) (by omega) (by omega) (by rw [← bs_drop]; exact ((hr.below hW).later (by omega))) (hdr 16)
  have g3 : ∀ W, Below w.heap.size w W → Calls Tryz.prog 17 #[.slice (some ⟨b, off + 24, none⟩) (n - 24) (c - 24), .int .i64 8] W fun e w' => e = .returned (.tuple #[.int .u64 (val ((l.drop 24).take 8) : Nat), .int .i64 0]) ∧ W = w' :=
    fun W hW => get_ok _ _ _ 8 (l.drop 24) W (by omega) (by omega) (by omega) (by omega) (by rw [← bs_drop]; exact ((hr.below hW).later (by omega))) (hdr 24)
  have G0 := Lib.hid g0
  have G1 := Lib.hid g1
  have G2 := Lib.hid g2
  have G3 := Lib.hid g3
  have hn8 : ¬ c = 8 := by omega
  have hn16 : ¬ c = 16 := by omega
  have hn24 : ¬ c = 24 := by omega
  have hn0 : ¬ c = 0 := by omega
  have hb2 : ∀ (o o' : Obj), Below w.heap.size w ((w.alloc o).alloc o') := fun o o' => ((Below.refl _ _).alloc (Nat.le_refl _) o).alloc (by simp) o'
  have HB := Lib.hid hb2
  clear g0 g1 g2 g3 hdr hr hcell hb hb2
  go_enter Tryz.func19, Tryz.ntmps19
  go_wp2
  refine wp_loop_rounds 5 ?_
  rw [rounds_succ]
  go_wp2_with (go_at_call 17; refine (G0.out _ (HB.out _ _)).mono ?_; rintro e w1 ⟨rfl, rfl⟩)
  rw [rounds_succ]
  go_wp2_with (go_at_call 17; refine (G1.out _ (HB.out _ _)).mono ?_; rintro e w1 ⟨rfl, rfl⟩)
  rw [rounds_succ]
  go_wp2_with (go_at_call 17; refine (G2.out _ (HB.out _ _)).mono ?_; rintro e w1 ⟨rfl, rfl⟩)
  rw [rounds_succ]
  go_wp2_with (go_at_call 17; refine (G3.out _ (HB.out _ _)).mono ?_; rintro e w1 ⟨rfl, rfl⟩)
  rw [rounds_succ]
  go_wp2
  exact bodyPost_ret (v := .tuple #[.agg #[.int .u64 (val ((l.drop 24).take 8) : Nat), .int .u64 (val ((l.drop 16).take 8) : Nat), .int .u64 (val ((l.drop 8).take 8) : Nat), .int .u64 (val (l.take 8) : Nat)], .int .i64 0]) (by simp [results, Tryz.results19, go_sem]) rfl ⟨rfl, HB.out _ _⟩
end Go.Proofs.YtjleelpnkkeakaaGreatDoor
