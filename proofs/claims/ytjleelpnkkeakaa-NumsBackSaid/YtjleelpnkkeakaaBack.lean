/-
  The walk of NumsBack: it answers true, and nothing that was there is changed.
-/
import Derived.Test.YtjleelpnkkeakaaJoin
import Derived.Test.YtjleelpnkkeakaaLex
import Derived.ArgAppend
namespace Go.Proofs.Ytjleelpnkkeakaa
open Go.RowKit
attribute [local go_sem ↓] Go.wp_at_zero Go.wp_at_succ

theorem ahead {w : World} {g n m : Nat} {a b : List Nat} (h : Rd w (some ⟨g, 0, none⟩) (n + m) (bs (a ++ b))) (ha : a.length = n) : Rd w (some ⟨g, 0, none⟩) n (bs a) := by
  have := h.take (k := n) (by omega)
  rw [bs_append, List.take_append_of_le_length (by rw [bs_len]; omega), List.take_of_length_le (by rw [bs_len]; omega)] at this
  exact this

theorem clamp_is (kk : Int) (k : Nat) (hk : (kk < 0 ∧ k = 0) ∨ (0 ≤ kk ∧ kk ≤ 8 ∧ kk = k) ∨ (8 < kk ∧ k = 8)) :
    ∃ mm : Int, (if 0 < kk then kk else (0 : Int)) = mm ∧ (if mm < 8 then mm else 8) = (k : Int) := by
  rcases hk with ⟨h1, rfl⟩ | ⟨h1, h2, h3⟩ | ⟨h1, rfl⟩
  · exact ⟨0, if_neg (by omega), rfl⟩
  · refine ⟨kk, ?_, ?_⟩ <;> split <;> omega
  · exact ⟨kk, if_pos (by omega), if_neg (by omega)⟩

/-- what stands while the last statements are reckoned -/
def Keep (w w0 : World) (N : Nat) (T U A1 : Option Addr) (k n1 : Nat) (xs ys l1 : List Nat) (x a b p q : Nat) : Prop :=
  Rd w T k (bs xs) ∧ Rd w U 32 (bs ys) ∧ Rd w A1 n1 (bs l1) ∧ w.cell? ⟨N, 0, none⟩ = some (.int .u64 x) ∧ w.cell? ⟨N, 2, none⟩ = some (.int .u64 a) ∧ w.cell? ⟨N, 3, none⟩ = some (.int .u64 b) ∧
    w.cell? ⟨N, 4, none⟩ = some (.int .u64 p) ∧ w.cell? ⟨N, 5, none⟩ = some (.int .u64 q) ∧ Below w0.heap.size w0 w
theorem Keep.on {W w w0 : World} {N : Nat} {T U A1 : Option Addr} {k n1 : Nat} {xs ys l1 : List Nat} {x a b p q : Nat} (h : Keep W w0 N T U A1 k n1 xs ys l1 x a b p q) (hb : Below W.heap.size W w) : Keep w w0 N T U A1 k n1 xs ys l1 x a b p q := by
  obtain ⟨h1, h2, h3, h4, h5, h6, h7, h8, h9⟩ := h
  exact ⟨h1.below hb, h2.below hb, h3.below hb, cell_on hb h4, cell_on hb h5, cell_on hb h6, cell_on hb h7, cell_on hb h8, bel_tr h9 hb⟩
theorem keep_on {W w w0 : World} {N : Nat} {T U A1 : Option Addr} {k n1 : Nat} {xs ys l1 : List Nat} {x a b p q : Nat} {ad : Addr} {v : Value} (h : W.cell? ad = some v ∧ Keep W w0 N T U A1 k n1 xs ys l1 x a b p q) (hb : Below W.heap.size W w) :
    w.cell? ad = some v ∧ Keep w w0 N T U A1 k n1 xs ys l1 x a b p q := ⟨cell_on hb h.1, h.2.on hb⟩
theorem keep_al {W w0 : World} {N : Nat} {T U A1 : Option Addr} {k n1 : Nat} {xs ys l1 : List Nat} {x a b p q : Nat} {ad : Addr} {v : Value} {o : Obj} (h : W.cell? ad = some v ∧ Keep W w0 N T U A1 k n1 xs ys l1 x a b p q) :
    (W.alloc o).cell? ad = some v ∧ Keep (W.alloc o) w0 N T U A1 k n1 xs ys l1 x a b p q := keep_on h ((Below.refl _ _).alloc (Nat.le_refl _) o)

/-- append onto a slice that is full: the new one reads as both -/
theorem run_append_full {P : Program} (w : World) (t ty e : TypeId) (i : TypeInfo) (z : Value) (ht : P.underlying t = some (.slice e)) (hi : P.info? e = some i) (hz : i.zero = some z)
    (hsize : i.size = 1) (hby : i.bytes = 1) (hzs : z.cells.size = 1) (ad : Addr) (n m c : Nat) (B : Option Addr) (olds news : List Value)
    (hold : Rd w (some ad) n olds) (hnew : Rd w B m news) (hnil : B = none → m = 0 ∧ c = 0) (hn : n + m ≤ 16777216) :
    ∃ A' c' w', (Builtin.append_ #[t, t] ty #[.slice (some ad) n n, .slice B m c]).run P w = .ok (.slice A' (n + m) c') w' ∧ Rd w' A' (n + m) (olds ++ news) ∧ n + m ≤ c' ∧ c' ≤ 9223372036854775807 ∧ Below w.heap.size w w' := by
  rcases Nat.eq_zero_or_pos m with rfl | hm
  · have hl : news = [] := List.eq_nil_of_length_eq_zero hnew.1
    subst hl
    refine ⟨some ad, n, w, ?_, by simpa using hold, Nat.le_refl _, by omega, Below.refl _ _⟩
    cases B <;> simp [Builtin.append_, run_underlying ht, sizeOf, typeInfo, hi, Builtin.lenOf, Builtin.firstCells, storeCells, loadCellsFrom, loadCells]
  · obtain ⟨b, off, rfl, hb, hc⟩ := hnew.2 hm
    obtain ⟨v', w', hrun, ho, hg⟩ := run_append_arg_grows (P := P) w t ty e i z 1 1 ht hi hz hsize hby hzs (by decide) ad n n olds (by rw [hold.1, Nat.mul_one]) (hold.src ad rfl) ⟨b, off, none⟩ m c news (by rw [hnew.1, Nat.mul_one]) (hnew.src _ rfl) (by omega) (by unfold maxLen; omega) (by omega)
    obtain ⟨A', c', rfl, h1, h2⟩ := own_form ho
    exact ⟨A', c', w', hrun, Rd.own ho, h1, by unfold maxLen at h2; omega, (Below.refl _ _).grown hg (Nat.le_refl _) (by simp)⟩

theorem step_append_full {P : Program} {w : World} {ops : Array Oper} {o : Oper} {a : Act} {K : Act → World → Prop} {Q : Exit → Act → World → Prop} {E : Prop} (hgd : o.guard = none) (s x : Operand) (t : TypeId)
    (ho : o.op = .call { callee := .builtin .append, args := #[s, x], argTypes := #[t, t] })
    (e : TypeId) (i : TypeInfo) (z : Value) (ht : P.underlying t = some (.slice e)) (hi : P.info? e = some i) (hz : i.zero = some z)
    (hsize : i.size = 1) (hby : i.bytes = 1) (hzs : z.cells.size = 1) (ad : Addr) (n m c : Nat) (B : Option Addr) (olds news : List Value)
    (hs : a.eval s = .slice (some ad) n n) (hx : a.eval x = .slice B m c)
    (hold : Rd w (some ad) n olds) (hnew : Rd w B m news) (hnil : B = none → m = 0 ∧ c = 0) (hn : n + m ≤ 16777216)
    (h : ∀ A' c' w', Rd w' A' (n + m) (olds ++ news) → n + m ≤ c' → c' ≤ 9223372036854775807 → Below w.heap.size w w' → K (a.put o.dst (.slice A' (n + m) c')) w') :
    if Region.wanted o (yielded ops a.tmps) = true then Oper.wp P o a w K Q else E := by
  have hw : Region.wanted o (yielded ops a.tmps) = true := by simp [Region.wanted, hgd]
  rw [if_pos hw]
  obtain ⟨A', c', w', hrun, h1, h2, h3, h4⟩ := run_append_full (P := P) w t o.type e i z ht hi hz hsize hby hzs ad n m c B olds news hold hnew hnil hn
  unfold Oper.wp execOp
  simp only [ho, resolve, invoke, builtin, Sem.run_bind, Sem.run_pure, Result.andThen_ok, List.map_toArray, List.map_cons, List.map_nil, hs, hx, hrun]
  exact h A' c' w' h1 h2 h3 h4

theorem kp2 {W w0 : World} {N : Nat} {T U A1 : Option Addr} {k n1 : Nat} {xs ys l1 : List Nat} {x a b p q : Nat} {ad : Addr} {v : Value} (h : W.cell? ad = some v ∧ Keep W w0 N T U A1 k n1 xs ys l1 x a b p q) : Rd W U 32 (bs ys) := h.2.2.1
theorem kp3 {W w0 : World} {N : Nat} {T U A1 : Option Addr} {k n1 : Nat} {xs ys l1 : List Nat} {x a b p q : Nat} {ad : Addr} {v : Value} (h : W.cell? ad = some v ∧ Keep W w0 N T U A1 k n1 xs ys l1 x a b p q) : Rd W A1 n1 (bs l1) := h.2.2.2.1

theorem longs_parts (a b p q : Nat) (r : List Nat) (ha : a < 18446744073709551616) (hb : b < 18446744073709551616) (hp : p < 18446744073709551616) (hq : q < 18446744073709551616) :
    val ((longs a b p q ++ r).take 8) = q ∧ val (((longs a b p q ++ r).drop 8).take 8) = p ∧ val (((longs a b p q ++ r).drop 16).take 8) = b ∧ val (((longs a b p q ++ r).drop 24).take 8) = a := by
  have v8 : ∀ y, y < 18446744073709551616 → val (be 8 y) = y := fun y hy => by rw [val_be]; exact Nat.mod_eq_of_lt (by omega)
  have cut : ∀ (y : Nat) (r : List Nat), (be 8 y ++ r).take 8 = be 8 y := fun y r => by
    have h8 : (be 8 y).length = 8 := be_len 8 y
    rw [List.take_append_of_le_length (by omega), List.take_of_length_le (by omega)]
  have fall : ∀ (y k : Nat) (r : List Nat), (be 8 y ++ r).drop (8 + k) = r.drop k := fun y k r => by
    have h8 : (be 8 y).length = 8 := be_len 8 y
    have h0 : (be 8 y ++ r).drop 8 = r := by rw [List.drop_append_of_le_length (by omega), List.drop_of_length_le (by omega), List.nil_append]
    rw [← List.drop_drop, h0]
  unfold longs
  simp only [List.append_assoc]
  refine ⟨by rw [cut, v8 q hq], ?_, ?_, ?_⟩
  · rw [show (8 : Nat) = 8 + 0 from rfl, fall]; simp only [List.drop_zero]; rw [cut, v8 p hp]
  · rw [show (16 : Nat) = 8 + (8 + 0) from rfl, fall, fall]; simp only [List.drop_zero]; rw [cut, v8 b hb]
  · rw [show (24 : Nat) = 8 + (8 + (8 + 0)) from rfl, fall, fall, fall]; simp only [List.drop_zero]; rw [cut, v8 a ha]

theorem getLong_back (A : Option Addr) (c n1 a b p q : Nat) (l1 : List Nat) (w : World) (hn : n1 ≤ 1048576) (hc : 32 + n1 ≤ c) (hm : c ≤ 9223372036854775807) (hr : Rd w A (32 + n1) (bs (longs a b p q ++ l1))) (hl : ∀ y ∈ l1, y < 256)
    (ha : a < 18446744073709551616) (hb : b < 18446744073709551616) (hp : p < 18446744073709551616) (hq : q < 18446744073709551616) :
    Calls Try.prog 12 #[.slice A (32 + n1) c] w fun e w' => e = .returned (.tuple #[.agg #[.int .u64 a, .int .u64 b, .int .u64 p, .int .u64 q], .int .i64 0]) ∧ Below w.heap.size w w' := by
  obtain ⟨e1, e2, e3, e4⟩ := longs_parts a b p q l1 ha hb hp hq
  have := getLong_ok A (32 + n1) c (longs a b p q ++ l1) w (by omega) hc hm hr (fun y hy => by
    rcases List.mem_append.1 hy with h | h
    · simp only [longs, List.mem_append] at h
      rcases h with h | h | h | h <;> exact be_lt _ _ y h
    · exact hl y h)
  rwa [e1, e2, e3, e4] at this

/-- a long number's variable, new -/
def Var0 (w : World) (V : Nat) : Prop :=
  w.cell? ⟨V, 0, none⟩ = some (.int .u64 0) ∧ w.cell? ⟨V, 1, none⟩ = some (.int .u64 0) ∧ w.cell? ⟨V, 2, none⟩ = some (.int .u64 0) ∧ w.cell? ⟨V, 3, none⟩ = some (.int .u64 0) ∧
  w.frozen? ⟨V, 0, none⟩ = false ∧ w.frozen? ⟨V, 1, none⟩ = false ∧ w.frozen? ⟨V, 2, none⟩ = false ∧ w.frozen? ⟨V, 3, none⟩ = false
theorem var0_new (w : World) : Var0 (w.alloc (.cells #[.int .u64 0, .int .u64 0, .int .u64 0, .int .u64 0] 24)) w.heap.size :=
  ⟨box_cell w 24 _ 0, box_cell w 24 _ 1, box_cell w 24 _ 2, box_cell w 24 _ 3, World.frozen?_alloc_at _ _ _ _ rfl, World.frozen?_alloc_at _ _ _ _ rfl, World.frozen?_alloc_at _ _ _ _ rfl, World.frozen?_alloc_at _ _ _ _ rfl⟩
theorem frozen_on {W w : World} {p : Addr} {v : Value} (hb : Below W.heap.size W w) (hc : W.cell? p = some v) (hf : W.frozen? p = false) : w.frozen? p = false := (hb.frozen (World.block_lt_of_cell? W p hc)).trans hf
theorem var0_on {W w : World} {V : Nat} (h : Var0 W V) (hb : Below W.heap.size W w) : Var0 w V := by
  obtain ⟨h0, h1, h2, h3, f0, f1, f2, f3⟩ := h
  exact ⟨cell_on hb h0, cell_on hb h1, cell_on hb h2, cell_on hb h3, frozen_on hb h0 f0, frozen_on hb h1 f1, frozen_on hb h2 f2, frozen_on hb h3 f3⟩
def Four (w : World) (V a b p q : Nat) : Prop :=
  w.cell? ⟨V, 0, none⟩ = some (.int .u64 a) ∧ w.cell? ⟨V, 1, none⟩ = some (.int .u64 b) ∧ w.cell? ⟨V, 2, none⟩ = some (.int .u64 p) ∧ w.cell? ⟨V, 3, none⟩ = some (.int .u64 q)
theorem new_four (w : World) (a b p q : Nat) : Four (w.alloc (.cells #[.int .u64 a, .int .u64 b, .int .u64 p, .int .u64 q] 24)) w.heap.size a b p q :=
  ⟨box_cell w 24 _ 0, box_cell w 24 _ 1, box_cell w 24 _ 2, box_cell w 24 _ 3⟩
theorem set_four {w : World} {V : Nat} (a b p q : Nat) (h : Var0 w V) : Four ((((w.setCell ⟨V, 0, none⟩ (.int .u64 a)).setCell ⟨V, 1, none⟩ (.int .u64 b)).setCell ⟨V, 2, none⟩ (.int .u64 p)).setCell ⟨V, 3, none⟩ (.int .u64 q)) V a b p q := by
  obtain ⟨h0, h1, h2, h3, _⟩ := h
  refine ⟨?_, ?_, ?_, ?_⟩ <;> go_simp
theorem bel_set {B : Nat} {W w : World} (hb : Below B W w) {V : Nat} (hV : B ≤ V) {a b c d : Value} : Below B W ((((w.setCell ⟨V, 0, none⟩ a).setCell ⟨V, 1, none⟩ b).setCell ⟨V, 2, none⟩ c).setCell ⟨V, 3, none⟩ d) :=
  (((hb.setCell hV _).setCell hV _).setCell hV _).setCell hV _

theorem low_bits (x k r : Nat) (hk : k < 8) (hx : x < 18446744073709551616) (hr : x % 256 ^ k = r) : bits BinOp.and IntKind.u64 (x : Int) (IntKind.u64.wrap (IntKind.u64.wrap (2 ^ (8 * k)) - 1)) = (r : Int) := by
  have h1 : (2 : Nat) ^ (8 * k) ≤ 2 ^ 56 := Nat.pow_le_pow_right (by decide) (by omega)
  have h2 : 0 < (2 : Nat) ^ (8 * k) := Nat.two_pow_pos _
  have h3 : (2 : Nat) ^ 56 = 72057594037927936 := by decide
  have e1 : ((2 : Int) ^ (8 * k)) = ((2 ^ (8 * k) : Nat) : Int) := by simp
  have e2 : (256 : Nat) ^ k = 2 ^ (8 * k) := by rw [show (256 : Nat) = 2 ^ 8 from rfl, ← Nat.pow_mul]
  rw [← hr, e2, e1]
  have e3 : IntKind.u64.wrap (IntKind.u64.wrap ((2 ^ (8 * k) : Nat) : Int) - 1) = ((2 ^ (8 * k) - 1 : Nat) : Int) := by
    rw [IntKind.wrap_u64, IntKind.wrap_u64]
    generalize (2 : Nat) ^ (8 * k) = E at *
    omega
  rw [e3, u64_and_nat x _ hx (by omega), Nat.and_two_pow_sub_one_eq_mod]

theorem get_back (A : Option Addr) (c k n1 x r : Nat) (l1 : List Nat) (w : World) (hrr : x % 256 ^ k = r) (h8 : k ≤ 8) (hn : n1 ≤ 1048576) (hc : k + n1 ≤ c) (hm : c ≤ 9223372036854775807) (hr : Rd w A (k + n1) (bs (be k x ++ l1))) (hb : ∀ y ∈ l1, y < 256) :
    Calls Try.prog 11 #[.slice A (k + n1) c, .int .i64 k] w fun e w' => e = .returned (.tuple #[.int .u64 (r : Nat), .int .i64 0]) ∧ w = w' := by
  subst hrr
  have := get_ok A (k + n1) c k (be k x ++ l1) w h8 (by omega) hc hm hr (fun y hy => by
    rcases List.mem_append.1 hy with h | h
    · exact be_lt _ _ y h
    · exact hb y h)
  rwa [List.take_append_of_le_length (by rw [be_len]; exact Nat.le_refl _), List.take_of_length_le (by rw [be_len]; exact Nat.le_refl _), val_be] at this

set_option maxRecDepth 100000 in
set_option maxHeartbeats 6000000 in
theorem back_walk (x : Nat) (kk : Int) (k a b p q : Nat) (A0 A1 : Option Addr) (n0 c0 n1 c1 : Nat) (l0 l1 : List Nat) (w : World)
    (hk : (kk < 0 ∧ k = 0) ∨ (0 ≤ kk ∧ kk ≤ 8 ∧ kk = k) ∨ (8 < kk ∧ k = 8)) (hx : x < 18446744073709551616)
    (ha : a < 18446744073709551616) (hb : b < 18446744073709551616) (hp : p < 18446744073709551616) (hq : q < 18446744073709551616)
    (hn0 : n0 ≤ 140737488355328) (hn1 : n1 ≤ 140737488355328) (hc0 : n0 ≤ c0) (hc1 : n1 ≤ c1) (hm0 : c0 ≤ 9223372036854775807) (hm1 : c1 ≤ 9223372036854775807)
    (hz0 : A0 = none → n0 = 0 ∧ c0 = 0) (hz1 : A1 = none → n1 = 0 ∧ c1 = 0) (hr0 : Rd w A0 n0 (bs l0)) (hr1 : Rd w A1 n1 (bs l1)) (hb0 : ∀ y ∈ l0, y < 256) (hb1 : ∀ y ∈ l1, y < 256) :
    Calls Try.prog 3 #[.agg #[.int .u64 x, .int .i64 kk, .int .u64 a, .int .u64 b, .int .u64 p, .int .u64 q], .agg #[.slice A0 n0 c0, .slice A1 n1 c1]] w fun e w' => e = .returned (.bool true) ∧ Below w.heap.size w w' := by
  obtain ⟨wb, hwb⟩ : ∃ wb, wb = w.alloc (.cells #[.int .u64 x, .int .i64 kk, .int .u64 a, .int .u64 b, .int .u64 p, .int .u64 q] 26) := ⟨_, rfl⟩
  obtain ⟨wc, hwc⟩ : ∃ wc, wc = wb.alloc (.cells #[.slice A0 n0 c0, .slice A1 n1 c1] 28) := ⟨_, rfl⟩
  have hsb : wb.heap.size = w.heap.size + 1 := by rw [hwb]; simp
  have kx : wc.cell? ⟨w.heap.size, 0, none⟩ = some (.int .u64 x) := by rw [hwc, hwb]; exact cell_al _ (box_cell w 26 _ 0)
  have kk1 : wc.cell? ⟨w.heap.size, 1, none⟩ = some (.int .i64 kk) := by rw [hwc, hwb]; exact cell_al _ (box_cell w 26 _ 1)
  have ka : wc.cell? ⟨w.heap.size, 2, none⟩ = some (.int .u64 a) := by rw [hwc, hwb]; exact cell_al _ (box_cell w 26 _ 2)
  have kb : wc.cell? ⟨w.heap.size, 3, none⟩ = some (.int .u64 b) := by rw [hwc, hwb]; exact cell_al _ (box_cell w 26 _ 3)
  have kp : wc.cell? ⟨w.heap.size, 4, none⟩ = some (.int .u64 p) := by rw [hwc, hwb]; exact cell_al _ (box_cell w 26 _ 4)
  have kq : wc.cell? ⟨w.heap.size, 5, none⟩ = some (.int .u64 q) := by rw [hwc, hwb]; exact cell_al _ (box_cell w 26 _ 5)
  have k0 : wc.cell? ⟨w.heap.size + 1, 0, none⟩ = some (.slice A0 n0 c0) := by rw [hwc, ← hsb]; exact box_cell wb 28 _ 0
  have k1 : wc.cell? ⟨w.heap.size + 1, 1, none⟩ = some (.slice A1 n1 c1) := by rw [hwc, ← hsb]; exact box_cell wb 28 _ 1
  have BC : Below w.heap.size w wc := by rw [hwc, hwb]; exact bel_al _ ((Below.refl _ _).alloc (Nat.le_refl _) _)
  have HC := Lib.hid (And.intro kx (And.intro kk1 (And.intro ka (And.intro kb (And.intro kp (And.intro kq (And.intro k0 (And.intro k1 BC))))))))
  clear kx kk1 ka kb kp kq k0 k1 BC hsb
  subst hwc hwb
  go_enter Try.func3, Try.ntmps3
  go_wp2_with fail
  refine (alive_true _).mono ?_
  rintro e w1 ⟨rfl, z1⟩
  have k0 := cell_on z1 HC.out.2.2.2.2.2.2.1
  have k1 := cell_on z1 HC.out.2.2.2.2.2.2.2.1
  go_wp2_with fail
  by_cases hbig : 1048576 < n0 + n1
  · refine (big_yes _ n0 n1 hn0 hn1 hbig).mono ?_
    rintro e w2 ⟨rfl, b2⟩
    go_wp2_with fail
    refine (alive_true _).mono ?_
    rintro e w3 ⟨rfl, b3⟩
    go_wp2_with fail
    go_ret
    exact ⟨rfl, bel_tr HC.out.2.2.2.2.2.2.2.2 (bel_tr z1 (bel_tr b2 b3))⟩
  · refine (big_no _ n0 n1 (by omega)).mono ?_
    rintro e w2 ⟨rfl, b2⟩
    have z2 := bel_tr z1 b2
    clear k0 k1 z1 b2 hn0 hn1
    have kx := cell_on z2 HC.out.1
    have kk1 := cell_on z2 HC.out.2.1
    have ka := cell_on z2 HC.out.2.2.1
    have kb := cell_on z2 HC.out.2.2.2.1
    have kp := cell_on z2 HC.out.2.2.2.2.1
    have kq := cell_on z2 HC.out.2.2.2.2.2.1
    have k0 := cell_on z2 HC.out.2.2.2.2.2.2.1
    have k1 := cell_on z2 HC.out.2.2.2.2.2.2.2.1
    have B2 := bel_tr HC.out.2.2.2.2.2.2.2.2 z2
    clear z2 HC
    obtain ⟨mm, e1, e2⟩ := clamp_is kk k hk
    have hk8 : k ≤ 8 := by omega
    go_wp2_with fail
    refine (put_any A0 n0 c0 k x kk l0 _ hk (by omega) hc0 hz0 (hr0.below B2) hx).mono ?_
    rintro e w3 ⟨rfl, ho3, z3⟩
    obtain ⟨g3, hg3⟩ : ∃ g3, g3 = w2.heap.size + 1 := ⟨_, rfl⟩
    rw [← hg3] at ho3 ⊢
    have r3 := Rd.own ho3
    have B3 := bel_tr B2 z3
    have kx' := cell_on z3 kx
    have ka' := cell_on z3 ka
    have kb' := cell_on z3 kb
    have kp' := cell_on z3 kp
    have kq' := cell_on z3 kq
    have k0' := cell_on z3 k0
    have k1' := cell_on z3 k1
    clear kx kk1 ka kb kp kq k0 k1 B2 z3 e1 e2 hg3 ho3
    go_wp2_with fail
    refine (putLong_any A0 n0 c0 a b p q l0 _ (by omega) hc0 hz0 (hr0.below B3) ha hb hp hq).mono ?_
    rintro e w4 ⟨rfl, ho4, z4⟩
    obtain ⟨g4, hg4⟩ : ∃ g4, g4 = w3.heap.size + 2 := ⟨_, rfl⟩
    rw [← hg4] at ho4 ⊢
    have r4 := Rd.own ho4
    have r3' := r3.below z4
    have B4 := bel_tr B3 z4
    have kx := cell_on z4 kx'
    have ka := cell_on z4 ka'
    have kb := cell_on z4 kb'
    have kp := cell_on z4 kp'
    have kq := cell_on z4 kq'
    have k0 := cell_on z4 k0'
    have k1 := cell_on z4 k1'
    clear kx' ka' kb' kp' kq' k0' k1' B3 z4 hg4 ho4 r3
    go_wp2_with fail
    have hlen3 : ((n0 + k : Nat) : Int) = (n0 : Int) + (k : Int) := by omega
    have hw3 : IntKind.i64.wrap ((n0 : Int) + (k : Int)) = (n0 : Int) + (k : Int) := IntWalk.i64_in _ (by omega)
    have hw4 : IntKind.i64.wrap ((n0 : Int) + 32) = (n0 : Int) + 32 := IntWalk.i64_in _ (by omega)
    have t3 : Rd w4 (some ⟨g3, 0, none⟩) n0 (bs l0) := ahead r3' (by have := hr0.1; rwa [bs_len] at this)
    have t4 : Rd w4 (some ⟨g4, 0, none⟩) n0 (bs l0) := ahead r4 (by have := hr0.1; rwa [bs_len] at this)
    have q0 := hr0.below B4
    have hi1 : (n0 : Int) ≤ ((n0 + k : Nat) : Int) := by omega
    have hi2 : (n0 : Int) ≤ ((n0 + 32 : Nat) : Int) := by omega
    have hi3 : (0 : Int) ≤ (n0 : Int) := by omega
    go_quiet ((go_at_call 10; exact Calls.quiet_of (same_yes _ A0 n0 _ _ l0 _ (by omega) (by first | exact t3.drewN _ | exact t4.drewN _) (q0.drewN _))))
    obtain ⟨ad, hTe, hT⟩ : ∃ ad, (if k = 0 then some (⟨g3, 0, none⟩ : Addr) else some ⟨g3, n0, none⟩) = some ad ∧ Rd w4 (some ad) k (bs (be k x)) := by
      by_cases h0 : k = 0
      · subst h0; exact ⟨_, if_pos rfl, by simpa [be, bs] using Rd.nil w4 _⟩
      · exact ⟨_, if_neg h0, behind r3' (by have := hr0.1; rwa [bs_len] at this)⟩
    have hT4 : Rd w4 (some ⟨g4, n0, none⟩) 32 (bs (longs a b p q)) := behind r4 (by have := hr0.1; rwa [bs_len] at this)
    have HK : Keep (w4.drewN nq) w w.heap.size (some ad) (some ⟨g4, n0, none⟩) A1 k n1 (be k x) (longs a b p q) l1 x a b p q :=
      ⟨hT.drewN nq, hT4.drewN nq, (hr1.below B4).drewN nq, kx, ka, kb, kp, kq, below_drewN B4 nq⟩
    have hl0 : (longs a b p q).length = 32 := longs_len a b p q
    have hl1 : l1.length = n1 := by have := hr1.1; rwa [bs_len] at this
    have HL1 := Lib.hid hl1
    clear hT hT4 r3' r4 t3 t4 q0 kx ka kb kp kq B4 hl0 hl1 k0 hlen3 hw3 hw4
    have k1' : (w4.drewN nq).cell? ⟨w.heap.size + 1, 1, none⟩ = some (.slice A1 n1 c1) := k1
    clear k1
    generalize w4.drewN nq = wd at *
    go_wp2_with fail
    have hi4 : (n0 : Int) ≤ (n0 : Int) + (k : Int) := by omega
    have hi5 : (n0 : Int) ≤ (n0 : Int) + 32 := by omega
    obtain ⟨r, hrr⟩ : ∃ r, x % 256 ^ k = r := ⟨_, rfl⟩
    have HR := Lib.hid hrr
    clear hrr
    have HK1 := HK.on (below_drewN (Below.refl _ _) 1)
    obtain ⟨i0, hi0, e0z, e0s, e0b⟩ := info_parts Try.info5
    refine wp_region_noPanic ?_
    refine wp_region_held_drew (S := fun w' => w'.cell? ⟨w.heap.size + 1, 1, none⟩ = some (.slice A1 n1 c1) ∧ Keep w' w w.heap.size (some ad) (some ⟨g4, n0, none⟩) A1 k n1 (be k x) (longs a b p q) l1 x a b p q) (by kernel_rfl) ⟨k1', HK1⟩ (fun hHeld => ?_)
    refine wpAnyH_take (i := 0) (oi := ?_) (v := ?_) ?_ (by kernel_rfl) (by kernel_rfl) (by kernel_rfl) (fun _ _ _ h => h) ?_ (by assumption) ?_
    rotate_left 2
    · simp only [List.getElem?_toArray, List.getElem?_cons_succ, List.getElem?_cons_zero]; exact rfl
    · refine Or.inl ⟨by rfl, ?_⟩; intro w hSw; (try dsimp only at hSw); go_simp; try with_reducible rfl
    try simp only [Act.put, List.setIfInBounds_toArray, List.set_cons_zero, List.set_cons_succ]
    refine wpAnyH_take (i := 1) (oi := ?_) (v := ?_) ?_ (by kernel_rfl) (by kernel_rfl) (by kernel_rfl) (fun _ _ _ h => h) ?_ (by assumption) ?_
    rotate_left 2
    · simp only [List.getElem?_toArray, List.getElem?_cons_succ, List.getElem?_cons_zero]; exact rfl
    · refine Or.inl ⟨by rfl, ?_⟩; intro w hSw; (try dsimp only at hSw); go_simp; try with_reducible rfl
    try simp only [Act.put, List.setIfInBounds_toArray, List.set_cons_zero, List.set_cons_succ]
    refine wpAnyH_take (i := 3) (oi := ?_) (v := ?_) ?_ (by kernel_rfl) (by kernel_rfl) (by kernel_rfl) (fun _ _ _ h => h) ?_ (by assumption) ?_
    rotate_left 2
    · simp only [List.getElem?_toArray, List.getElem?_cons_succ, List.getElem?_cons_zero]; exact rfl
    · refine Or.inl ⟨by rfl, ?_⟩; intro w hSw; (try dsimp only at hSw); go_simp; try with_reducible rfl
    try simp only [Act.put, List.setIfInBounds_toArray, List.set_cons_zero, List.set_cons_succ]
    refine wpAnyH_take (i := 4) (oi := ?_) (v := ?_) ?_ (by kernel_rfl) (by kernel_rfl) (by kernel_rfl) (fun _ _ _ h => h) ?_ (by assumption) ?_
    rotate_left 2
    · simp only [List.getElem?_toArray, List.getElem?_cons_succ, List.getElem?_cons_zero]; exact rfl
    · refine Or.inl ⟨by rfl, ?_⟩; intro w hSw; (try dsimp only at hSw); go_simp; try with_reducible rfl
    try simp only [Act.put, List.setIfInBounds_toArray, List.set_cons_zero, List.set_cons_succ]
    refine wpAnyH_take (i := 6) (oi := ?_) (v := ?_) ?_ (by kernel_rfl) (by kernel_rfl) (by kernel_rfl) (fun _ _ _ h => h) ?_ (by assumption) ?_
    rotate_left 2
    · simp only [List.getElem?_toArray, List.getElem?_cons_succ, List.getElem?_cons_zero]; exact rfl
    · refine Or.inl ⟨by rfl, ?_⟩; intro w hSw; (try dsimp only at hSw); go_simp; try with_reducible rfl
    try simp only [Act.put, List.setIfInBounds_toArray, List.set_cons_zero, List.set_cons_succ]
    refine wpAnyH_ready (rs := [2]) (by kernel_rfl) (by simp) ?_
    refine AllReadyH.cons (o := ?_) ?_ ?_ AllReadyH.nil
    rotate_left
    · simp only [List.getElem?_toArray, List.getElem?_cons_succ, List.getElem?_cons_zero]; exact rfl
    intro K hK
    go_simp
    refine hK.out _ _ hHeld (fun hHeld => ?_)
    clear hK K
    try simp only [Act.put, List.setIfInBounds_toArray, List.set_cons_zero, List.set_cons_succ]
    refine wpAnyH_ready (rs := [5]) (by kernel_rfl) (by simp) ?_
    refine AllReadyH.cons (o := ?_) ?_ ?_ AllReadyH.nil
    rotate_left
    · simp only [List.getElem?_toArray, List.getElem?_cons_succ, List.getElem?_cons_zero]; exact rfl
    intro K hK
    refine step_append_full rfl (.tmp 80) (.tmp 82) 27 (by rfl) 5 i0 (.int .u8 0) Try.underlying27 hi0 e0z e0s e0b rfl ad k n1 c1 A1 _ _ (by rfl) (by rfl) HK1.1 HK1.2.2.1 hz1 (by omega) ?_
    intro A5 c5 w5 r5 h51 h52 z5
    have HK5 := HK1.on z5
    have k5 := cell_on z5 (show wd.drew.cell? ⟨w.heap.size + 1, 1, none⟩ = some (.slice A1 n1 c1) from k1')
    refine hK.out _ _ ⟨k5, HK5⟩ (fun hHeld => ?_)
    clear hK K
    try simp only [Act.put, List.setIfInBounds_toArray, List.set_cons_zero, List.set_cons_succ]
    refine wpAnyH_ready (rs := [7]) (by kernel_rfl) (by simp) ?_
    refine AllReadyH.cons (o := ?_) ?_ ?_ AllReadyH.nil
    rotate_left
    · simp only [List.getElem?_toArray, List.getElem?_cons_succ, List.getElem?_cons_zero]; exact rfl
    intro K hK
    go_simp
    refine (get_back A5 c5 k n1 x r l1 _ HR.out hk8 (by omega) h51 h52 (by rw [bs_append]; exact r5) hb1).mono ?_
    rintro e w6 ⟨rfl, rfl⟩
    go_wp2_with fail
    refine hK.out _ _ ⟨k5, HK5⟩ (fun hHeld => ?_)
    clear hK K
    try simp only [Act.put, List.setIfInBounds_toArray, List.set_cons_zero, List.set_cons_succ]
    refine wpAnyH_take (i := 8) (oi := ?_) (v := ?_) ?_ (by kernel_rfl) (by kernel_rfl) (by kernel_rfl) (fun _ _ _ h => h) ?_ (by assumption) ?_
    rotate_left 2
    · simp only [List.getElem?_toArray, List.getElem?_cons_succ, List.getElem?_cons_zero]; exact rfl
    · refine Or.inl ⟨by rfl, ?_⟩; intro w hSw; (try dsimp only at hSw); go_simp; try with_reducible rfl
    try simp only [Act.put, List.setIfInBounds_toArray, List.set_cons_zero, List.set_cons_succ]
    refine wpAnyH_take (i := 9) (oi := ?_) (v := ?_) ?_ (by kernel_rfl) (by kernel_rfl) (by kernel_rfl) (fun _ _ _ h => h) ?_ (by assumption) ?_
    rotate_left 2
    · simp only [List.getElem?_toArray, List.getElem?_cons_succ, List.getElem?_cons_zero]; exact rfl
    · refine Or.inl ⟨by rfl, ?_⟩; intro w hSw; (try dsimp only at hSw); go_simp; try with_reducible rfl
    try simp only [Act.put, List.setIfInBounds_toArray, List.set_cons_zero, List.set_cons_succ]
    refine wpAnyH_take (i := 10) (oi := ?_) (v := ?_) ?_ (by kernel_rfl) (by kernel_rfl) (by kernel_rfl) (fun _ _ _ h => h) ?_ (by assumption) ?_
    rotate_left 2
    · simp only [List.getElem?_toArray, List.getElem?_cons_succ, List.getElem?_cons_zero]; exact rfl
    · refine Or.inl ⟨by rfl, ?_⟩; intro w hSw; (try dsimp only at hSw); go_simp; try with_reducible rfl
    try simp only [Act.put, List.setIfInBounds_toArray, List.set_cons_zero, List.set_cons_succ]
    refine wpAnyH_take (i := 11) (oi := ?_) (v := ?_) ?_ (by kernel_rfl) (by kernel_rfl) (by kernel_rfl) (fun _ _ _ h => h) ?_ (by assumption) ?_
    rotate_left 2
    · simp only [List.getElem?_toArray, List.getElem?_cons_succ, List.getElem?_cons_zero]; exact rfl
    · refine Or.inl ⟨by rfl, ?_⟩; intro w hSw; (try dsimp only at hSw); go_simp; try with_reducible rfl
    try simp only [Act.put, List.setIfInBounds_toArray, List.set_cons_zero, List.set_cons_succ]
    refine wpAnyH_take (i := 12) (oi := ?_) (v := ?_) ?_ (by kernel_rfl) (by kernel_rfl) (by kernel_rfl) (fun _ _ _ h => h) ?_ (by assumption) ?_
    rotate_left 2
    · simp only [List.getElem?_toArray, List.getElem?_cons_succ, List.getElem?_cons_zero]; exact rfl
    · refine Or.inl ⟨by rfl, ?_⟩; intro w hSw; (try dsimp only at hSw); go_simp; try with_reducible rfl
    try simp only [Act.put, List.setIfInBounds_toArray, List.set_cons_zero, List.set_cons_succ]
    refine wpAnyH_done (by kernel_rfl) ?_ _
    refine NoPanic.normal ?_
    clear k1' HK HK1 r5 h51 h52 z5 hHeld
    go_wp2_with fail
    have hB6 : Below w5.heap.size w5 w5.drew := below_drewN (Below.refl _ _) 1
    go_region_held3 (fun w' => w'.cell? ⟨w.heap.size + 1, 1, none⟩ = some (.slice A1 n1 c1) ∧ Below w5.heap.size w5 w')
      (first
        | exact ⟨k5, hB6⟩
        | exact ⟨cell_on hB8 k5, hB8⟩
        | exact ⟨cell_on (bel_al _ hB8) k5, bel_al _ hB8⟩
        | exact ⟨cell_on (bel_set hB8 hV) k5, bel_set hB8 hV⟩
        | exact ⟨cell_on hB7 k5, hB7⟩
        | exact ⟨cell_on (bel_al _ hB7) k5, bel_al _ hB7⟩
        | exact ⟨cell_on (bel_al _ hB6) k5, bel_al _ hB6⟩)
      (first
        | (refine step_append_full rfl (.tmp 91) (.tmp 93) 27 (by rfl) 5 i0 (.int .u8 0) Try.underlying27 hi0 e0z e0s e0b rfl ⟨g4, n0, none⟩ 32 n1 c1 A1 _ _ (by rfl) (by rfl) (HK5.2.1.below (by first | exact hB6 | exact bel_al _ hB6)) (HK5.2.2.1.below (by first | exact hB6 | exact bel_al _ hB6)) hz1 (by omega) ?_
           intro A7 c7 w7 r7 h71 h72 z7
           have hB7 : Below w5.heap.size w5 w7 := bel_tr (by first | exact hB6 | exact bel_al _ hB6) z7
           try (have v7 : Var0 w7 w5.heap.size := var0_on (var0_new w5.drew) z7))
        | (go_at_call 12
           refine (getLong_back A7 c7 n1 a b p q l1 _ (by omega) h71 h72 (by rw [bs_append]; first | exact r7 | exact r7.alloc _) hb1 ha hb hp hq).mono ?_
           rintro e w8 ⟨rfl, z8⟩
           have hB8 : Below w5.heap.size w5 w8 := bel_tr (by first | exact hB7 | exact bel_al _ hB7) z8
           first
             | (have v8 := var0_on v7 z8; obtain ⟨y0, y1, y2, y3, o0, o1, o2, o3⟩ := v8; have hV : w5.heap.size ≤ w5.heap.size := Nat.le_refl _)
             | (have v8 := var0_on (var0_new w7) z8; obtain ⟨y0, y1, y2, y3, o0, o1, o2, o3⟩ := v8; have hV : w5.heap.size ≤ w7.heap.size := hB7.size)
             | skip))
    · have hBf : Below w5.heap.size w5 (w8.alloc (.cells #[.int .u64 (a : Int), .int .u64 (b : Int), .int .u64 (p : Int), .int .u64 (q : Int)] 24)) := bel_al _ hB8
      obtain ⟨v0, v1, v2, v3⟩ := new_four w8 a b p q
      obtain ⟨_, _, _, fx, fa, fb, fp, fq, fB⟩ := HK5.on hBf
      clear hBf hB8 hB7 hB6 HK5 k5
      have heq : ∀ W : World, (Op.equalIn 10000 24 (.agg #[.int .u64 a, .int .u64 b, .int .u64 p, .int .u64 q]) (.agg #[.int .u64 a, .int .u64 b, .int .u64 p, .int .u64 q])).run Try.prog W = .ok true W := fun W => by rw [eq24]; simp
      generalize w8.alloc (.cells #[.int .u64 (a : Int), .int .u64 (b : Int), .int .u64 (p : Int), .int .u64 (q : Int)] 24) = wf at *
      by_cases hk7 : k < 8
      · have hk7' : (k : Int) < 8 := by omega
        have hand := low_bits x k r hk7 hx HR.out
        go_wp2_with fail
        go_ret
        exact ⟨rfl, fB⟩
      · have hk7' : ¬ (k : Int) < 8 := by omega
        obtain rfl : r = x := by rw [← HR.out, show k = 8 by omega]; exact Nat.mod_eq_of_lt (by omega)
        go_wp2_with fail
        go_ret
        exact ⟨rfl, fB⟩
    · have hBf : Below w5.heap.size w5 ((((w8.setCell ⟨w7.heap.size, 0, none⟩ (.int .u64 (a : Int))).setCell ⟨w7.heap.size, 1, none⟩ (.int .u64 (b : Int))).setCell ⟨w7.heap.size, 2, none⟩ (.int .u64 (p : Int))).setCell ⟨w7.heap.size, 3, none⟩ (.int .u64 (q : Int))) := bel_set hB8 hV
      obtain ⟨v0, v1, v2, v3⟩ := set_four a b p q ⟨y0, y1, y2, y3, o0, o1, o2, o3⟩
      obtain ⟨_, _, _, fx, fa, fb, fp, fq, fB⟩ := HK5.on hBf
      clear hBf hB8 hB7 hB6 HK5 k5
      have heq : ∀ W : World, (Op.equalIn 10000 24 (.agg #[.int .u64 a, .int .u64 b, .int .u64 p, .int .u64 q]) (.agg #[.int .u64 a, .int .u64 b, .int .u64 p, .int .u64 q])).run Try.prog W = .ok true W := fun W => by rw [eq24]; simp
      generalize (((w8.setCell ⟨w7.heap.size, 0, none⟩ (.int .u64 (a : Int))).setCell ⟨w7.heap.size, 1, none⟩ (.int .u64 (b : Int))).setCell ⟨w7.heap.size, 2, none⟩ (.int .u64 (p : Int))).setCell ⟨w7.heap.size, 3, none⟩ (.int .u64 (q : Int)) = wf at *
      by_cases hk7 : k < 8
      · have hk7' : (k : Int) < 8 := by omega
        have hand := low_bits x k r hk7 hx HR.out
        go_wp2_with fail
        go_ret
        exact ⟨rfl, fB⟩
      · have hk7' : ¬ (k : Int) < 8 := by omega
        obtain rfl : r = x := by rw [← HR.out, show k = 8 by omega]; exact Nat.mod_eq_of_lt (by omega)
        go_wp2_with fail
        go_ret
        exact ⟨rfl, fB⟩
    · have hBf : Below w5.heap.size w5 ((((w8.setCell ⟨w5.heap.size, 0, none⟩ (.int .u64 (a : Int))).setCell ⟨w5.heap.size, 1, none⟩ (.int .u64 (b : Int))).setCell ⟨w5.heap.size, 2, none⟩ (.int .u64 (p : Int))).setCell ⟨w5.heap.size, 3, none⟩ (.int .u64 (q : Int))) := bel_set hB8 hV
      obtain ⟨v0, v1, v2, v3⟩ := set_four a b p q ⟨y0, y1, y2, y3, o0, o1, o2, o3⟩
      obtain ⟨_, _, _, fx, fa, fb, fp, fq, fB⟩ := HK5.on hBf
      clear hBf hB8 hB7 hB6 HK5 k5
      have heq : ∀ W : World, (Op.equalIn 10000 24 (.agg #[.int .u64 a, .int .u64 b, .int .u64 p, .int .u64 q]) (.agg #[.int .u64 a, .int .u64 b, .int .u64 p, .int .u64 q])).run Try.prog W = .ok true W := fun W => by rw [eq24]; simp
      generalize (((w8.setCell ⟨w5.heap.size, 0, none⟩ (.int .u64 (a : Int))).setCell ⟨w5.heap.size, 1, none⟩ (.int .u64 (b : Int))).setCell ⟨w5.heap.size, 2, none⟩ (.int .u64 (p : Int))).setCell ⟨w5.heap.size, 3, none⟩ (.int .u64 (q : Int)) = wf at *
      by_cases hk7 : k < 8
      · have hk7' : (k : Int) < 8 := by omega
        have hand := low_bits x k r hk7 hx HR.out
        go_wp2_with fail
        go_ret
        exact ⟨rfl, fB⟩
      · have hk7' : ¬ (k : Int) < 8 := by omega
        obtain rfl : r = x := by rw [← HR.out, show k = 8 by omega]; exact Nat.mod_eq_of_lt (by omega)
        go_wp2_with fail
        go_ret
        exact ⟨rfl, fB⟩
end Go.Proofs.Ytjleelpnkkeakaa
