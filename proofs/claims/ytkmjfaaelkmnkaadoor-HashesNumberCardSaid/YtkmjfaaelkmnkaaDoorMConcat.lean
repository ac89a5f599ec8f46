/-
  nums.PutBytes, GetBytes, GetLong: what they answer.
-/
import Derived.Laws.AppendOwnNone
import Derived.Lib.ConvBytes
import Derived.Lib.AppendZerosOnto
import Derived.Test.YtkmjfaaelkmnkaaDoorMNone
import Derived.Test.YtkmjfaaelkmnkaaDoorMOpenR
import Derived.Test.YtkmjfaaelkmnkaaDoorMWrite
namespace Go.Proofs.YtkmjfaaelkmnkaaDoor
open Go.RowKit

theorem own_base {w : World} {base g : Nat} {e : TypeId} {n c : Nat} {xs : List Value} {v : Value} (h : w.ownsRow base e 1 v n xs) (hv : v = .slice (some ⟨g, 0, none⟩) n c) : base ≤ w.heap.size := by
  have := h.lt g (by rw [hv]; rfl)
  omega

def putB (l : List Nat) : List Nat := be 4 l.length ++ l

theorem putBytes_any (A L : Option Addr) (n c m d : Nat) (b l : List Nat) (w : World) (hn : n ≤ 4194000) (hc : n ≤ c) (hnil : A = none → n = 0 ∧ c = 0) (hr : Rd w A n (bs b))
    (hm : m ≤ 4194000) (hnil' : L = none → m = 0 ∧ d = 0) (hl : Rd w L m (bs l)) :
    Calls Tryd.prog 42 #[.slice A n c, .slice L m d] w fun e w' => ∃ v, e = .returned v ∧ w'.ownsRow (w.heap.size + 1) 5 1 v (n + (4 + m)) (bs (b ++ putB l)) ∧ Below w.heap.size w w' := by
  obtain ⟨i0, hi, hz0, hz1, hz2⟩ := info_parts Tryd.info5
  have H := Lib.hid (put_any A n c 4 m 4 b w (by omega) (by omega) hc hnil hr (by omega))
  have hlen := Lib.hid hl.1
  go_enter Tryd.func42, Tryd.ntmps42
  go_wp2_with (first | (go_at_call 43; refine H.out.mono ?_; rintro e w1 ⟨rfl, hown, hb⟩) | (at_builtin; refine wpList_append_rd _ rfl (.tmp 9) (.tmp 10) 22 rfl (w.heap.size + 1) 5 i0 (.int .u8 0) 1 Tryd.underlying22 hi hz0 hz1 hz2 rfl (.slice (some ⟨w.heap.size + 1, 0, none⟩) (n + 4) (n + 4)) (n + 4) _ rfl hown L m d (bs l) rfl hnil' (hl.below hb) (bs_one l) (by unfold maxLen; omega) (by omega) (own_base hown rfl) ?_; intro v w2 hown2 hgrow2))
  go_ret
  refine ⟨v, rfl, ?_, hb.grown hgrow2 hb.size (by simp [Value.ownBlock])⟩
  have e1 : b ++ putB l = (b ++ be 4 m) ++ l := by
    have := hlen.out
    rw [bs_len] at this
    simp [putB, this]
  rw [e1, bs_append (b ++ be 4 m), ← Nat.add_assoc]
  exact hown2

theorem getLong_short (A : Option Addr) (n c : Nat) (w : World) (h : n < 32) :
    Calls Tryd.prog 28 #[.slice A n c] w fun e w' => e = .returned (.tuple #[.agg #[.int .u64 0, .int .u64 0, .int .u64 0, .int .u64 0], .int .i64 5]) ∧ Below w.heap.size w w' := by
  go_enter Tryd.func28, Tryd.ntmps28
  go_wp2
  exact bodyPost_ret (v := .tuple #[.agg #[.int .u64 0, .int .u64 0, .int .u64 0, .int .u64 0], .int .i64 5]) (by simp [results, Tryd.results28, go_sem]) rfl ⟨rfl, (Below.refl _ _).alloc (Nat.le_refl _) _⟩

theorem bs_drop (l : List Nat) (k : Nat) : (bs l).drop k = bs (l.drop k) := by simp [bs]

set_option maxHeartbeats 1000000 in
theorem getLong_ok (A : Option Addr) (n c : Nat) (l : List Nat) (w : World) (h : 32 ≤ n) (hc : n ≤ c) (hm : c ≤ 9223372036854775807) (hr : Rd w A n (bs l)) (hb : ∀ y ∈ l, y < 256) :
    Calls Tryd.prog 28 #[.slice A n c] w fun e w' => e = .returned (.tuple #[.agg #[.int .u64 (val ((l.drop 24).take 8) : Nat), .int .u64 (val ((l.drop 16).take 8) : Nat), .int .u64 (val ((l.drop 8).take 8) : Nat), .int .u64 (val (l.take 8) : Nat)], .int .i64 0]) ∧ Below w.heap.size w w' := by
  obtain ⟨b, off, rfl, hbs, hcell⟩ := hr.spot (show 0 < n by omega)
  have hdr : ∀ k, ∀ y ∈ l.drop k, y < 256 := fun k y hy => hb y (List.mem_of_mem_drop hy)
  have g0 : ∀ W, Below w.heap.size w W → Calls Tryd.prog 50 #[.slice (some ⟨b, off, none⟩) n c, .int .i64 8] W fun e w' => e = .returned (.tuple #[.int .u64 (val (l.take 8) : Nat), .int .i64 0]) ∧ W = w' :=
    fun W hW => get_ok _ n c 8 l W (by omega) (by omega) hc hm (hr.below hW) hb
  have g1 : ∀ W, Below w.heap.size w W → Calls Tryd.prog 50 #[.slice (some ⟨b, off + 8, none⟩) (n - 8) (c - 8), .int .i64 8] W fun e w' => e = .returned (.tuple #[.int .u64 (val ((l.drop 8).take 8) : Nat), .int .i64 0]) ∧ W = w' :=
    fun W hW => get_ok _ _ _ 8 (l.drop 8) W (by omega) (by omega) (by omega) (by omega) (by rw [← bs_drop]; exact ((hr.below hW).later (by omega))) (hdr 8)
  have g2 : ∀ W, Below w.heap.size w W → Calls Tryd.prog 50 #[.slice (some ⟨b, off + 16, none⟩) (n - 16) (c - 16), .int .i64 8] W fun e w' => e = .returned (.tuple #[.int .u64 (val ((l.drop 16).take 8) : Nat), .int .i64 0]) ∧ W = w' :=
    fun W hW => get_ok _ _ _ 8 (l.drop 16) W (by omega) (by omega) (by omega) (by omega) (by rw [← bs_drop]; exact ((hr.below hW).later (by omega))) (hdr 16)
  have g3 : ∀ W, Below w.heap.size w W → Calls Tryd.prog 50 #[.slice (some ⟨b, off + 24, none⟩) (n - 24) (c - 24), .int .i64 8] W fun e w' => e = .returned (.tuple #[.int .u64 (val ((l.drop 24).take 8) : Nat), .int .i64 0]) ∧ W = w' :=
    fun W hW => get_ok _ _ _ 8 (l.drop 24) W (by omega) (by omega) (by omega) (by omega) (by rw [← bs_drop]; exact ((hr.below hW).later (by omega))) (hdr 24)
  have G0 := Lib.hid g0
  have G1 := Lib.hid g1
  have G2 := Lib.hid g2
  have G3 := Lib.hid g3
  have hn8 : ¬ c = 8 := by omega
  have hn16 : ¬ c = 16 := by omega
  have hn24 : ¬ c = 24 := by omega
  have hn0 : ¬ c = 0 := by omega
  have hb2 : ∀ (o o' : Obj), Below w.heap.size w ((w.alloc o).alloc o') := fun o o' => ((Below.refl _ _).alloc (Nat.le_refl _) o).alloc (by simp) o'
  have HB := Lib.hid hb2
  clear g0 g1 g2 g3 hdr hr hcell hb hb2
  go_enter Tryd.func28, Tryd.ntmps28
  go_wp2
  refine wp_loop_rounds 5 ?_
  rw [rounds_succ]
  go_wp2_with (go_at_call 50; refine (G0.out _ (HB.out _ _)).mono ?_; rintro e w1 ⟨rfl, rfl⟩)
  rw [rounds_succ]
  go_wp2_with (go_at_call 50; refine (G1.out _ (HB.out _ _)).mono ?_; rintro e w1 ⟨rfl, rfl⟩)
  rw [rounds_succ]
  go_wp2_with (go_at_call 50; refine (G2.out _ (HB.out _ _)).mono ?_; rintro e w1 ⟨rfl, rfl⟩)
  rw [rounds_succ]
  go_wp2_with (go_at_call 50; refine (G3.out _ (HB.out _ _)).mono ?_; rintro e w1 ⟨rfl, rfl⟩)
  rw [rounds_succ]
  go_wp2
  exact bodyPost_ret (v := .tuple #[.agg #[.int .u64 (val ((l.drop 24).take 8) : Nat), .int .u64 (val ((l.drop 16).take 8) : Nat), .int .u64 (val ((l.drop 8).take 8) : Nat), .int .u64 (val (l.take 8) : Nat)], .int .i64 0]) (by simp [results, Tryd.results28, go_sem]) rfl ⟨rfl, HB.out _ _⟩
end Go.Proofs.YtkmjfaaelkmnkaaDoor

/-
  What is hashed, as a list of numbers: its length, and that it tells by what, how many parts, and each of them. And what a string's bytes are, in memory too.
-/
namespace Go.Proofs.YtkmjfaaelkmnkaaDoor
open Go.RowKit
set_option linter.unusedSimpArgs false
set_option linter.unusedVariables false

/-- a string's bytes -/
def sb (s : ByteArray) : List Nat := s.data.toList.map UInt8.toNat
theorem sb_len (s : ByteArray) : (sb s).length = s.size := by simp [sb]
theorem sb_lt (s : ByteArray) : ∀ y ∈ sb s, y < 256 := by
  intro y hy
  obtain ⟨b, _, rfl⟩ := List.mem_map.1 hy
  exact b.toNat_lt
theorem map_inj : ∀ (l m : List UInt8), l.map UInt8.toNat = m.map UInt8.toNat → l = m
  | [], [], _ => rfl
  | [], _ :: _, h => by simp at h
  | _ :: _, [], h => by simp at h
  | a :: l, b :: m, h => by
    simp only [List.map_cons, List.cons.injEq] at h
    rw [UInt8.toNat_inj.1 h.1, map_inj l m h.2]
theorem sb_inj {s t : ByteArray} (h : sb s = sb t) : s = t := by
  have : s.data.toList = t.data.toList := map_inj _ _ h
  have h2 : s.data = t.data := Array.toList_inj.1 this
  cases s; cases t; cases h2; rfl

/-- what is hashed -/
def hbs (a : List Nat) (n : Nat) (RB : Nat → List Nat) : List Nat := putB a ++ (be 4 n ++ cat (fun j => putB (RB j)) n)

theorem putB_len (l : List Nat) : (putB l).length = 4 + l.length := by simp [putB, be_len]
theorem cat_len (RB : Nat → List Nat) (M : Nat) : ∀ n, (∀ j, j < n → (RB j).length ≤ M) → (cat RB n).length ≤ n * M
  | 0, _ => by simp [cat]
  | n + 1, h => by
    have h1 := cat_len RB M n (fun j hj => h j (by omega))
    have h2 := h n (by omega)
    simp only [cat, List.length_append]
    rw [Nat.add_mul]; omega
theorem putB_lt (l : List Nat) (h : ∀ y ∈ l, y < 256) : ∀ y ∈ putB l, y < 256 := by
  intro y hy
  rcases List.mem_append.1 hy with hy | hy
  · exact be_lt 4 _ y hy
  · exact h y hy
theorem cat_lt (RB : Nat → List Nat) : ∀ n, (∀ j, j < n → ∀ y ∈ RB j, y < 256) → ∀ y ∈ cat RB n, y < 256
  | 0, _ => by simp [cat]
  | n + 1, h => by
    intro y hy
    rcases List.mem_append.1 hy with hy | hy
    · exact cat_lt RB n (fun j hj => h j (by omega)) y hy
    · exact h n (by omega) y hy
theorem cat_congr {RB RC : Nat → List Nat} : ∀ n, (∀ j, j < n → RB j = RC j) → cat RB n = cat RC n
  | 0, _ => rfl
  | n + 1, h => by
    simp only [cat]
    rw [cat_congr n (fun j hj => h j (by omega)), h n (by omega)]

/-- a row of a call's own, as what is handed on -/
theorem src_of {w : World} {base n g : Nat} {v : Value} {xs : List Value} (h : w.ownsRow base 5 1 v n xs) (hg : g < base) :
    ∃ A' c', v = .slice A' n c' ∧ n ≤ c' ∧ c' ≤ 9223372036854775807 ∧ Rd w A' n xs ∧ (A' = none → n = 0 ∧ c' = 0) ∧ (∀ b o, A' = some ⟨b, o, none⟩ → 0 < n → b ≠ g) := by
  rcases own_cases h with ⟨rfl, rfl, rfl⟩ | ⟨k, c, rfl⟩
  · exact ⟨none, 0, rfl, Nat.le_refl _, by omega, Rd.nil _ _, fun _ => ⟨rfl, rfl⟩, fun b o e => by cases e⟩
  · obtain ⟨cur, hgk, hbg, hn, hc, hs, ht⟩ := own_at h
    refine ⟨_, c, rfl, hn, by unfold maxLen at hc; omega, Rd.own h, (fun e => by cases e), fun b o e _ => ?_⟩
    injection e with e
    injection e with e1 _
    omega

/-- '[]byte(s)' of a string -/
structure Conv (w w' : World) (s : ByteArray) (c : Nat) : Prop where
  rd : Rd w' (some ⟨w.heap.size, 0, none⟩) s.size (bs (sb s))
  bel : Below w.heap.size w w'
  size : w'.heap.size = w.heap.size + 1
theorem conv_new (w : World) (s : ByteArray) : Conv w (Lib.bytesWorld w 5 s) s (grownCap w s.size 0 5) := by
  have hbel : Below w.heap.size w (Lib.bytesWorld w 5 s) := by
    have h : Below w.heap.size w (w.drew.alloc (.cells (Lib.bytesCells w 5 s) 5)) := ((Below.refl _ _).drew).alloc (by simp) _
    refine ⟨h.os, h.tape, h.output, by rw [Lib.bytesWorld_size]; omega, fun k hk => Lib.bytesWorld_at_old w 5 s k hk⟩
  refine ⟨⟨by rw [bs_len, sb_len], fun _ => ⟨_, 0, rfl, by rw [Lib.bytesWorld_size]; omega, fun j u hu => ?_⟩⟩, hbel, Lib.bytesWorld_size w 5 s⟩
  have hj : j < s.size := by
    have := (List.getElem?_eq_some_iff.1 hu).1
    rwa [bs_len, sb_len] at this
  rw [Nat.zero_add, Lib.bytesWorld_cell w 5 s j hj]
  rw [bs_at _ _ (by rw [sb_len]; exact hj)] at hu
  rw [← hu]
  have hj2 : j < s.data.size := hj
  have e : s.data[j]? = some s.data[j] := Array.getElem?_eq_getElem hj2
  simp [sb, List.getD, e]
section
variable {P : Program} {ops : Array Oper} {Q : Exit → Act → World → Prop} {rest : List Oper} {a : Act} {w : World} {d : Tmp} {ty : TypeId} {pos : String} {after : Array Edge} {x : Operand}
theorem convS_run {ρ : Operand → Value} {dst : Option Tmp} {gd : Option (Nat × Bool)} (s : ByteArray) (hx : ρ x = .string s) :
    (execOp ρ ⟨dst, .convert 9 22 x, ty, pos, after, gd⟩).run Tryd.prog w = .ok (.value (.slice (some ⟨w.heap.size, 0, none⟩) s.size (grownCap w s.size 0 5))) (Lib.bytesWorld w 5 s) := by
  have h := Lib.run_convert_string_bytes (P := Tryd.prog) w 9 22 5 s Tryd.underlying9 Tryd.underlying22 Tryd.underlying5
  simp only [execOp, hx]
  simp [go_sem, h]
theorem law_convS (s : ByteArray) (hx : a.eval x = .string s)
    (h : ∀ w' c, Conv w w' s c → wpList Tryd.prog ops Q rest (a.put (some d) (.slice (some ⟨w.heap.size, 0, none⟩) s.size c)) w') :
    wpList Tryd.prog ops Q (⟨some d, .convert 9 22 x, ty, pos, after, none⟩ :: rest) a w :=
  law_value rfl (convS_run s hx) (h _ _ (conv_new w s))
end
end Go.Proofs.YtkmjfaaelkmnkaaDoor

/-
  slices.Concat of two lists of parts: the first one's, and one more behind them; slices.Grow of none.
-/
namespace Go.Proofs.YtkmjfaaelkmnkaaDoor
open Go.RowKit
set_option linter.unusedSimpArgs false
set_option linter.unusedVariables false
set_option maxRecDepth 100000

/-- the cells of a list of parts -/
def heads (RA : Nat → Option Addr) (RL RC : Nat → Nat) (n : Nat) : List Value := (List.range n).map fun j => .slice (RA j) (RL j) (RC j)
theorem heads_len (RA : Nat → Option Addr) (RL RC : Nat → Nat) (n : Nat) : (heads RA RL RC n).length = n := by simp [heads]
theorem heads_at (RA : Nat → Option Addr) (RL RC : Nat → Nat) (n j : Nat) (h : j < n) : (heads RA RL RC n)[j]? = some (.slice (RA j) (RL j) (RC j)) := by simp [heads, h]
theorem heads_one (RA : Nat → Option Addr) (RL RC : Nat → Nat) (n : Nat) : ∀ u ∈ heads RA RL RC n, u.oneCell' = true := by
  intro u hu; obtain ⟨x, _, rfl⟩ := List.mem_map.1 hu; rfl
theorem Rows2.heads {w : World} {A : Option Addr} {n c : Nat} {RA : Nat → Option Addr} {RL RC : Nat → Nat} {RB : Nat → List Nat} (h : Rows2 w A n c RA RL RC RB) : Rd w A n (heads RA RL RC n) := by
  refine ⟨heads_len _ _ _ _, fun hp => ?_⟩
  obtain ⟨b, o, e, hb, _⟩ := h.cell 0 hp
  refine ⟨b, o, e, hb, fun j u hu => ?_⟩
  have hj : j < n := by have := (List.getElem?_eq_some_iff.1 hu).1; rwa [heads_len] at this
  obtain ⟨b', o', e', _, hc⟩ := h.cell j hj
  rw [e] at e'
  injection e' with e'
  injection e' with e1 e2
  rw [heads_at _ _ _ _ _ hj] at hu
  rw [e1, e2, hc, hu]
/-- one more -/
def onem {α : Type} (f : Nat → α) (n : Nat) (x : α) : Nat → α := fun j => if j = n then x else f j
theorem onem_at {α : Type} (f : Nat → α) (n : Nat) (x : α) : onem f n x n = x := if_pos rfl
theorem onem_lt {α : Type} (f : Nat → α) (n : Nat) (x : α) {j : Nat} (h : j < n) : onem f n x j = f j := if_neg (by omega)
theorem rows_ext {w : World} {A A' : Option Addr} {n c c' g x : Nat} {RA : Nat → Option Addr} {RL RC : Nat → Nat} {RB : Nat → List Nat} (hr : Rd w A' (n + 1) (heads RA RL RC n ++ [.slice (some ⟨g, 0, none⟩) 1 1])) (hnc : n + 1 ≤ c') (hcm : c' ≤ 9223372036854775807)
    (R : Rows2 w A n c RA RL RC RB) (he : Rd w (some ⟨g, 0, none⟩) 1 (bs [x])) (hx : x < 256) : Rows2 w A' (n + 1) c' (onem RA n (some ⟨g, 0, none⟩)) (onem RL n 1) (onem RC n 1) (onem RB n [x]) := by
  have hsp : ∀ j, j < n + 1 → j = n ∨ j < n := fun j hj => by omega
  refine ⟨hnc, hcm, fun j hj => ?_, fun j hj => ?_, fun j hj => ?_, fun j hj => ?_, fun j hj => ?_⟩
  · obtain ⟨b, o, e, hb, hc⟩ := hr.2 (by omega)
    refine ⟨b, o, e, hb, hc j _ ?_⟩
    rcases hsp j hj with rfl | h
    · rw [List.getElem?_append_right (by rw [heads_len]; exact Nat.le_refl _), heads_len, Nat.sub_self, onem_at, onem_at, onem_at]; rfl
    · rw [List.getElem?_append_left (by rw [heads_len]; exact h), heads_at _ _ _ _ _ h, onem_lt _ _ _ h, onem_lt _ _ _ h, onem_lt _ _ _ h]
  · rcases hsp j hj with rfl | h
    · rw [onem_at, onem_at, onem_at]; exact he
    · rw [onem_lt _ _ _ h, onem_lt _ _ _ h, onem_lt _ _ _ h]; exact R.rd j h
  · rcases hsp j hj with rfl | h
    · rw [onem_at, onem_at]; omega
    · rw [onem_lt _ _ _ h, onem_lt _ _ _ h]; exact R.rnc j h
  · rcases hsp j hj with rfl | h
    · rw [onem_at]; intro e; cases e
    · rw [onem_lt _ _ _ h, onem_lt _ _ _ h, onem_lt _ _ _ h]; exact R.rnil j h
  · rcases hsp j hj with rfl | h
    · rw [onem_at]; intro y hy; simp at hy; omega
    · rw [onem_lt _ _ _ h]; exact R.byte j h

theorem infoS : (Tryd.prog.info? 22).map (fun i => (i.zero, i.size, i.bytes)) = some (some (.slice none 0 0), 1, 24) := by kernel_rfl
theorem run_noCells (w : World) (size : Nat) : (Builtin.firstCells size 0 (.slice none 0 0)).run Tryd.prog w = .ok #[] w := by
  simp [Builtin.firstCells]
set_option maxHeartbeats 1000000 in
theorem grow_ok (k : Nat) (h0 : 0 < k) (hk : k ≤ 100000) (w : World) :
    Calls Tryd.prog 55 #[.slice none 0 0, .int .i64 k] w fun e w' => ∃ v, e = .returned v ∧ w'.ownsRow w.heap.size 22 1 v 0 [] ∧ Below w.heap.size w w' := by
  obtain ⟨i0, hi, hz0, hz1, hz2⟩ := info_parts infoS
  have hrz : ∀ ty, (Builtin.append_ #[34, 3] ty #[.slice none 0 0, .int .i64 (k : Int)]).run Tryd.prog w = _ := fun ty =>
    Lib.run_append_grow_zeros (P := Tryd.prog) w 34 3 ty 22 i0 (.slice none 0 0) .i64 .i64 Tryd.underlying34 Tryd.underlying3 hi hz0 none 0 0 [] (by rw [hz1]; exact run_noCells _ _) k h0 (by omega) (by omega) (by omega) (by rw [hz2]; omega) (by
      rw [hz2, Nat.zero_add]
      unfold Builtin.nextslicecap
      rw [if_pos (by omega)]
      omega)
  rw [Nat.zero_add] at hrz
  obtain ⟨G, hG⟩ : ∃ G, grownCap w k 0 22 = G := ⟨_, rfl⟩
  have hGn := grownCap_ge w k 0 22
  have hGm := grownCap_le_maxLen w k 0 22 (by unfold maxLen; omega)
  rw [hG] at hrz hGn hGm
  obtain ⟨cs, hcs⟩ : ∃ cs, ([] : List Value).toArray ++ Builtin.zeroCells (Value.slice none 0 0).cells k ++ Builtin.zeroCells (Value.slice none 0 0).cells (G - k) = cs := ⟨_, rfl⟩
  have hsz : cs.size = G := by rw [← hcs]; simp [Builtin.zeroCells, Value.cells]; omega
  rw [hcs] at hrz
  obtain ⟨W, hW⟩ : ∃ W, w.drew.alloc (.cells cs 22) = W := ⟨_, rfl⟩
  have hown : Hid (W.ownsRow w.heap.size 22 1 (.slice (some ⟨w.heap.size, 0, none⟩) 0 G) 0 []) := Lib.hid (by
    have := at_own (base := w.heap.size) (n := 0) (c := G) (At.new w.drew 22 cs) (by simp) (Nat.zero_le _) hGm hsz
    rw [hW] at this
    simpa using this)
  have hbel : Hid (Below w.heap.size w W) := Lib.hid (by rw [← hW]; exact ((Below.refl _ _).drew).alloc (by simp) _)
  rw [hW] at hrz
  have HZ := Lib.hid hrz
  have hG63 : G ≤ 9223372036854775807 := by unfold maxLen at hGm; omega
  have hk0 : (0 : Int) < (k : Int) := by omega
  clear hrz hG hGm hcs hsz hW hi hz0 hz1 hz2 hGn
  go_enter Tryd.func55, Tryd.ntmps55
  go_wp2_with (at_builtin; refine Lib.wpList_append_run _ rfl _ _ _ _ rfl _ _ rfl rfl _ _ (HZ.out _) ?_)
  go_ret
  exact ⟨_, rfl, hown.out, hbel.out⟩

def cnt (n k : Nat) : Nat := if k = 0 then 0 else if k = 1 then n else n + 1
def els (hds : List Value) (u : Value) (k : Nat) : List Value := if k = 0 then [] else if k = 1 then hds else hds ++ [u]
set_option maxHeartbeats 1000000 in
theorem concat_ok (gx : Nat) (A B : Option Addr) (n c : Nat) (hds : List Value) (u : Value) (w : World) (hx : Rd w (some ⟨gx, 0, none⟩) 2 [.slice A n c, .slice B 1 1]) (hnil : A = none → n = 0 ∧ c = 0) (hA : Rd w A n hds)
    (hB : Rd w B 1 [u]) (h1 : ∀ v ∈ hds, v.oneCell' = true) (hu : u.oneCell' = true) (hn : n ≤ 10000) :
    Calls Tryd.prog 38 #[.slice (some ⟨gx, 0, none⟩) 2 2] w fun e w' => ∃ v, e = .returned v ∧ w'.ownsRow w.heap.size 22 1 v (n + 1) (hds ++ [u]) ∧ Below w.heap.size w w' := by
  obtain ⟨i0, hi, hz0, hz1, hz2⟩ := info_parts infoS
  have HX := Lib.hid hx
  have HN := Lib.hid hnil
  have HA := Lib.hid hA
  have HB := Lib.hid hB
  have H1 := Lib.hid h1
  have HU := Lib.hid hu
  clear hx hnil hA hB h1 hu
  go_enter Tryd.func38, Tryd.ntmps38
  go_wp2_with fail
  go_loopw [3, 11] (fun sv iv wr => ∃ k : Nat, k ≤ 2 ∧ iv = .int .i64 k ∧ sv = .int .i64 (cnt n k : Nat) ∧ w = wr) (fun _ iv _ => 2 - (intOf iv).toNat)
  case atStart => exact ⟨0, by omega, rfl, rfl, rfl⟩
  case round =>
    obtain ⟨k, hk, rfl, rfl, rfl⟩ := hrel
    rcases (by omega : k = 0 ∨ k = 1 ∨ k = 2) with rfl | rfl | rfl
    · obtain ⟨b, o, e, hb, hc⟩ := HX.out.2 (by omega)
      injection e with e
      injection e with e1 e2
      subst e1
      subst e2
      have hc0 := hc 0 _ rfl
      clear hc
      rw [show cnt n 0 = 0 from rfl]
      go_wp2
      go_roundw
      case rel => exact ⟨1, by omega, by go_num, by rw [show cnt n 1 = n from rfl], by first | rfl | trivial⟩
      case measure => simp [intOf]
    · obtain ⟨b, o, e, hb, hc⟩ := HX.out.2 (by omega)
      injection e with e
      injection e with e1 e2
      subst e1
      subst e2
      have hc0 := hc 1 _ rfl
      clear hc
      rw [show cnt n 1 = n from rfl]
      go_wp2
      go_roundw
      case rel => exact ⟨2, by omega, by go_num, by rw [show cnt n 2 = n + 1 from rfl]; go_num, by first | rfl | trivial⟩
      case measure => simp [intOf]
    · rw [show cnt n 2 = n + 1 from rfl]
      have HG := Lib.hid (grow_ok (n + 1) (by omega) (by omega) w)
      go_wp2_with fail
      refine HG.out.mono ?_
      rintro e w1 ⟨v1, rfl, o1, b1⟩
      have O1 := Lib.hid o1
      have B1 := Lib.hid b1
      clear o1 b1 HG
      go_wp2_with fail
      go_loopw [6, 27] (fun bv iv w2 => ∃ k : Nat, k ≤ 2 ∧ iv = .int .i64 k ∧ Hid (w2.ownsRow w.heap.size 22 1 bv (cnt n k) (els hds u k)) ∧ Hid (Below w.heap.size w w2)) (fun _ iv _ => 2 - (intOf iv).toNat)
      case atStart => exact ⟨0, by omega, rfl, O1, B1⟩
      case round =>
        obtain ⟨k, hk, rfl, O2, B2⟩ := hrel
        clear O1 B1
        have X2 := Lib.hid (HX.out.below B2.out)
        have A2 := Lib.hid (HA.out.below B2.out)
        have U2 := Lib.hid (HB.out.below B2.out)
        rcases (by omega : k = 0 ∨ k = 1 ∨ k = 2) with rfl | rfl | rfl
        · obtain ⟨b, o, e, hb, hc⟩ := X2.out.2 (by omega)
          injection e with e
          injection e with e1 e2
          subst e1
          subst e2
          have hc0 := hc 0 _ rfl
          clear hc
          have O2' : Hid (World.ownsRow _ w.heap.size 22 1 _ 0 []) := O2
          clear O2
          go_wp2_with (at_builtin; refine wpList_append_rd _ rfl (.tmp 31) (.tmp 32) 34 rfl w.heap.size 22 i0 (.slice none 0 0) 24 Tryd.underlying34 hi hz0 hz1 hz2 rfl _ 0 [] rfl O2'.out A n c hds rfl HN.out A2.out H1.out (by unfold maxLen; omega) (by omega) (by have := B2.out.size; omega) ?_; intro v4 w4 hown4 hgrow4; have O4 := Lib.hid hown4; have G4 := Lib.hid hgrow4; clear hown4 hgrow4)
          have O5 : Hid (w4.ownsRow w.heap.size 22 1 v4 (cnt n 1) (els hds u 1)) := Lib.hid (by
            have := O4.out
            simpa [cnt, els] using this)
          have B5 : Hid (Below w.heap.size w w4) := Lib.hid (B2.out.grown G4.out B2.out.size (fun k e => by
            rcases own_cases O2'.out with ⟨rfl, _⟩ | ⟨g, cc, rfl⟩
            · cases e
            · obtain ⟨_, _, hbg, _⟩ := own_at O2'.out
              injection e with e
              subst e
              exact hbg))
          clear O4 G4 O2' B2 X2 A2 U2
          go_wp2
          go_roundw
          case rel => exact ⟨1, by omega, by go_num, O5, B5⟩
          case measure => simp [intOf]
        · obtain ⟨b, o, e, hb, hc⟩ := X2.out.2 (by omega)
          injection e with e
          injection e with e1 e2
          subst e1
          subst e2
          have hc0 := hc 1 _ rfl
          clear hc
          have O2' : Hid (World.ownsRow _ w.heap.size 22 1 _ n hds) := O2
          clear O2
          have HBn : B = none → 1 = 0 ∧ 1 = 0 := fun e => by obtain ⟨b, o, e', _⟩ := U2.out.2 (by omega); rw [e] at e'; cases e'
          have HBN := Lib.hid HBn
          clear HBn
          go_wp2_with (at_builtin; refine wpList_append_rd _ rfl (.tmp 31) (.tmp 32) 34 rfl w.heap.size 22 i0 (.slice none 0 0) 24 Tryd.underlying34 hi hz0 hz1 hz2 rfl _ n hds rfl O2'.out B 1 1 [u] rfl HBN.out U2.out (by intro v hv; simp at hv; rw [hv]; exact HU.out) (by unfold maxLen; omega) (by omega) (by have := B2.out.size; omega) ?_; intro v4 w4 hown4 hgrow4; have O4 := Lib.hid hown4; have G4 := Lib.hid hgrow4; clear hown4 hgrow4)
          have O5 : Hid (w4.ownsRow w.heap.size 22 1 v4 (cnt n 2) (els hds u 2)) := Lib.hid (by
            have := O4.out
            simpa [cnt, els] using this)
          have B5 : Hid (Below w.heap.size w w4) := Lib.hid (B2.out.grown G4.out B2.out.size (fun k e => by
            rcases own_cases O2'.out with ⟨rfl, _⟩ | ⟨g, cc, rfl⟩
            · cases e
            · obtain ⟨_, _, hbg, _⟩ := own_at O2'.out
              injection e with e
              subst e
              exact hbg))
          clear O4 G4 O2' B2 X2 A2 U2 HBN
          go_wp2
          go_roundw
          case rel => exact ⟨2, by omega, by go_num, O5, B5⟩
          case measure => simp [intOf]
        · have O2' : Hid (World.ownsRow _ w.heap.size 22 1 _ (n + 1) (hds ++ [u])) := O2
          clear O2 X2 A2 U2
          go_wp2
          go_ret
          exact ⟨_, rfl, O2'.out, B2.out⟩
end Go.Proofs.YtkmjfaaelkmnkaaDoor

/-
  balefireref01's Get, GetLong, GetBytes: what they answer, whatever bytes they are given.
-/
namespace Go.Proofs.YtkmjfaaelkmnkaaDoor
open Go.RowKit

theorem rval_step (l : List Nat) (j : Nat) (hj : j < 8) (hl : j < l.length) (hb : ∀ y ∈ l, y < 256) :
    IntKind.u64.wrap (IntKind.u64.wrap (↑(val (List.take j l)) * 256) + IntKind.u64.wrap ↑(l[j]?.getD 0)) = ((val (l.take (j + 1)) : Nat) : Int) := by
  have h1 := val_lt (l.take j) fun y hy => hb y (List.mem_of_mem_take hy)
  have h2 : (l.take j).length = j := by rw [List.length_take]; omega
  have h3 : 256 ^ j ≤ 256 ^ 7 := Nat.pow_le_pow_right (by decide) (by omega)
  rw [h2] at h1
  have h4 : (256 : Nat) ^ 7 = 72057594037927936 := by decide
  have h5 : l[j] < 256 := hb _ (List.getElem_mem hl)
  rw [List.take_succ_eq_append_getElem hl, val_snoc, IntKind.wrap_u64, IntKind.wrap_u64, IntKind.wrap_u64]
  generalize val (l.take j) = P at *
  have e2 : (((l[j]?.getD 0 : Nat) : Int)) = ((l[j] : Nat) : Int) := by rw [List.getElem?_eq_getElem hl]; simp
  rw [e2]
  omega

theorem rget_low (A : Option Addr) (n c : Nat) (k : Int) (w : World) (h : k < 0) :
    Calls Tryd.prog 56 #[.slice A n c, .int .i64 k] w fun e w' => e = .returned (.tuple #[.int .u64 0, .int .i64 1]) ∧ w = w' := by
  go_enter Tryd.func56, Tryd.ntmps56
  go_wp2
  go_ret2
  exact ⟨rfl, rfl⟩

theorem rget_high (A : Option Addr) (n c : Nat) (k : Int) (w : World) (h : 8 < k) :
    Calls Tryd.prog 56 #[.slice A n c, .int .i64 k] w fun e w' => e = .returned (.tuple #[.int .u64 0, .int .i64 1]) ∧ w = w' := by
  have h0 : decide (k < 0) = false := by simp; omega
  go_enter Tryd.func56, Tryd.ntmps56
  go_wp2
  go_ret2
  exact ⟨rfl, rfl⟩

theorem rget_short (A : Option Addr) (n c k : Nat) (w : World) (h8 : k ≤ 8) (h : n < k) :
    Calls Tryd.prog 56 #[.slice A n c, .int .i64 k] w fun e w' => e = .returned (.tuple #[.int .u64 0, .int .i64 5]) ∧ w = w' := by
  have h0 : decide ((k : Int) < 0) = false := by simp
  have h1 : decide ((8 : Int) < (k : Int)) = false := by simp; omega
  go_enter Tryd.func56, Tryd.ntmps56
  go_wp2
  go_ret2
  exact ⟨rfl, rfl⟩

theorem rget_ok (A : Option Addr) (n c k : Nat) (l : List Nat) (w : World) (h8 : k ≤ 8) (h : k ≤ n) (hc : n ≤ c) (hm : c ≤ 9223372036854775807) (hr : Rd w A n (bs l)) (hb : ∀ y ∈ l, y < 256) :
    Calls Tryd.prog 56 #[.slice A n c, .int .i64 k] w fun e w' => e = .returned (.tuple #[.int .u64 (val (l.take k) : Nat), .int .i64 0]) ∧ w = w' := by
  have h0 : decide ((k : Int) < 0) = false := by simp
  have h1 : decide ((8 : Int) < (k : Int)) = false := by simp; omega
  have h2 : decide (n < k) = false := by simp; omega
  go_enter Tryd.func56, Tryd.ntmps56
  go_wp2
  go_loop [6, 7] (fun t i => ∃ j : Nat, j ≤ k ∧ i = .int .i64 j ∧ t = .int .u64 (val (l.take j) : Nat)) (fun _ i => k - (intOf i).toNat)
  case atStart => exact ⟨0, Nat.zero_le _, rfl, rfl⟩
  case round =>
    obtain ⟨j, hj, rfl, rfl⟩ := hrel
    by_cases hlt : j < k
    · obtain ⟨b, off, rfl, hbs, hcell⟩ := hr.spot (show j < n by omega)
      have hln : l.length = n := by have := hr.1; rw [bs_len] at this; exact this
      have hx : w.cell? ⟨b, off + j, none⟩ = some (.int .u8 (l.getD j 0 : Nat)) := hcell j _ (bs_at l j (by omega))
      have hv := Lib.hid (rval_step l j (by omega) (by omega) hb)
      clear hcell hr hln hb
      go_wp2
      go_round
      case rel => exact ⟨j + 1, by omega, by go_num, by rw [hv.out]⟩
      case measure => simp [intOf]; omega
    · obtain rfl : j = k := by omega
      go_wp2
      go_ret2
      exact ⟨rfl, rfl⟩
theorem rgetLong_short (A : Option Addr) (n c : Nat) (w : World) (h : n < 32) :
    Calls Tryd.prog 40 #[.slice A n c] w fun e w' => e = .returned (.tuple #[.agg #[.int .u64 0, .int .u64 0, .int .u64 0, .int .u64 0], .int .i64 5]) ∧ Below w.heap.size w w' := by
  go_enter Tryd.func40, Tryd.ntmps40
  go_wp2
  exact bodyPost_ret (v := .tuple #[.agg #[.int .u64 0, .int .u64 0, .int .u64 0, .int .u64 0], .int .i64 5]) (by simp [results, Tryd.results40, go_sem]) rfl ⟨rfl, (Below.refl _ _).alloc (Nat.le_refl _) _⟩

set_option maxHeartbeats 1000000 in
theorem rgetLong_ok (A : Option Addr) (n c : Nat) (l : List Nat) (w : World) (h : 32 ≤ n) (hc : n ≤ c) (hm : c ≤ 9223372036854775807) (hr : Rd w A n (bs l)) (hb : ∀ y ∈ l, y < 256) :
    Calls Tryd.prog 40 #[.slice A n c] w fun e w' => e = .returned (.tuple #[.agg #[.int .u64 (val ((l.drop 24).take 8) : Nat), .int .u64 (val ((l.drop 16).take 8) : Nat), .int .u64 (val ((l.drop 8).take 8) : Nat), .int .u64 (val (l.take 8) : Nat)], .int .i64 0]) ∧ Below w.heap.size w w' := by
  obtain ⟨b, off, rfl, hbs, hcell⟩ := hr.spot (show 0 < n by omega)
  have hdr : ∀ k, ∀ y ∈ l.drop k, y < 256 := fun k y hy => hb y (List.mem_of_mem_drop hy)
  have g0 : ∀ W, Below w.heap.size w W → Calls Tryd.prog 56 #[.slice (some ⟨b, off, none⟩) n c, .int .i64 8] W fun e w' => e = .returned (.tuple #[.int .u64 (val (l.take 8) : Nat), .int .i64 0]) ∧ W = w' :=
    fun W hW => rget_ok _ n c 8 l W (by omega) (by omega) hc hm (hr.below hW) hb
  have g1 : ∀ W, Below w.heap.size w W → Calls Tryd.prog 56 #[.slice (some ⟨b, off + 8, none⟩) (n - 8) (c - 8), .int .i64 8] W fun e w' => e = .returned (.tuple #[.int .u64 (val ((l.drop 8).take 8) : Nat), .int .i64 0]) ∧ W = w' :=
    fun W hW => rget_ok _ _ _ 8 (l.drop 8) W (by omega) (by omega) (by omega) (by omega) (by rw [← bs_drop]; exact ((hr.below hW).later (by omega))) (hdr 8)
  have g2 : ∀ W, Below w.heap.size w W → Calls Tryd.prog 56 #[.slice (some ⟨b, off + 16, none⟩) (n - 16) (c - 16), .int .i64 8] W fun e w' => e = .returned (.tuple #[.int .u64 (val ((l.drop 16).take 8) : Nat), .int .i64 0]) ∧ W = w' :=
    fun W hW => rget_ok _ _ _ 8 (l.drop 16) W (by omega) (by omega) (by omega) (by omega) (by rw [← bs_drop]; exact ((hr.below hW).later (by omega))) (hdr 16)
  have g3 : ∀ W, Below w.heap.size w W → Calls Tryd.prog 56 #[.slice (some ⟨b, off + 24, none⟩) (n - 24) (c - 24), .int .i64 8] W fun e w' => e = .returned (.tuple #[.int .u64 (val ((l.drop 24).take 8) : Nat), .int .i64 0]) ∧ W = w' :=
    fun W hW => rget_ok _ _ _ 8 (l.drop 24) W (by omega) (by omega) (by omega) (by omega) (by rw [← bs_drop]; exact ((hr.below hW).later (by omega))) (hdr 24)
  have G0 := Lib.hid g0
  have G1 := Lib.hid g1
  have G2 := Lib.hid g2
  have G3 := Lib.hid g3
  have hn8 : ¬ c = 8 := by omega
  have hn16 : ¬ c = 16 := by omega
  have hn24 : ¬ c = 24 := by omega
  have hn0 : ¬ c = 0 := by omega
  have hb2 : ∀ (o o' : Obj), Below w.heap.size w ((w.alloc o).alloc o') := fun o o' => ((Below.refl _ _).alloc (Nat.le_refl _) o).alloc (by simp) o'
  have HB := Lib.hid hb2
  clear g0 g1 g2 g3 hdr hr hcell hb hb2
  go_enter Tryd.func40, Tryd.ntmps40
  go_wp2
  refine wp_loop_rounds 5 ?_
  rw [rounds_succ]
  go_wp2_with (go_at_call 56; refine (G0.out _ (HB.out _ _)).mono ?_; rintro e w1 ⟨rfl, rfl⟩)
  rw [rounds_succ]
  go_wp2_with (go_at_call 56; refine (G1.out _ (HB.out _ _)).mono ?_; rintro e w1 ⟨rfl, rfl⟩)
  rw [rounds_succ]
  go_wp2_with (go_at_call 56; refine (G2.out _ (HB.out _ _)).mono ?_; rintro e w1 ⟨rfl, rfl⟩)
  rw [rounds_succ]
  go_wp2_with (go_at_call 56; refine (G3.out _ (HB.out _ _)).mono ?_; rintro e w1 ⟨rfl, rfl⟩)
  rw [rounds_succ]
  go_wp2
  exact bodyPost_ret (v := .tuple #[.agg #[.int .u64 (val ((l.drop 24).take 8) : Nat), .int .u64 (val ((l.drop 16).take 8) : Nat), .int .u64 (val ((l.drop 8).take 8) : Nat), .int .u64 (val (l.take 8) : Nat)], .int .i64 0]) (by simp [results, Tryd.results40, go_sem]) rfl ⟨rfl, HB.out _ _⟩
end Go.Proofs.YtkmjfaaelkmnkaaDoor
