/-
  Long numbers as natural numbers below 2^256: their words, and what the words tell. Nothing here speaks of the program.
-/
import Derived.WalkKit
import Derived.Below
import Derived.Deep.QuietTactic
import Derived.BigQuiet
import Derived.OwnWalk
import Derived.Laws.OwnMore
import Derived.Laws.MakeOwn
import Derived.Laws.Rows
import Derived.Laws.CopyOwn
import Derived.Test.YtkmjfaaelkmnkaaDoorMHOf
import Derived.Test.YtkmjfaaelkmnkaaDoorMOpenR
import Derived.Test.YtkmjfaaelkmnkaaDoorMTwr
namespace Go.Proofs.YtkmjfaaelkmnkaaDoor.Nu
set_option maxRecDepth 100000
open Go.RowKit
set_option linter.unusedSimpArgs false
set_option linter.unusedVariables false

/-- word i of X -/
def wd (X i : Nat) : Nat := X / 18446744073709551616 ^ i % 18446744073709551616
/-- a long number, as a value -/
abbrev num (X : Nat) : Value := .agg #[.int .u64 (wd X 0 : Nat), .int .u64 (wd X 1 : Nat), .int .u64 (wd X 2 : Nat), .int .u64 (wd X 3 : Nat)]

theorem wd_lt (X i : Nat) : wd X i < 18446744073709551616 := Nat.mod_lt _ (by decide)
theorem wd_sum (X : Nat) (h : X < 2 ^ 256) : X = wd X 0 + 18446744073709551616 * wd X 1 + 340282366920938463463374607431768211456 * wd X 2 + 6277101735386680763835789423207666416102355444464034512896 * wd X 3 := by
  unfold wd; omega
theorem wd_of (r0 r1 r2 r3 : Nat) (h0 : r0 < 18446744073709551616) (h1 : r1 < 18446744073709551616) (h2 : r2 < 18446744073709551616) (h3 : r3 < 18446744073709551616) (Z : Nat)
    (hZ : Z = r0 + 18446744073709551616 * r1 + 340282366920938463463374607431768211456 * r2 + 6277101735386680763835789423207666416102355444464034512896 * r3) :
    wd Z 0 = r0 ∧ wd Z 1 = r1 ∧ wd Z 2 = r2 ∧ wd Z 3 = r3 := by
  unfold wd; omega
theorem num_of (r0 r1 r2 r3 : Nat) (h0 : r0 < 18446744073709551616) (h1 : r1 < 18446744073709551616) (h2 : r2 < 18446744073709551616) (h3 : r3 < 18446744073709551616) (Z : Nat)
    (hZ : Z = r0 + 18446744073709551616 * r1 + 340282366920938463463374607431768211456 * r2 + 6277101735386680763835789423207666416102355444464034512896 * r3) :
    (.agg #[.int .u64 (r0 : Nat), .int .u64 (r1 : Nat), .int .u64 (r2 : Nat), .int .u64 (r3 : Nat)] : Value) = num Z := by
  obtain ⟨e0, e1, e2, e3⟩ := wd_of r0 r1 r2 r3 h0 h1 h2 h3 Z hZ
  unfold num; rw [e0, e1, e2, e3]
theorem wd_eq (X Y : Nat) (hX : X < 2 ^ 256) (hY : Y < 2 ^ 256) : (wd X 0 = wd Y 0 ∧ wd X 1 = wd Y 1 ∧ wd X 2 = wd Y 2 ∧ wd X 3 = wd Y 3) ↔ X = Y := by
  constructor
  · intro h
    have := wd_sum X hX
    have := wd_sum Y hY
    omega
  · rintro rfl; exact ⟨rfl, rfl, rfl, rfl⟩

/-- one step of a sum of words -/
theorem add_step (x y c : Nat) (hx : x < 18446744073709551616) (hy : y < 18446744073709551616) (hc : c ≤ 1) : ∃ s d : Nat, s < 18446744073709551616 ∧ d ≤ 1 ∧ x + y + c = s + 18446744073709551616 * d ∧ s = (x + y + c) % 18446744073709551616 ∧ d = (x + y + c) / 18446744073709551616 :=
  ⟨_, _, by omega, by omega, by omega, rfl, rfl⟩
/-- one step of a difference of words -/
theorem sub_step (x y c : Nat) (hx : x < 18446744073709551616) (hy : y < 18446744073709551616) (hc : c ≤ 1) : ∃ s d : Nat, s < 18446744073709551616 ∧ d ≤ 1 ∧ x + 18446744073709551616 * d = s + y + c ∧ s = (x + 18446744073709551616 - y - c) % 18446744073709551616 ∧ d = (if x < y + c then 1 else 0) := by
  by_cases h : x < y + c
  · exact ⟨_, _, by omega, by rw [if_pos h]; omega, by rw [if_pos h]; omega, rfl, rfl⟩
  · exact ⟨_, _, by omega, by rw [if_neg h]; omega, by rw [if_neg h]; omega, rfl, rfl⟩

/-- one step of a product of words -/
theorem mul_step (x y c d : Nat) (hx : x < 18446744073709551616) (hy : y < 18446744073709551616) (hc : c < 18446744073709551616) (hd : d < 18446744073709551616) :
    ∃ h l : Nat, h < 18446744073709551616 ∧ l < 18446744073709551616 ∧ x * y + c + d = l + 18446744073709551616 * h := by
  have : x * y ≤ 18446744073709551615 * 18446744073709551615 := Nat.mul_le_mul (by omega) (by omega)
  exact ⟨(x * y + c + d) / 18446744073709551616, (x * y + c + d) % 18446744073709551616, by omega, by omega, by omega⟩

theorem bel_tr {a b c : World} (h : Below a.heap.size a b) (k : Below b.heap.size b c) : Below a.heap.size a c := h.trans (k.mono h.size)
theorem cell_on {W w : World} {a : Addr} {v : Value} (hb : Below W.heap.size W w) (h : W.cell? a = some v) : w.cell? a = some v := (hb.cell (World.block_lt_of_cell? W a h)).trans h
theorem gr_alloc {a b : World} (h : Below a.heap.size a b) (o : Obj) : Below a.heap.size a (b.alloc o) := h.alloc h.size o
theorem gr_drewN {a b : World} (h : Below a.heap.size a b) (n : Nat) : Below a.heap.size a (b.drewN n) := ⟨h.os, h.tape, h.output, h.size, h.block⟩
end Go.Proofs.YtkmjfaaelkmnkaaDoor.Nu

/-
  hashes.Number's closure: one half of a number.
-/
namespace Go.Proofs.YtkmjfaaelkmnkaaDoor
open Go.RowKit
set_option linter.unusedSimpArgs false
set_option linter.unusedVariables false
set_option maxRecDepth 100000

theorem val_app (a b : List Nat) : val (a ++ b) = val a * 256 ^ b.length + val b := by
  have h : ∀ (b : List Nat) (x : Nat), b.foldl (fun a b => a * 256 + b) x = x * 256 ^ b.length + b.foldl (fun a b => a * 256 + b) 0 := by
    intro b
    induction b with
    | nil => intro x; simp
    | cons y b ih =>
      intro x
      rw [List.foldl_cons, List.foldl_cons, ih, ih (0 * 256 + y), List.length_cons, Nat.pow_succ]
      simp only [Nat.zero_mul, Nat.zero_add, Nat.add_mul, Nat.add_assoc, Nat.mul_assoc, Nat.mul_comm 256]
  unfold val
  rw [List.foldl_append, h]
/-- the number that 32 bytes tell -/
theorem num_val (l : List Nat) (h : l.length = 32) (hb : ∀ y ∈ l, y < 256) :
    (.agg #[.int .u64 (val ((l.drop 24).take 8) : Nat), .int .u64 (val ((l.drop 16).take 8) : Nat), .int .u64 (val ((l.drop 8).take 8) : Nat), .int .u64 (val (l.take 8) : Nat)] : Value) = Nu.num (val l) := by
  have hv : ∀ k, val ((l.drop k).take 8) < 18446744073709551616 := fun k => by
    have h1 := val_lt ((l.drop k).take 8) (fun y hy => hb y (List.mem_of_mem_drop (List.mem_of_mem_take hy)))
    have h2 : ((l.drop k).take 8).length ≤ 8 := List.length_take_le _ _
    exact Nat.lt_of_lt_of_le h1 (Nat.le_trans (Nat.pow_le_pow_right (by decide) h2) (by decide))
  have h0 := hv 0
  rw [List.drop_zero] at h0
  refine Nu.num_of _ _ _ _ (hv 24) (hv 16) (hv 8) h0 _ ?_
  have e : l = l.take 8 ++ ((l.drop 8).take 8 ++ ((l.drop 16).take 8 ++ (l.drop 24).take 8)) := by
    have e1 : (l.drop 24).take 8 = l.drop 24 := List.take_of_length_le (by simp; omega)
    have e2 : (l.drop 16).take 8 ++ l.drop 24 = l.drop 16 := by
      have := List.take_append_drop 8 (l.drop 16)
      rwa [List.drop_drop] at this
    have e3 : (l.drop 8).take 8 ++ l.drop 16 = l.drop 8 := by
      have := List.take_append_drop 8 (l.drop 8)
      rwa [List.drop_drop] at this
    rw [e1, e2, e3, List.take_append_drop]
  have k1 : ((l.drop 8).take 8).length = 8 := by simp; omega
  have k2 : ((l.drop 16).take 8).length = 8 := by simp; omega
  have k3 : ((l.drop 24).take 8).length = 8 := by simp; omega
  have hh : val l = val (l.take 8 ++ ((l.drop 8).take 8 ++ ((l.drop 16).take 8 ++ (l.drop 24).take 8))) := by rw [← e]
  rw [hh, val_app, val_app, val_app, List.length_append, List.length_append, k1, k2, k3]
  generalize val (l.take 8) = a0
  generalize val ((l.drop 8).take 8) = a1
  generalize val ((l.drop 16).take 8) = a2
  generalize val ((l.drop 24).take 8) = a3
  omega
theorem val32_lt (l : List Nat) (h : l.length = 32) (hb : ∀ y ∈ l, y < 256) : val l < 2 ^ 256 := by
  have := val_lt l hb
  rw [h] at this
  exact Nat.lt_of_lt_of_le this (by decide)

/-- a half of the number -/
def half (s : ByteArray) (n : Nat) (RB : Nat → List Nat) (x : Nat) : Nat := val (sha (hbs (sb s) (n + 1) (onem RB n [x])))
theorem half_lt (s : ByteArray) (n : Nat) (RB : Nat → List Nat) (x : Nat) : half s n RB x < 2 ^ 256 := val32_lt _ (sha_len _) (sha_lt _)
end Go.Proofs.YtkmjfaaelkmnkaaDoor

/-
  What digits tell, to any base: a list, the lowest first. Blocks of memory that are just some cells. Nothing here speaks of the program.
-/
namespace Go.Proofs.YtkmjfaaelkmnkaaDoor.Nu
set_option maxRecDepth 100000
open Go.RowKit
set_option linter.unusedSimpArgs false
set_option linter.unusedVariables false

/-- what digits tell -/
def lv (b : Nat) : List Nat → Nat
  | [] => 0
  | x :: l => x + b * lv b l
theorem lv_set (b : Nat) : ∀ (l : List Nat) (k v : Nat), k < l.length → lv b (l.set k v) + b ^ k * l.getD k 0 = lv b l + b ^ k * v
  | [], _, _, h => absurd h (Nat.not_lt_zero _)
  | x :: l, 0, v, _ => by simp [lv]; omega
  | x :: l, k + 1, v, h => by
    have ih := lv_set b l k v (by simpa using h)
    have e : b * (lv b (l.set k v) + b ^ k * l.getD k 0) = b * (lv b l + b ^ k * v) := by rw [ih]
    rw [Nat.mul_add, Nat.mul_add, ← Nat.mul_assoc, ← Nat.mul_assoc, Nat.mul_comm b (b ^ k), show b ^ k * b = b ^ (k + 1) from (Nat.pow_succ _ _).symm] at e
    simp only [List.set_cons_succ, lv, List.getD_cons_succ]
    omega
theorem lv_append (b : Nat) : ∀ (l m : List Nat), lv b (l ++ m) = lv b l + b ^ l.length * lv b m
  | [], m => by simp [lv]
  | x :: l, m => by
    simp only [List.cons_append, lv, lv_append b l m, List.length_cons, Nat.pow_succ, Nat.mul_add]
    rw [← Nat.mul_assoc, Nat.mul_comm b (b ^ l.length)]; omega
theorem lv_lt (b : Nat) : ∀ (l : List Nat), (∀ x ∈ l, x < b) → lv b l < b ^ l.length
  | [], _ => by simp [lv]
  | x :: l, h => by
    have ih := lv_lt b l fun y hy => h y (List.mem_cons_of_mem _ hy)
    have hx := h x (by simp)
    simp only [lv, List.length_cons, Nat.pow_succ]
    have : b * (lv b l + 1) ≤ b * b ^ l.length := Nat.mul_le_mul_left b ih
    rw [Nat.mul_add, Nat.mul_comm b (b ^ l.length)] at this
    omega
theorem lv_digit (b : Nat) (hb : 0 < b) : ∀ (l : List Nat) (k : Nat), (∀ x ∈ l, x < b) → lv b l / b ^ k % b = l.getD k 0
  | [], k, _ => by simp [lv]
  | x :: l, 0, h => by
    simp [lv, Nat.mod_eq_of_lt (h x (by simp))]
  | x :: l, k + 1, h => by
    have ih := lv_digit b hb l k fun y hy => h y (List.mem_cons_of_mem _ hy)
    rw [List.getD_cons_succ, ← ih, Nat.pow_succ, Nat.mul_comm, ← Nat.div_div_eq_div_mul]
    congr 2
    simp only [lv]
    rw [Nat.add_mul_div_left _ _ hb, Nat.div_eq_of_lt (h x (by simp)), Nat.zero_add]

/-- one digit more of a row of a product -/
theorem row_step (b V x Y c c' l' i j : Nat) (L : List Nat) (hk : i + j < L.length) (inv : lv b L + b ^ (i + j) * c = V + b ^ i * (x * (Y % b ^ j)))
    (st : x * (Y / b ^ j % b) + L.getD (i + j) 0 + c = l' + b * c') : lv b (L.set (i + j) l') + b ^ (i + (j + 1)) * c' = V + b ^ i * (x * (Y % b ^ (j + 1))) := by
  have s := lv_set b L (i + j) l' hk
  have m := congrArg (b ^ (i + j) * ·) st
  simp only [Nat.mul_add] at m
  rw [Nat.mod_pow_succ, Nat.mul_add, Nat.mul_add, ← Nat.add_assoc i j 1, show b ^ (i + j + 1) = b ^ (i + j) * b from Nat.pow_succ _ _]
  have e1 : b ^ (i + j) * (x * (Y / b ^ j % b)) = b ^ i * (x * (b ^ j * (Y / b ^ j % b))) := by rw [Nat.pow_add]; ac_rfl
  have e2 : b ^ (i + j) * (b * c') = b ^ (i + j) * b * c' := by ac_rfl
  omega
/-- a row of a product is done -/
theorem row_done (b X Y n i c : Nat) (L : List Nat) (hY : Y < b ^ n) (hk : i + n < L.length) (h0 : L.getD (i + n) 0 = 0)
    (inv : lv b L + b ^ (i + n) * c = X % b ^ i * Y + b ^ i * (X / b ^ i % b * (Y % b ^ n))) : lv b (L.set (i + n) c) = X % b ^ (i + 1) * Y := by
  have s := lv_set b L (i + n) c hk
  rw [h0] at s
  rw [Nat.mod_pow_succ, Nat.add_mul, Nat.mul_assoc]
  rw [Nat.mod_eq_of_lt hY] at inv
  omega

/-- block g is just the cells cs, of type t, none frozen -/
def At (w : World) (g : Nat) (t : TypeId) (cs : Array Value) : Prop := w.heap[g]? = some (.cells cs t (0, 0))
section
variable {w w' : World} {g : Nat} {t : TypeId} {cs : Array Value}
theorem At.lt (h : At w g t cs) : g < w.heap.size := (Array.getElem?_eq_some_iff.1 h).1
theorem At.cell (h : At w g t cs) (i : Nat) : w.cell? ⟨g, i, none⟩ = cs[i]? := cell_of_row w g i cs t (0, 0) h
theorem At.frozen (h : At w g t cs) (i : Nat) : w.frozen? ⟨g, i, none⟩ = false := by
  unfold At at h
  simp [World.frozen?, h]
theorem At.new (w : World) (t : TypeId) (cs : Array Value) : At (w.alloc (.cells cs t)) w.heap.size t cs := heap_alloc_new w _
theorem At.at_ (w : World) (g : Nat) (t : TypeId) (cs : Array Value) (h : g = w.heap.size) : At (w.alloc (.cells cs t)) g t cs := by rw [h]; exact At.new w t cs
theorem At.alloc (h : At w g t cs) (o : Obj) : At (w.alloc o) g t cs := (Below.heap_alloc w o g h.lt).trans h
theorem At.drew (h : At w g t cs) : At w.drew g t cs := h
theorem At.drewN (h : At w g t cs) (k : Nat) : At (w.drewN k) g t cs := h
theorem At.set (h : At w g t cs) (i : Nat) (u : Value) : At (w.setCell ⟨g, i, none⟩ u) g t (cs.setIfInBounds i u) := by
  unfold At at h ⊢
  simp [World.setCell, Array.getElem?_modify, h]
theorem At.far (h : At w g t cs) {p : Addr} (hp : p.block ≠ g) (u : Value) : At (w.setCell p u) g t cs := by
  unfold At at h ⊢
  simp [World.setCell, Array.getElem?_modify, hp, h]
theorem At.row (h : At w g t cs) (ds : Array Value) : At (w.setRow g ds) g t ds := setRow_heap w g _ _ t _ h
theorem At.rowFar (h : At w g t cs) {g' : Nat} (hne : g ≠ g') (ds : Array Value) : At (w.setRow g' ds) g t cs := (setRow_other w g' g ds hne).trans h
theorem At.again (h : At w g t cs) (i : Nat) (v : Value) (hv : cs[i]? = some v) : w.setCell ⟨g, i, none⟩ v = w := by
  have hs : w.setCell ⟨g, i, none⟩ v = w.setRow g (cs.setIfInBounds i v) := by
    unfold At at h
    simp only [World.setCell, World.setRow]
    congr 1
    apply Array.ext
    · simp
    · intro k h1 h2
      simp only [Array.getElem_modify]
      split
      · rename_i hk
        subst hk
        have := (Array.getElem?_eq_some_iff.1 h).2
        simp [this]
      · rfl
  rw [hs]
  have e : cs.setIfInBounds i v = cs := by
    obtain ⟨hi, hv⟩ := Array.getElem?_eq_some_iff.1 hv
    subst hv
    apply Array.ext
    · simp
    · intro k h1 h2
      rw [Array.getElem_setIfInBounds h2]
      split
      · rename_i hk; subst hk; rfl
      · rfl
  rw [e]
  exact setRow_self w g cs t (0, 0) h
theorem At.on (h : At w g t cs) (hb : Below w.heap.size w w') : At w' g t cs := (hb.block g h.lt).trans h
end

theorem At.put4 {w : World} {g : Nat} {t : TypeId} {a b c d : Value} (h : At w g t #[a, b, c, d]) (a' b' c' d' : Value) :
    At ((((w.setCell ⟨g, 0, none⟩ a').setCell ⟨g, 1, none⟩ b').setCell ⟨g, 2, none⟩ c').setCell ⟨g, 3, none⟩ d') g t #[a', b', c', d'] := by
  simpa using (((h.set 0 a').set 1 b').set 2 c').set 3 d'
theorem At.far4 {w : World} {g g' : Nat} {t : TypeId} {cs : Array Value} (h : At w g t cs) (hne : g ≠ g') (a' b' c' d' : Value) :
    At ((((w.setCell ⟨g', 0, none⟩ a').setCell ⟨g', 1, none⟩ b').setCell ⟨g', 2, none⟩ c').setCell ⟨g', 3, none⟩ d') g t cs :=
  (((h.far (by exact fun e => hne e.symm) a').far (by exact fun e => hne e.symm) b').far (by exact fun e => hne e.symm) c').far (by exact fun e => hne e.symm) d'

/-- words as values -/
def ws (l : List Nat) : Array Value := (l.map fun x : Nat => (.int .u64 (x : Nat) : Value)).toArray
theorem ws_at (l : List Nat) (k : Nat) (h : k < l.length) : (ws l)[k]? = some (.int .u64 (l.getD k 0 : Nat)) := by simp [ws, h]
theorem ws_set (l : List Nat) (k v : Nat) : (ws l).setIfInBounds k (.int .u64 (v : Nat)) = ws (l.set k v) := by simp [ws, List.map_set]
/-- a long number's words -/
def wl (X : Nat) : List Nat := [wd X 0, wd X 1, wd X 2, wd X 3]
theorem wl_at (X k : Nat) (h : k < 4) : (wl X).getD k 0 = wd X k := by
  match k, h with
  | 0, _ | 1, _ | 2, _ | 3, _ => rfl
end Go.Proofs.YtkmjfaaelkmnkaaDoor.Nu

/-
  Short forms: a block, and what lies below, in a world that has a letter; the cells of a block of four.
-/
namespace Go.Proofs.YtkmjfaaelkmnkaaDoor.Nu
set_option maxRecDepth 100000
open Go.RowKit
set_option linter.unusedSimpArgs false
set_option linter.unusedVariables false

theorem at_of {w w' : World} (h : w = w') {g : Nat} {t : TypeId} {cs : Array Value} (p : At w g t cs) : At w' g t cs := h ▸ p
theorem gr_of {n : Nat} {u w w' : World} (h : w = w') (p : Below n u w) : Below n u w' := h ▸ p
theorem At.c0 {w : World} {g : Nat} {t : TypeId} {a b c d : Value} (h : At w g t #[a, b, c, d]) : w.cell? ⟨g, 0, none⟩ = some a := h.cell 0
theorem At.c1 {w : World} {g : Nat} {t : TypeId} {a b c d : Value} (h : At w g t #[a, b, c, d]) : w.cell? ⟨g, 1, none⟩ = some b := h.cell 1
theorem At.c2 {w : World} {g : Nat} {t : TypeId} {a b c d : Value} (h : At w g t #[a, b, c, d]) : w.cell? ⟨g, 2, none⟩ = some c := h.cell 2
theorem At.c3 {w : World} {g : Nat} {t : TypeId} {a b c d : Value} (h : At w g t #[a, b, c, d]) : w.cell? ⟨g, 3, none⟩ = some d := h.cell 3
end Go.Proofs.YtkmjfaaelkmnkaaDoor.Nu

/-
  One digit of a division of two digits by two (to the base 2^32), as math/bits.Div64 reckons it: a first guess, lowered till it fits. Nothing here speaks of the program.
-/
namespace Go.Proofs.YtkmjfaaelkmnkaaDoor.Nu
set_option maxRecDepth 100000
set_option linter.unusedSimpArgs false
set_option linter.unusedVariables false

/-- the guess fits -/
theorem kn_le (u d q r y1 y0 : Nat) (hr : u = q * y1 + r) (hq : q * y0 ≤ 4294967296 * r + d) : q * (y1 * 4294967296 + y0) ≤ u * 4294967296 + d := by
  rw [hr, Nat.mul_add, ← Nat.mul_assoc]
  generalize q * y1 = m
  generalize q * y0 = k at *
  omega
/-- the guess is too great -/
theorem kn_gt (u d q r y1 y0 : Nat) (hr : u = q * y1 + r) (hq : 4294967296 * r + d < q * y0) : u * 4294967296 + d < q * (y1 * 4294967296 + y0) := by
  rw [hr, Nat.mul_add, ← Nat.mul_assoc]
  generalize q * y1 = m
  generalize q * y0 = k at *
  omega
theorem kn_small (u d y : Nat) (hd : d < 4294967296) (hu : u < y) : (u * 4294967296 + d) / y < 4294967296 := by
  refine Nat.div_lt_of_lt_mul ?_
  have : (u + 1) * 4294967296 ≤ y * 4294967296 := Nat.mul_le_mul_right _ hu
  rw [Nat.add_mul] at this; omega
/-- the first guess is not too small, and at most one above 2^32 -/
theorem kn_first (u d y1 y0 : Nat) (h1 : 2147483648 ≤ y1) (h0 : y0 < 4294967296) (hd : d < 4294967296) (hu : u < y1 * 4294967296 + y0) : (u * 4294967296 + d) / (y1 * 4294967296 + y0) ≤ u / y1 ∧ u / y1 ≤ 4294967297 := by
  have hy1 : 0 < y1 := by omega
  refine ⟨?_, ?_⟩
  · have hle : (u * 4294967296 + d) / (y1 * 4294967296 + y0) ≤ (u * 4294967296 + d) / (y1 * 4294967296) := Nat.div_le_div_left (by omega) (by omega)
    refine Nat.le_trans hle ?_
    rw [Nat.mul_comm y1, ← Nat.div_div_eq_div_mul]
    refine Nat.div_le_div_right ?_
    omega
  · rw [Nat.div_le_iff_le_mul_add_pred hy1]
    omega
/-- a round of the loop: where it goes on, the guess is above the digit -/
theorem kn_down (u d q r y1 y0 : Nat) (hd : d < 4294967296) (hu : u < y1 * 4294967296 + y0) (hr : u = q * y1 + r) (h : 4294967296 ≤ q ∨ 4294967296 * r + d < q * y0) : (u * 4294967296 + d) / (y1 * 4294967296 + y0) < q := by
  rcases h with h | h
  · exact Nat.lt_of_lt_of_le (kn_small u d _ hd hu) h
  · have := kn_gt u d q r y1 y0 hr h
    exact Nat.div_lt_of_lt_mul (Nat.lt_of_lt_of_eq this (Nat.mul_comm _ _))
/-- where it ends, the guess is the digit -/
theorem kn_end (u d q r y1 y0 : Nat) (hy : 0 < y1 * 4294967296 + y0) (hr : u = q * y1 + r) (hq : q * y0 ≤ 4294967296 * r + d) (hge : (u * 4294967296 + d) / (y1 * 4294967296 + y0) ≤ q) : q = (u * 4294967296 + d) / (y1 * 4294967296 + y0) := by
  have := kn_le u d q r y1 y0 hr hq
  have h2 : q ≤ (u * 4294967296 + d) / (y1 * 4294967296 + y0) := (Nat.le_div_iff_mul_le hy).2 this
  omega
/-- where the rest is 2^32 or more, the guess is the digit -/
theorem kn_over (u d q r y1 y0 : Nat) (hy : 0 < y1 * 4294967296 + y0) (h0 : y0 < 4294967296) (hr : u = q * y1 + r) (hq : q ≤ 4294967296) (hro : 4294967296 ≤ r) (hge : (u * 4294967296 + d) / (y1 * 4294967296 + y0) ≤ q) : q = (u * 4294967296 + d) / (y1 * 4294967296 + y0) := by
  refine kn_end u d q r y1 y0 hy hr ?_ hge
  have : q * y0 ≤ 4294967296 * 4294967296 := Nat.mul_le_mul hq (by omega)
  omega
end Go.Proofs.YtkmjfaaelkmnkaaDoor.Nu

/-
  How the statements' arguments are read: a long number.
-/
namespace Go.Proofs.YtkmjfaaelkmnkaaDoor
set_option linter.unusedSimpArgs false
set_option linter.unusedVariables false
set_option maxRecDepth 100000
open Go.ChangeShapes Go.WideShapes Go.ChangeAt Go.RowKit

theorem cellsNum : Tryd.prog.cellsOf 37 = 4 := by kernel_rfl
theorem cellsWord : Tryd.prog.cellsOf 35 = 1 := by kernel_rfl
section
variable {H : Type} {enc : TypeId × Value → H} {w : World} {held : Bool}
theorem open_word {fuel : Nat} {c : Value} {x : DataW H × List MemPlace} (h : DataW.trod enc Tryd.prog w 0 (fun _ => true) held fuel 35 [c] = some x) :
    ∃ n : Nat, c = .int .u64 (n : Int) ∧ n < 18446744073709551616 := by
  obtain ⟨n, e, _, hw⟩ := DataW.trod_int Tryd.underlying35 h
  have bd := bounds_u64 hw
  simp at e
  exact ⟨n.toNat, by rw [e, Int.toNat_of_nonneg bd.1], by omega⟩
theorem open_four {fuel : Nat} {c0 c1 c2 c3 : Value} {x : DataW H × List MemPlace} (h : DataW.trod enc Tryd.prog w 0 (fun _ => true) held fuel 37 [c0, c1, c2, c3] = some x) :
    ∃ X : Nat, X < 2 ^ 256 ∧ c0 = .int .u64 (Nu.wd X 0 : Nat) ∧ c1 = .int .u64 (Nu.wd X 1 : Nat) ∧ c2 = .int .u64 (Nu.wd X 2 : Nat) ∧ c3 = .int .u64 (Nu.wd X 3 : Nat) := by
  obtain ⟨xs, m, rfl, hx, hl, hn, he⟩ := DataW.trod_array Tryd.underlying37 h
  rw [cellsWord] at he
  match xs, hn with
  | [x0, x1, x2, x3], _ =>
    have e0 := he 0 (by omega)
    have e1 := he 1 (by omega)
    have e2 := he 2 (by omega)
    have e3 := he 3 (by omega)
    simp at e0 e1 e2 e3
    obtain ⟨a, rfl, wa⟩ := open_word e0
    obtain ⟨b, rfl, wb⟩ := open_word e1
    obtain ⟨p, rfl, wp⟩ := open_word e2
    obtain ⟨q, rfl, wq⟩ := open_word e3
    obtain ⟨X, hX⟩ : ∃ X, X = a + 18446744073709551616 * b + 340282366920938463463374607431768211456 * p + 6277101735386680763835789423207666416102355444464034512896 * q := ⟨_, rfl⟩
    obtain ⟨f0, f1, f2, f3⟩ := Nu.wd_of a b p q wa wb wp wq X hX
    exact ⟨X, by omega, by rw [f0], by rw [f1], by rw [f2], by rw [f3]⟩
theorem okWide_arr {base n : Nat} {t e : TypeId} {v : Value} (ht : Tryd.prog.underlying t = some (.array n e)) (h : Value.okWide Tryd.prog w .any base t v) : ∃ cs, v = .agg cs ∧ cs.size = Tryd.prog.cellsOf t := by
  simp only [Value.okWide, ht] at h
  obtain ⟨cs, h1, h2, _⟩ := h
  exact ⟨cs, h1, h2⟩
/-- a long number -/
theorem open_num {base : Nat} {v : Value} {d : DataW H} {p : List MemPlace} (hv : Value.okWide Tryd.prog w .any base 37 v) (h : DataW.Trod enc Tryd.prog w 0 (fun _ => true) held 37 v d p) :
    ∃ X : Nat, X < 2 ^ 256 ∧ v = Nu.num X := by
  obtain ⟨cs, rfl, hsz⟩ := okWide_arr Tryd.underlying37 hv
  obtain ⟨fuel, hf⟩ := h
  rw [cellsNum] at hsz
  obtain ⟨cs⟩ := cs
  match cs, hsz with
  | [c0, c1, c2, c3], _ =>
    simp [Value.cells] at hf
    obtain ⟨X, hX, rfl, rfl, rfl, rfl⟩ := open_four hf
    exact ⟨X, hX, rfl⟩
end
end Go.Proofs.YtkmjfaaelkmnkaaDoor
