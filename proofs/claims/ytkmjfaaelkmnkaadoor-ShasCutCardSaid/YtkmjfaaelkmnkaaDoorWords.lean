/-
  What memory holds, in words of this proof's own: a slice that reads as a list, bytes as a list of numbers, the bytes of a number. Nothing here speaks of the program.
-/
import Derived.WalkKit
import Derived.Below
import Derived.OwnWalk
import Derived.Laws.OwnMore
import Derived.Maps.AppendAt
import Derived.Laws.MakeOwn
import Derived.Deep.Draws
import Derived.Lib.Hide
namespace Go.Proofs.YtkmjfaaelkmnkaaDoor
open Go.RowKit

/-- the slice at A, of n elements of one cell each, reads as xs -/
def Rd (w : World) (A : Option Addr) (n : Nat) (xs : List Value) : Prop :=
  xs.length = n ∧ (0 < n → ∃ b off, A = some ⟨b, off, none⟩ ∧ b < w.heap.size ∧ ∀ j u, xs[j]? = some u → w.cell? ⟨b, off + j, none⟩ = some u)

def bs (l : List Nat) : List Value := l.map fun x : Nat => .int .u8 (x : Int)
def ws (l : List Nat) : List Value := l.map fun x : Nat => .int .u64 (x : Int)
def is (l : List Int) : List Value := l.map fun x => .int .i64 x

theorem bs_len (l : List Nat) : (bs l).length = l.length := by simp [bs]
theorem bs_at (l : List Nat) (k : Nat) (h : k < l.length) : (bs l)[k]? = some (.int .u8 (l.getD k 0 : Nat)) := by simp [bs, h]
theorem ws_at (l : List Nat) (k : Nat) (h : k < l.length) : (ws l)[k]? = some (.int .u64 (l.getD k 0 : Nat)) := by simp [ws, h]
theorem is_at (l : List Int) (k : Nat) (h : k < l.length) : (is l)[k]? = some (.int .i64 (l.getD k 0)) := by simp [is, h]
theorem bs_append (l m : List Nat) : bs (l ++ m) = bs l ++ bs m := by simp [bs]
theorem bs_one (l : List Nat) : ∀ u ∈ bs l, u.oneCell' = true := by
  intro u hu; obtain ⟨x, _, rfl⟩ := List.mem_map.1 hu; rfl
theorem ws_one (l : List Nat) : ∀ u ∈ ws l, u.oneCell' = true := by
  intro u hu; obtain ⟨x, _, rfl⟩ := List.mem_map.1 hu; rfl

section
variable {w w' : World} {A : Option Addr} {n : Nat} {xs : List Value}

theorem Rd.nil (w : World) (A : Option Addr) : Rd w A 0 [] := ⟨rfl, fun h => absurd h (Nat.lt_irrefl 0)⟩
theorem Rd.spot (h : Rd w A n xs) {k : Nat} (hk : k < n) :
    ∃ b off, A = some ⟨b, off, none⟩ ∧ b < w.heap.size ∧ ∀ j u, xs[j]? = some u → w.cell? ⟨b, off + j, none⟩ = some u := h.2 (by omega)
theorem Rd.kept (h : Rd w A n xs) (hs : w.heap.size ≤ w'.heap.size) (hk : ∀ p : Addr, p.block < w.heap.size → w'.cell? p = w.cell? p) : Rd w' A n xs :=
  ⟨h.1, fun hn => by
    obtain ⟨b, off, e, hb, hc⟩ := h.2 hn
    exact ⟨b, off, e, by omega, fun j u hu => (hk _ hb).trans (hc j u hu)⟩⟩
theorem Rd.below (h : Rd w A n xs) (hb : Below w.heap.size w w') : Rd w' A n xs := h.kept hb.size fun _ hp => hb.cell hp
theorem Rd.drewN (h : Rd w A n xs) (k : Nat) : Rd (w.drewN k) A n xs := h
theorem Rd.drew (h : Rd w A n xs) : Rd w.drew A n xs := h
theorem Rd.alloc (h : Rd w A n xs) (o : Obj) : Rd (w.alloc o) A n xs := h.kept (by simp) fun p hp => World.cell?_alloc_lt w o p hp
theorem Rd.take (h : Rd w A n xs) {k : Nat} (hk : k ≤ n) : Rd w A k (xs.take k) := by
  have hl := h.1
  refine ⟨by rw [List.length_take]; omega, fun hn => ?_⟩
  obtain ⟨b, off, e, hb, hc⟩ := h.2 (by omega)
  refine ⟨b, off, e, hb, fun j u hu => hc j u ?_⟩
  rw [List.getElem?_take] at hu
  split at hu
  · exact hu
  · cases hu
theorem Rd.own {base c : Nat} {e : TypeId} (h : w.ownsRow base e 1 (.slice A n c) n xs) : Rd w A n xs := by
  refine ⟨by simpa using h.1, fun hn => ?_⟩
  rcases h.2 with ⟨_, h0⟩ | ⟨g, cap, cur, hv, _, hg, _, _, _, ht⟩
  · omega
  · injection hv with hA _ _
    subst hA
    refine ⟨g, 0, rfl, (Array.getElem?_eq_some_iff.1 hg).1, fun j u hu => ?_⟩
    rw [← ht, List.getElem?_take] at hu
    rw [Nat.zero_add, cell_of_row w g j cur e (0, 0) hg]
    split at hu
    · simpa using hu
    · cases hu
end

/-- what an owned row's value looks like -/
theorem own_form {w : World} {base : Nat} {e : TypeId} {v : Value} {n : Nat} {xs : List Value} (h : w.ownsRow base e 1 v n xs) : ∃ A c, v = .slice A n c ∧ n ≤ c ∧ c ≤ maxLen := by
  rcases h.2 with ⟨rfl, rfl⟩ | ⟨g, cap, cur, rfl, _, _, hn, hc, _⟩
  · exact ⟨none, 0, rfl, Nat.le_refl _, Nat.zero_le _⟩
  · exact ⟨_, cap, rfl, hn, hc⟩

/-- the lowest m bytes of x, the highest first -/
def be (m x : Nat) : List Nat := (List.range m).map fun i => x / 2 ^ (8 * (m - 1 - i)) % 256
/-- what bytes tell -/
def val (l : List Nat) : Nat := l.foldl (fun a b => a * 256 + b) 0

theorem be_len (m x : Nat) : (be m x).length = m := by simp [be]
theorem be_take (m x i : Nat) (h : i < m) : (be m x).take (i + 1) = (be m x).take i ++ [x / 2 ^ (8 * (m - 1 - i)) % 256] := by
  have hl : i < (be m x).length := by rw [be_len]; exact h
  rw [List.take_succ_eq_append_getElem hl]; simp [be]
theorem be_lt (m x : Nat) : ∀ y ∈ be m x, y < 256 := by
  intro y hy; obtain ⟨i, _, rfl⟩ := List.mem_map.1 hy; exact Nat.mod_lt _ (by decide)
theorem be_succ (m x : Nat) : be (m + 1) x = be m (x / 256) ++ [x % 256] := by
  unfold be
  rw [List.range_succ, List.map_append]
  congr 1
  · refine List.map_congr_left fun i hi => ?_
    have hi' := List.mem_range.1 hi
    have e : 8 * (m + 1 - 1 - i) = 8 + 8 * (m - 1 - i) := by omega
    rw [e, Nat.pow_add, ← Nat.div_div_eq_div_mul]
  · simp
theorem val_snoc (l : List Nat) (y : Nat) : val (l ++ [y]) = val l * 256 + y := by simp [val]
theorem val_be (m : Nat) : ∀ x, val (be m x) = x % 256 ^ m := by
  induction m with
  | zero => intro x; simp [be, val, Nat.mod_one]
  | succ m ih =>
    intro x
    rw [be_succ, val_snoc, ih, Nat.pow_succ, Nat.mul_comm (256 ^ m) 256, Nat.mod_mul]
    omega
theorem val_go (l : List Nat) : ∀ a, (∀ y ∈ l, y < 256) → l.foldl (fun a b => a * 256 + b) a < (a + 1) * 256 ^ l.length := by
  induction l with
  | nil => intro a _; simp
  | cons y l ih =>
    intro a h
    have h1 := ih (a * 256 + y) fun z hz => h z (List.mem_cons_of_mem _ hz)
    have h2 := h y (by simp)
    have h3 : (a * 256 + y + 1) * 256 ^ l.length ≤ ((a + 1) * 256) * 256 ^ l.length := Nat.mul_le_mul_right _ (by omega)
    simp only [List.foldl_cons, List.length_cons, Nat.pow_succ]
    have h4 : (a + 1) * (256 ^ l.length * 256) = (a + 1) * 256 * 256 ^ l.length := by rw [Nat.mul_comm (256 ^ l.length) 256, Nat.mul_assoc]
    omega
theorem val_lt (l : List Nat) (h : ∀ y ∈ l, y < 256) : val l < 256 ^ l.length := by simpa [val] using val_go l 0 h
end Go.Proofs.YtkmjfaaelkmnkaaDoor
