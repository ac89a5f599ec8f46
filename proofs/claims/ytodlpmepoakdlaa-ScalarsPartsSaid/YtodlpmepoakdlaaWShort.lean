/-
  What digits tell, to any base: a list, the lowest first. Blocks of memory that are just some cells. Nothing here speaks of the program.
-/
import Derived.OwnWalk
import Derived.Laws.OwnMore
import Derived.Laws.MakeOwn
import Derived.Laws.Rows
import Derived.Laws.CopyOwn
import Derived.Test.YtodlpmepoakdlaaWBits
namespace Go.Proofs.Ytodlpmepoakdlaa
set_option maxRecDepth 100000
open Go.RowKit
set_option linter.unusedSimpArgs false
set_option linter.unusedVariables false

/-- what digits tell -/
def lv (b : Nat) : List Nat → Nat
  | [] => 0
  | x :: l => x + b * lv b l
theorem lv_set (b : Nat) : ∀ (l : List Nat) (k v : Nat), k < l.length → lv b (l.set k v) + b ^ k * l.getD k 0 = lv b l + b ^ k * v
  | [], _, _, h => absurd h (Nat.not_lt_zero _)
  | x :: l, 0, v, _ => by simp [lv]; omega
  | x :: l, k + 1, v, h => by
    have ih := lv_set b l k v (by simpa using h)
    have e : b * (lv b (l.set k v) + b ^ k * l.getD k 0) = b * (lv b l + b ^ k * v) := by rw [ih]
    rw [Nat.mul_add, Nat.mul_add, ← Nat.mul_assoc, ← Nat.mul_assoc, Nat.mul_comm b (b ^ k), show b ^ k * b = b ^ (k + 1) from (Nat.pow_succ _ _).symm] at e
    simp only [List.set_cons_succ, lv, List.getD_cons_succ]
    omega
/-- one digit more of a row of a product -/
theorem row_step (b V x Y c c' l' i j : Nat) (L : List Nat) (hk : i + j < L.length) (inv : lv b L + b ^ (i + j) * c = V + b ^ i * (x * (Y % b ^ j)))
    (st : x * (Y / b ^ j % b) + L.getD (i + j) 0 + c = l' + b * c') : lv b (L.set (i + j) l') + b ^ (i + (j + 1)) * c' = V + b ^ i * (x * (Y % b ^ (j + 1))) := by
  have s := lv_set b L (i + j) l' hk
  have m := congrArg (b ^ (i + j) * ·) st
  simp only [Nat.mul_add] at m
  rw [Nat.mod_pow_succ, Nat.mul_add, Nat.mul_add, ← Nat.add_assoc i j 1, show b ^ (i + j + 1) = b ^ (i + j) * b from Nat.pow_succ _ _]
  have e1 : b ^ (i + j) * (x * (Y / b ^ j % b)) = b ^ i * (x * (b ^ j * (Y / b ^ j % b))) := by rw [Nat.pow_add]; ac_rfl
  have e2 : b ^ (i + j) * (b * c') = b ^ (i + j) * b * c' := by ac_rfl
  omega
/-- a row of a product is done -/
theorem row_done (b X Y n i c : Nat) (L : List Nat) (hY : Y < b ^ n) (hk : i + n < L.length) (h0 : L.getD (i + n) 0 = 0)
    (inv : lv b L + b ^ (i + n) * c = X % b ^ i * Y + b ^ i * (X / b ^ i % b * (Y % b ^ n))) : lv b (L.set (i + n) c) = X % b ^ (i + 1) * Y := by
  have s := lv_set b L (i + n) c hk
  rw [h0] at s
  rw [Nat.mod_pow_succ, Nat.add_mul, Nat.mul_assoc]
  rw [Nat.mod_eq_of_lt hY] at inv
  omega

/-- block g is just the cells cs, of type t, none frozen -/
def At (w : World) (g : Nat) (t : TypeId) (cs : Array Value) : Prop := w.heap[g]? = some (.cells cs t (0, 0))
section
variable {w w' : World} {g : Nat} {t : TypeId} {cs : Array Value}
theorem At.lt (h : At w g t cs) : g < w.heap.size := (Array.getElem?_eq_some_iff.1 h).1
theorem At.cell (h : At w g t cs) (i : Nat) : w.cell? ⟨g, i, none⟩ = cs[i]? := cell_of_row w g i cs t (0, 0) h
theorem At.frozen (h : At w g t cs) (i : Nat) : w.frozen? ⟨g, i, none⟩ = false := by
  unfold At at h
  simp [World.frozen?, h]
theorem At.new (w : World) (t : TypeId) (cs : Array Value) : At (w.alloc (.cells cs t)) w.heap.size t cs := heap_alloc_new w _
theorem At.at_ (w : World) (g : Nat) (t : TypeId) (cs : Array Value) (h : g = w.heap.size) : At (w.alloc (.cells cs t)) g t cs := by rw [h]; exact At.new w t cs
theorem At.alloc (h : At w g t cs) (o : Obj) : At (w.alloc o) g t cs := (Below.heap_alloc w o g h.lt).trans h
theorem At.drew (h : At w g t cs) : At w.drew g t cs := h
theorem At.drewN (h : At w g t cs) (k : Nat) : At (w.drewN k) g t cs := h
theorem At.set (h : At w g t cs) (i : Nat) (u : Value) : At (w.setCell ⟨g, i, none⟩ u) g t (cs.setIfInBounds i u) := by
  unfold At at h ⊢
  simp [World.setCell, Array.getElem?_modify, h]
theorem At.far (h : At w g t cs) {p : Addr} (hp : p.block ≠ g) (u : Value) : At (w.setCell p u) g t cs := by
  unfold At at h ⊢
  simp [World.setCell, Array.getElem?_modify, hp, h]
theorem At.row (h : At w g t cs) (ds : Array Value) : At (w.setRow g ds) g t ds := setRow_heap w g _ _ t _ h
theorem At.rowFar (h : At w g t cs) {g' : Nat} (hne : g ≠ g') (ds : Array Value) : At (w.setRow g' ds) g t cs := (setRow_other w g' g ds hne).trans h
theorem At.again (h : At w g t cs) (i : Nat) (v : Value) (hv : cs[i]? = some v) : w.setCell ⟨g, i, none⟩ v = w := by
  have hs : w.setCell ⟨g, i, none⟩ v = w.setRow g (cs.setIfInBounds i v) := by
    unfold At at h
    simp only [World.setCell, World.setRow]
    congr 1
    apply Array.ext
    · simp
    · intro k h1 h2
      simp only [Array.getElem_modify]
      split
      · rename_i hk
        subst hk
        have := (Array.getElem?_eq_some_iff.1 h).2
        simp [this]
      · rfl
  rw [hs]
  have e : cs.setIfInBounds i v = cs := by
    obtain ⟨hi, hv⟩ := Array.getElem?_eq_some_iff.1 hv
    subst hv
    apply Array.ext
    · simp
    · intro k h1 h2
      rw [Array.getElem_setIfInBounds h2]
      split
      · rename_i hk; subst hk; rfl
      · rfl
  rw [e]
  exact setRow_self w g cs t (0, 0) h
theorem At.on (h : At w g t cs) (hb : Below w.heap.size w w') : At w' g t cs := (hb.block g h.lt).trans h
end

theorem At.put4 {w : World} {g : Nat} {t : TypeId} {a b c d : Value} (h : At w g t #[a, b, c, d]) (a' b' c' d' : Value) :
    At ((((w.setCell ⟨g, 0, none⟩ a').setCell ⟨g, 1, none⟩ b').setCell ⟨g, 2, none⟩ c').setCell ⟨g, 3, none⟩ d') g t #[a', b', c', d'] := by
  simpa using (((h.set 0 a').set 1 b').set 2 c').set 3 d'
theorem At.far4 {w : World} {g g' : Nat} {t : TypeId} {cs : Array Value} (h : At w g t cs) (hne : g ≠ g') (a' b' c' d' : Value) :
    At ((((w.setCell ⟨g', 0, none⟩ a').setCell ⟨g', 1, none⟩ b').setCell ⟨g', 2, none⟩ c').setCell ⟨g', 3, none⟩ d') g t cs :=
  (((h.far (by exact fun e => hne e.symm) a').far (by exact fun e => hne e.symm) b').far (by exact fun e => hne e.symm) c').far (by exact fun e => hne e.symm) d'

/-- words as values -/
def ws (l : List Nat) : Array Value := (l.map fun x : Nat => (.int .u64 (x : Nat) : Value)).toArray
theorem ws_at (l : List Nat) (k : Nat) (h : k < l.length) : (ws l)[k]? = some (.int .u64 (l.getD k 0 : Nat)) := by simp [ws, h]
theorem ws_set (l : List Nat) (k v : Nat) : (ws l).setIfInBounds k (.int .u64 (v : Nat)) = ws (l.set k v) := by simp [ws, List.map_set]
/-- a long number's words -/
def wl (X : Nat) : List Nat := [wd X 0, wd X 1, wd X 2, wd X 3]
theorem wl_at (X k : Nat) (h : k < 4) : (wl X).getD k 0 = wd X k := by
  match k, h with
  | 0, _ | 1, _ | 2, _ | 3, _ => rfl
end Go.Proofs.Ytodlpmepoakdlaa

/-
  Short forms: a block, and what lies below, in a world that has a letter; the cells of a block of four.
-/
namespace Go.Proofs.Ytodlpmepoakdlaa
set_option maxRecDepth 100000
open Go.RowKit
set_option linter.unusedSimpArgs false
set_option linter.unusedVariables false

theorem at_of {w w' : World} (h : w = w') {g : Nat} {t : TypeId} {cs : Array Value} (p : At w g t cs) : At w' g t cs := h ▸ p
theorem gr_of {n : Nat} {u w w' : World} (h : w = w') (p : Below n u w) : Below n u w' := h ▸ p
theorem At.c0 {w : World} {g : Nat} {t : TypeId} {a b c d : Value} (h : At w g t #[a, b, c, d]) : w.cell? ⟨g, 0, none⟩ = some a := h.cell 0
theorem At.c1 {w : World} {g : Nat} {t : TypeId} {a b c d : Value} (h : At w g t #[a, b, c, d]) : w.cell? ⟨g, 1, none⟩ = some b := h.cell 1
theorem At.c2 {w : World} {g : Nat} {t : TypeId} {a b c d : Value} (h : At w g t #[a, b, c, d]) : w.cell? ⟨g, 2, none⟩ = some c := h.cell 2
theorem At.c3 {w : World} {g : Nat} {t : TypeId} {a b c d : Value} (h : At w g t #[a, b, c, d]) : w.cell? ⟨g, 3, none⟩ = some d := h.cell 3
end Go.Proofs.Ytodlpmepoakdlaa
