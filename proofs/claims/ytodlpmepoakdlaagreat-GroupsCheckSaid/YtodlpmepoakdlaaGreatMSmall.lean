import Derived.OwnWalk
import Derived.Laws.OwnMore
import Derived.Laws.MakeOwn
import Derived.Laws.Rows
import Derived.Laws.CopyOwn
import Derived.ChangeArms
import Derived.Deep.Slices
import Derived.Test.YtodlpmepoakdlaaGreatRows
import Derived.WalkKit
import Derived.Below
import Derived.Deep.LoopGhost
import Derived.Lib.Hide
import Derived.Test.YtodlpmepoakdlaaGreatMAdd
import Derived.Test.YtodlpmepoakdlaaGreatMRsn
namespace Go.Proofs.YtodlpmepoakdlaaGreat
set_option maxRecDepth 100000
open Go.RowKit
set_option linter.unusedSimpArgs false
set_option linter.unusedVariables false

def lv (b : Nat) : List Nat → Nat
 | [] => 0
 | x :: l => x + b * lv b l
theorem Jej (b : Nat) : ∀ (l : List Nat) (k v : Nat), k < l.length → lv b (l.set k v) + b ^ k * l.getD k 0 = lv b l + b ^ k * v
 | [], _, _, h => absurd h (Nat.not_lt_zero _)
 | x :: l, 0, v, _ => by simp [lv]; omega
 | x :: l, k + 1, v, h => by
  have ih := Jej b l k v (by simpa using h)
  have e : b * (lv b (l.set k v) + b ^ k * l.getD k 0) = b * (lv b l + b ^ k * v) := by rw [ih]
  rw [Nat.mul_add, Nat.mul_add, ← Nat.mul_assoc, ← Nat.mul_assoc, Nat.mul_comm b (b ^ k), show b ^ k * b = b ^ (k + 1) from (Nat.pow_succ _ _).symm] at e
  simp only [List.set_cons_succ, lv, List.getD_cons_succ]
  omega
theorem Jca (b : Nat) : ∀ (l m : List Nat), lv b (l ++ m) = lv b l + b ^ l.length * lv b m
 | [], m => by simp [lv]
 | x :: l, m => by
  simp only [List.cons_append, lv, Jca b l m, List.length_cons, Nat.pow_succ, Nat.mul_add]
  rw [← Nat.mul_assoc, Nat.mul_comm b (b ^ l.length)]; omega
theorem Jed (b : Nat) : ∀ (l : List Nat), (∀ x ∈ l, x < b) → lv b l < b ^ l.length
 | [], _ => by simp [lv]
 | x :: l, h => by
  have ih := Jed b l fun y hy => h y (List.mem_cons_of_mem _ hy)
  have hx := h x (by simp)
  simp only [lv, List.length_cons, Nat.pow_succ]
  have : b * (lv b l + 1) ≤ b * b ^ l.length := Nat.mul_le_mul_left b ih
  rw [Nat.mul_add, Nat.mul_comm b (b ^ l.length)] at this
  omega
theorem row_step (b V x Y c c' l' i j : Nat) (L : List Nat) (hk : i + j < L.length) (inv : lv b L + b ^ (i + j) * c = V + b ^ i * (x * (Y % b ^ j)))
  (st : x * (Y / b ^ j % b) + L.getD (i + j) 0 + c = l' + b * c') : lv b (L.set (i + j) l') + b ^ (i + (j + 1)) * c' = V + b ^ i * (x * (Y % b ^ (j + 1))) := by
 have s := Jej b L (i + j) l' hk
 have m := congrArg (b ^ (i + j) * ·) st
 simp only [Nat.mul_add] at m
 rw [Nat.mod_pow_succ, Nat.mul_add, Nat.mul_add, ← Nat.add_assoc i j 1, show b ^ (i + j + 1) = b ^ (i + j) * b from Nat.pow_succ _ _]
 have e1 : b ^ (i + j) * (x * (Y / b ^ j % b)) = b ^ i * (x * (b ^ j * (Y / b ^ j % b))) := by rw [Nat.pow_add]; ac_rfl
 have e2 : b ^ (i + j) * (b * c') = b ^ (i + j) * b * c' := by ac_rfl
 omega
theorem row_done (b X Y n i c : Nat) (L : List Nat) (hY : Y < b ^ n) (hk : i + n < L.length) (h0 : L.getD (i + n) 0 = 0)
  (inv : lv b L + b ^ (i + n) * c = X % b ^ i * Y + b ^ i * (X / b ^ i % b * (Y % b ^ n))) : lv b (L.set (i + n) c) = X % b ^ (i + 1) * Y := by
 have s := Jej b L (i + n) c hk
 rw [h0] at s
 rw [Nat.mod_pow_succ, Nat.add_mul, Nat.mul_assoc]
 rw [Nat.mod_eq_of_lt hY] at inv
 omega

def At (w : World) (g : Nat) (t : TypeId) (cs : Array Value) : Prop := w.heap[g]? = some (.cells cs t (0, 0))
section
variable {w w' : World} {g : Nat} {t : TypeId} {cs : Array Value}
theorem At.lt (h : At w g t cs) : g < w.heap.size := (Array.getElem?_eq_some_iff.1 h).1
theorem At.cell (h : At w g t cs) (i : Nat) : w.cell? ⟨g, i, none⟩ = cs[i]? := cell_of_row w g i cs t (0, 0) h
theorem At.frozen (h : At w g t cs) (i : Nat) : w.frozen? ⟨g, i, none⟩ = false := by
 unfold At at h
 simp [World.frozen?, h]
theorem At.new (w : World) (t : TypeId) (cs : Array Value) : At (w.alloc (.cells cs t)) w.heap.size t cs := heap_alloc_new w _
theorem At.at_ (w : World) (g : Nat) (t : TypeId) (cs : Array Value) (h : g = w.heap.size) : At (w.alloc (.cells cs t)) g t cs := by rw [h]; exact At.new w t cs
theorem At.alloc (h : At w g t cs) (o : Obj) : At (w.alloc o) g t cs := (Below.heap_alloc w o g h.lt).trans h
theorem At.drew (h : At w g t cs) : At w.drew g t cs := h
theorem At.drewN (h : At w g t cs) (k : Nat) : At (w.drewN k) g t cs := h
theorem At.set (h : At w g t cs) (i : Nat) (u : Value) : At (w.setCell ⟨g, i, none⟩ u) g t (cs.setIfInBounds i u) := by
 unfold At at h ⊢
 simp [World.setCell, Array.getElem?_modify, h]
theorem At.far (h : At w g t cs) {p : Addr} (hp : p.block ≠ g) (u : Value) : At (w.setCell p u) g t cs := by
 unfold At at h ⊢
 simp [World.setCell, Array.getElem?_modify, hp, h]
theorem At.row (h : At w g t cs) (ds : Array Value) : At (w.setRow g ds) g t ds := setRow_heap w g _ _ t _ h
theorem At.rowFar (h : At w g t cs) {g' : Nat} (hne : g ≠ g') (ds : Array Value) : At (w.setRow g' ds) g t cs := (setRow_other w g' g ds hne).trans h
theorem At.again (h : At w g t cs) (i : Nat) (v : Value) (hv : cs[i]? = some v) : w.setCell ⟨g, i, none⟩ v = w := by
 have hs : w.setCell ⟨g, i, none⟩ v = w.setRow g (cs.setIfInBounds i v) := by
  unfold At at h
  simp only [World.setCell, World.setRow]
  congr 1
  apply Array.ext
  ·simp
  ·intro k h1 h2
   simp only [Array.getElem_modify]
   split
   ·rename_i hk
    subst hk
    have := (Array.getElem?_eq_some_iff.1 h).2
    simp [this]
   ·rfl
 rw [hs]
 have e : cs.setIfInBounds i v = cs := by
  obtain ⟨hi, hv⟩ := Array.getElem?_eq_some_iff.1 hv
  subst hv
  apply Array.ext
  ·simp
  ·intro k h1 h2
   rw [Array.getElem_setIfInBounds h2]
   split
   ·rename_i hk; subst hk; rfl
   ·rfl
 rw [e]
 exact setRow_self w g cs t (0, 0) h
theorem At.on (h : At w g t cs) (hb : Below w.heap.size w w') : At w' g t cs := (hb.block g h.lt).trans h
end

theorem At.put4 {w : World} {g : Nat} {t : TypeId} {a b c d : Value} (h : At w g t #[a, b, c, d]) (a' b' c' d' : Value) :
  At ((((w.setCell ⟨g, 0, none⟩ a').setCell ⟨g, 1, none⟩ b').setCell ⟨g, 2, none⟩ c').setCell ⟨g, 3, none⟩ d') g t #[a', b', c', d'] := by
 simpa using (((h.set 0 a').set 1 b').set 2 c').set 3 d'
theorem At.far4 {w : World} {g g' : Nat} {t : TypeId} {cs : Array Value} (h : At w g t cs) (hne : g ≠ g') (a' b' c' d' : Value) :
  At ((((w.setCell ⟨g', 0, none⟩ a').setCell ⟨g', 1, none⟩ b').setCell ⟨g', 2, none⟩ c').setCell ⟨g', 3, none⟩ d') g t cs :=
 (((h.far (by exact fun e => hne e.symm) a').far (by exact fun e => hne e.symm) b').far (by exact fun e => hne e.symm) c').far (by exact fun e => hne e.symm) d'

theorem Ka {w : World} {g X : Nat} {t : TypeId} (h : At w g t (ncs X)) : w.cell? ⟨g, 0, none⟩ = some (.int .u64 (wd X 0)) ∧ w.cell? ⟨g, 1, none⟩ = some (.int .u64 (wd X 1)) ∧ w.cell? ⟨g, 2, none⟩ = some (.int .u64 (wd X 2)) ∧ w.cell? ⟨g, 3, none⟩ = some (.int .u64 (wd X 3)) := ⟨h.cell 0, h.cell 1, h.cell 2, h.cell 3⟩
theorem Vb {w : World} {g : Nat} {t : TypeId} {cs : Array Value} (h : At w g t cs) : w.frozen? ⟨g, 0, none⟩ = false ∧ w.frozen? ⟨g, 1, none⟩ = false ∧ w.frozen? ⟨g, 2, none⟩ = false ∧ w.frozen? ⟨g, 3, none⟩ = false := ⟨h.frozen 0, h.frozen 1, h.frozen 2, h.frozen 3⟩
theorem Jah {w : World} {g N Y : Nat} {t : TypeId} {s : Value} (h : At w g t #[.int .u64 (wd N 0), .int .u64 (wd N 1), .int .u64 (wd N 2), .int .u64 (wd N 3), .int .u64 (wd Y 0), .int .u64 (wd Y 1), .int .u64 (wd Y 2), .int .u64 (wd Y 3), s]) : w.cell? ⟨g, 0, none⟩ = some (.int .u64 (wd N 0)) ∧ w.cell? ⟨g, 1, none⟩ = some (.int .u64 (wd N 1)) ∧ w.cell? ⟨g, 2, none⟩ = some (.int .u64 (wd N 2)) ∧ w.cell? ⟨g, 3, none⟩ = some (.int .u64 (wd N 3)) ∧ w.cell? ⟨g, 4, none⟩ = some (.int .u64 (wd Y 0)) ∧ w.cell? ⟨g, 5, none⟩ = some (.int .u64 (wd Y 1)) ∧ w.cell? ⟨g, 6, none⟩ = some (.int .u64 (wd Y 2)) ∧ w.cell? ⟨g, 7, none⟩ = some (.int .u64 (wd Y 3)) ∧ w.cell? ⟨g, 8, none⟩ = some s := ⟨h.cell 0, h.cell 1, h.cell 2, h.cell 3, h.cell 4, h.cell 5, h.cell 6, h.cell 7, h.cell 8⟩
def ws (l : List Nat) : Array Value := (l.map fun x : Nat => (.int .u64 (x : Nat) : Value)).toArray
theorem Wk (l : List Nat) (k : Nat) (h : k < l.length) : (ws l)[k]? = some (.int .u64 (l.getD k 0 : Nat)) := by simp [ws, h]
theorem Uz (l : List Nat) (k v : Nat) : (ws l).setIfInBounds k (.int .u64 (v : Nat)) = ws (l.set k v) := by simp [ws, List.map_set]
def wl (X : Nat) : List Nat := [wd X 0, wd X 1, wd X 2, wd X 3]
theorem Jex (X k : Nat) (h : k < 4) : (wl X).getD k 0 = wd X k := by
 match k, h with
 | 0, _ | 1, _ | 2, _ | 3, _ => rfl
theorem Jb {w w' : World} (h : w = w') {g : Nat} {t : TypeId} {cs : Array Value} (p : At w g t cs) : At w' g t cs := h ▸ p
theorem gr_of {n : Nat} {u w w' : World} (h : w = w') (p : Below n u w) : Below n u w' := h ▸ p
theorem At.c0 {w : World} {g : Nat} {t : TypeId} {a b c d : Value} (h : At w g t #[a, b, c, d]) : w.cell? ⟨g, 0, none⟩ = some a := h.cell 0
theorem At.c1 {w : World} {g : Nat} {t : TypeId} {a b c d : Value} (h : At w g t #[a, b, c, d]) : w.cell? ⟨g, 1, none⟩ = some b := h.cell 1
theorem At.c2 {w : World} {g : Nat} {t : TypeId} {a b c d : Value} (h : At w g t #[a, b, c, d]) : w.cell? ⟨g, 2, none⟩ = some c := h.cell 2
theorem At.c3 {w : World} {g : Nat} {t : TypeId} {a b c d : Value} (h : At w g t #[a, b, c, d]) : w.cell? ⟨g, 3, none⟩ = some d := h.cell 3
open Pr (Rsn)
abbrev rv (n y : Nat) (s : Value) : Value := .agg #[.int .u64 (wd n 0), .int .u64 (wd n 1), .int .u64 (wd n 2), .int .u64 (wd n 3), .int .u64 (wd y 0), .int .u64 (wd y 1), .int .u64 (wd y 2), .int .u64 (wd y 3), s]

def W4 (w : World) (g off X : Nat) : Prop := X < 2 ^ 256 ∧ ∀ k, k < 4 → w.cell? ⟨g, off + k, none⟩ = some (.int .u64 (wd X k))

mutual
def RsAt (w : World) : Rsn → Nat → Nat → Prop
 | .mk n y ps, g, off => W4 w g off n ∧ W4 w g (off + 4) y ∧ ∃ a cap, w.cell? ⟨g, off + 8, none⟩ = some (.slice a ps.length cap) ∧ ps.length ≤ cap ∧ cap ≤ 9223372036854775807 ∧ (a = none → cap = 0) ∧
   (ps = [] ∨ ∃ g' off', a = some ⟨g', off', none⟩ ∧ RsLs w ps g' off')
def RsLs (w : World) : List Rsn → Nat → Nat → Prop
 | [], _, _ => True
 | r :: rs, g, off => RsAt w r g off ∧ RsLs w rs g (off + 9)
end
def Sl (w : World) (a : Option Addr) (cap : Nat) (ps : List Rsn) : Prop :=
 ps.length ≤ cap ∧ cap ≤ 9223372036854775807 ∧ (a = none → cap = 0) ∧ (ps = [] ∨ ∃ g off, a = some ⟨g, off, none⟩ ∧ RsLs w ps g off)

theorem rsAt_iff {w : World} {r : Rsn} {g off : Nat} : RsAt w r g off ↔ W4 w g off r.n ∧ W4 w g (off + 4) r.w ∧ ∃ a cap, w.cell? ⟨g, off + 8, none⟩ = some (.slice a r.ps.length cap) ∧ Sl w a cap r.ps := by
 cases r with
 | mk n y ps => simp only [RsAt, Sl, Rsn.n, Rsn.w, Rsn.ps]

theorem W4.keep {w w' : World} (hk : ∀ p v, w.cell? p = some v → w'.cell? p = some v) {g off X : Nat} (h : W4 w g off X) : W4 w' g off X := ⟨h.1, fun k hk' => hk _ _ (h.2 k hk')⟩
mutual
theorem RsAt.keep {w w' : World} (hk : ∀ p v, w.cell? p = some v → w'.cell? p = some v) : ∀ (r : Rsn) {g off : Nat}, RsAt w r g off → RsAt w' r g off
 | .mk n y ps, g, off, h => by
   simp only [RsAt] at h ⊢
   obtain ⟨h1, h2, a, cap, hc, hl, hm, hn, hp⟩ := h
   refine ⟨h1.keep hk, h2.keep hk, a, cap, hk _ _ hc, hl, hm, hn, ?_⟩
   rcases hp with h | ⟨g', off', e, h⟩
   ·exact Or.inl h
   ·exact Or.inr ⟨g', off', e, RsLs.keep hk ps h⟩
theorem RsLs.keep {w w' : World} (hk : ∀ p v, w.cell? p = some v → w'.cell? p = some v) : ∀ (ps : List Rsn) {g off : Nat}, RsLs w ps g off → RsLs w' ps g off
 | [], _, _, _ => by simp only [RsLs]
 | r :: rs, g, off, h => by
   simp only [RsLs] at h ⊢
   exact ⟨RsAt.keep hk r h.1, RsLs.keep hk rs h.2⟩
end
theorem Sl.keep {w w' : World} (hk : ∀ p v, w.cell? p = some v → w'.cell? p = some v) {a : Option Addr} {cap : Nat} {ps : List Rsn} (h : Sl w a cap ps) : Sl w' a cap ps := by
 obtain ⟨hl, hm, hn, hp⟩ := h
 refine ⟨hl, hm, hn, ?_⟩
 rcases hp with h | ⟨g', off', e, h⟩
 ·exact Or.inl h
 ·exact Or.inr ⟨g', off', e, RsLs.keep hk ps h⟩
theorem Sl.on {w w' : World} {a : Option Addr} {cap : Nat} {ps : List Rsn} (h : Sl w a cap ps) (hb : Below w.heap.size w w') : Sl w' a cap ps := h.keep fun _ _ => Vk hb

theorem RsLs.get {w : World} : ∀ {ps : List Rsn} {g off i : Nat} (h : RsLs w ps g off) (hi : i < ps.length), RsAt w ps[i] g (off + 9 * i)
 | r :: rs, g, off, 0, h, _ => by simp only [RsLs] at h; exact h.1
 | r :: rs, g, off, i + 1, h, hi => by
   simp only [RsLs] at h
   have := RsLs.get (i := i) h.2 (by simpa using hi)
   rw [show off + 9 + 9 * i = off + 9 * (i + 1) by omega] at this
   exact this
theorem RsLs.of {w : World} : ∀ {ps : List Rsn} {g off : Nat}, (∀ i (hi : i < ps.length), RsAt w ps[i] g (off + 9 * i)) → RsLs w ps g off
 | [], _, _, _ => by simp only [RsLs]
 | r :: rs, g, off, h => by
   simp only [RsLs]
   refine ⟨h 0 (by simp), RsLs.of fun i hi => ?_⟩
   have := h (i + 1) (by simpa using hi)
   rw [show off + 9 + 9 * i = off + 9 * (i + 1) by omega]
   exact this
theorem Sl.get {w : World} {a : Option Addr} {cap : Nat} {ps : List Rsn} (h : Sl w a cap ps) {i : Nat} (hi : i < ps.length) : ∃ g off, a = some ⟨g, off, none⟩ ∧ RsAt w ps[i] g (off + 9 * i) := by
 rcases h.2.2.2 with h | ⟨g, off, e, h⟩
 ·subst h; simp at hi
 ·exact ⟨g, off, e, h.get hi⟩

theorem Tryz.cells28 : Tryz.prog.cellsOf 29 = 9 := by kernel_rfl
theorem Tryz.cells26 : Tryz.prog.cellsOf 27 = 1 := by kernel_rfl
open Go.ChangeShapes Go.WideShapes Go.ChangeAt Go.Deep
instance : Inhabited Rsn := ⟨.mk 0 0 []⟩
section
variable {H : Type} {enc : TypeId × Value → H} {w : World} {held : Bool}
theorem open_rsn (fuel : Nat) : ∀ {cs : List Value} {x : DataW H × List MemPlace}, DataW.trod enc Tryz.prog w 0 (fun _ => true) held fuel 29 cs = some x →
  ∃ n y a cap ps, cs = [.int .u64 (wd n 0), .int .u64 (wd n 1), .int .u64 (wd n 2), .int .u64 (wd n 3), .int .u64 (wd y 0), .int .u64 (wd y 1), .int .u64 (wd y 2), .int .u64 (wd y 3), .slice a ps.length cap] ∧ n < 2 ^ 256 ∧ y < 2 ^ 256 ∧ Sl w a cap ps := by
 induction fuel using Nat.strongRecOn with
 | _ fuel ih =>
  intro cs x h
  obtain ⟨xs, m, hm, _, hl, hlen, hf⟩ := DataW.trod_struct Tryz.underlying29 h
  rw [Tryz.cells28] at hl
  match cs, hl with
  | [c0, c1, c2, c3, c4, c5, c6, c7, c8], _ =>
   match xs, hlen with
   | [y0, y1, y2], _ =>
    have h0 : DataW.trod enc Tryz.prog w 0 (fun _ => true) held m 24 [c0, c1, c2, c3] = some y0 := by simpa [Tryz.cells24] using hf 0 _ rfl
    have h1 : DataW.trod enc Tryz.prog w 0 (fun _ => true) held m 24 [c4, c5, c6, c7] = some y1 := by simpa [Tryz.cells24] using hf 1 _ rfl
    have h2 : DataW.trod enc Tryz.prog w 0 (fun _ => true) held m 27 [c8] = some y2 := by simpa [Tryz.cells26] using hf 2 _ rfl
    obtain ⟨n, hn, rfl, rfl, rfl, rfl⟩ := Vy h0
    obtain ⟨y, hy, rfl, rfl, rfl, rfl⟩ := Vy h1
    rcases DataW.trod_slice Tryz.underlying27 h2 with ⟨hc, _⟩ | ⟨a, len, cap, elems, rest, k, hk, hc, _, _, hlc, hcm, hel, hget, _⟩
    ·obtain rfl : c8 = .slice none 0 0 := by simpa using hc
     exact ⟨n, y, none, 0, [], rfl, hn, hy, Nat.le_refl _, Nat.zero_le _, fun _ => rfl, Or.inl rfl⟩
    ·obtain rfl : c8 = .slice (some a) len cap := by simpa using hc
     rw [Tryz.cells28] at hget
     have sp0 : 0 < len → a.spot = none := by
      intro hi
      have hg := hget 0 hi
      rw [List.getElem?_eq_getElem (by omega)] at hg
      obtain ⟨ci, hci, ht⟩ := Option.bind_eq_some_iff.1 hg
      obtain ⟨_, hcl, hcell⟩ := World.cells?_some hci
      have h0 := hcell 0 (by omega)
      rw [List.getElem?_eq_getElem (by omega)] at h0
      simpa [Addr.add] using World.cell?_spot h0
     have each : ∀ i, i < len → ∃ r : Rsn, a.spot = none ∧ RsAt w r a.block (a.off + 9 * i) := by
      intro i hi
      have hg := hget i hi
      rw [List.getElem?_eq_getElem (by omega)] at hg
      obtain ⟨ci, hci, ht⟩ := Option.bind_eq_some_iff.1 hg
      obtain ⟨_, _, hcell⟩ := World.cells?_some hci
      obtain ⟨n', y', a', cap', ps', rfl, hn', hy', hs'⟩ := ih k (by omega) ht
      have sp : a.spot = none := sp0 (by omega)
      have cell : ∀ j (hj : j < 9), w.cell? ⟨a.block, a.off + 9 * i + j, none⟩ = [Value.int .u64 (wd n' 0), .int .u64 (wd n' 1), .int .u64 (wd n' 2), .int .u64 (wd n' 3), .int .u64 (wd y' 0), .int .u64 (wd y' 1), .int .u64 (wd y' 2), .int .u64 (wd y' 3), .slice a' ps'.length cap'][j]? := by
       intro j hj
       have := hcell j hj
       obtain ⟨b, off, spot⟩ := a
       simp only at sp
       subst sp
       rw [Addr.add_lit, Addr.add_lit] at this
       rw [← this, Nat.mul_comm i 9]
      refine ⟨.mk n' y' ps', sp, rsAt_iff.mpr ⟨⟨hn', fun j hj => ?_⟩, ⟨hy', fun j hj => ?_⟩, a', cap', cell 8 (by omega), hs'⟩⟩
      ·rw [cell j (by omega)]
       match j, hj with
       | 0, _ | 1, _ | 2, _ | 3, _ => rfl
      ·rw [Nat.add_assoc, cell (4 + j) (by omega)]
       match j, hj with
       | 0, _ | 1, _ | 2, _ | 3, _ => rfl
     obtain ⟨F, hF⟩ := choose_lt each
     have hlen : ((List.range len).map F).length = len := by simp
     refine ⟨n, y, some a, cap, (List.range len).map F, by rw [hlen], hn, hy, by rw [hlen]; exact hlc, by unfold maxLen at hcm; omega, (fun h => by cases h), ?_⟩
     rcases Nat.eq_zero_or_pos len with hz | hz
     ·subst hz; exact Or.inl rfl
     ·obtain ⟨b, off, spot⟩ := a
      obtain rfl : spot = none := (hF 0 hz).1
      refine Or.inr ⟨b, off, rfl, RsLs.of fun i hi => ?_⟩
      rw [hlen] at hi
      rw [List.getElem_map, List.getElem_range]
      exact (hF i hi).2
end
theorem least_six (n low : Nat) (e2 : n % 2 ≠ 0) (e3 : n % 3 ≠ 0) (h6 : low % 6 = 5) (h : ∀ d, 2 ≤ d → d < low → n % d ≠ 0) (h0 : n % low ≠ 0) (h2 : n % (low + 2) ≠ 0) :
  ∀ d, 2 ≤ d → d < low + 6 → n % d ≠ 0 := by
 intro d hd hl hz
 have k2 : ∀ m, d = 2 * m → False := fun m hm => e2 (Nat.mod_eq_zero_of_dvd (Nat.dvd_trans ⟨m, hm⟩ (Nat.dvd_of_mod_eq_zero hz)))
 have k3 : ∀ m, d = 3 * m → False := fun m hm => e3 (Nat.mod_eq_zero_of_dvd (Nat.dvd_trans ⟨m, hm⟩ (Nat.dvd_of_mod_eq_zero hz)))
 rcases Nat.lt_or_ge d low with h1 | h1
 ·exact h d hd h1 hz
 ·have : d = low ∨ d = low + 1 ∨ d = low + 2 ∨ d = low + 3 ∨ d = low + 4 ∨ d = low + 5 := by omega
  rcases this with e | e | e | e | e | e
  ·exact h0 (e ▸ hz)
  ·exact k2 (d / 2) (by omega)
  ·exact h2 (e ▸ hz)
  ·exact k2 (d / 2) (by omega)
  ·exact k3 (d / 3) (by omega)
  ·exact k2 (d / 2) (by omega)

theorem idx2_0 (w : World) (a b : Int) : Sem.run Tryz.prog (Instr.index 103 (.agg #[.int .u64 a, .int .u64 b]) (.int .i64 0)) w = .ok (.int .u64 a) w := by
 simp [Instr.index, run_underlying Tryz.underlying103, asIntOf, go_sem]
theorem idx2_1 (w : World) (a b : Int) : Sem.run Tryz.prog (Instr.index 103 (.agg #[.int .u64 a, .int .u64 b]) (.int .i64 1)) w = .ok (.int .u64 b) w := by
 simp [Instr.index, run_underlying Tryz.underlying103, asIntOf, go_sem]
theorem int_mod {n d : Nat} : ((n : Int) % (d : Int) = 0) ↔ n % d = 0 := by omega

theorem not_least_0 (n d P : Nat) (h5 : 5 ≤ d) (h : 2 * d ≤ P) (hP : P ≤ n) (hz : (n : Int) % (d : Int) = 0) : d ≠ n ∧ ¬ Pr.Pri n := by
 have hz' := int_mod.mp hz
 have : d < n := by omega
 exact ⟨by omega, Pr.not_pri_of (by omega) this hz'⟩

theorem least_any (n : Nat) (h2 : 1 < n) (hn : n < 4294967296) (w : World) : Calls Tryz.prog 87 #[.int .u64 (n : Nat)] w fun e w' => ∃ d : Nat, e = .returned (.int .u64 (d : Nat)) ∧ (d = n ↔ Pr.Pri n) ∧ Below w.heap.size w w' := by
 go_enter Tryz.func87, Tryz.ntmps87
 by_cases e2 : (n : Int) % 2 = 0
 ·go_wp2
  go_step3
  go_wp2
  rw [Exit.noGoto_ret]
  go_ret
  refine ⟨2, rfl, ?_, Below.refl _ _⟩
  rcases Nat.lt_or_ge 2 n with h | h
  ·exact ⟨fun e => by omega, fun hp => absurd hp (Pr.not_pri_of (Nat.le_refl 2) h (by omega))⟩
  ·have : n = 2 := by omega
   subst this
   exact ⟨fun _ => Pr.pri_of_small (by omega) fun d h1 h2 => by
    have : 2 * 2 ≤ d * d := Nat.mul_le_mul h1 h1
    omega, fun _ => rfl⟩
 by_cases e3 : (n : Int) % 3 = 0
 ·go_wp2
  go_step3
  go_wp2
  rw [Exit.noGoto_ret]
  go_ret
  refine ⟨3, rfl, ?_, Below.refl _ _⟩
  rcases Nat.lt_or_ge 3 n with h | h
  ·exact ⟨fun e => by omega, fun hp => absurd hp (Pr.not_pri_of (by omega) h (by omega))⟩
  ·have : n = 3 := by omega
   subst this
   exact ⟨fun _ => Pr.pri_of_small (by omega) fun d h1 h2 => by
    have : 2 * 2 ≤ d * d := Nat.mul_le_mul h1 h1
    omega, fun _ => rfl⟩
 go_wp2
 go_step3
 go_wp2
 go_step3
 go_wp2
 have f2 : n % 2 ≠ 0 := by omega
 have f3 : n % 3 ≠ 0 := by omega
 go_loopg [3, 4] 65600 (fun g s3 s4 wr => ∃ low : Nat, s3 = .int .u64 (n : Nat) ∧ s4 = .int .u64 (low : Nat) ∧ 5 ≤ low ∧ low + g = 65605 ∧ Hid (low % 6 = 5 ∧ ∀ d, 2 ≤ d → d < low → n % d ≠ 0) ∧ Hid (Below w.heap.size w wr))
 case atStart => exact ⟨5, rfl, rfl, by omega, by omega, ⟨rfl, fun d h1 h2 h3 => by
  have : d = 2 ∨ d = 3 ∨ d = 4 := by omega
  rcases this with e | e | e <;> (subst e; omega)⟩, Below.refl _ _⟩
 case round =>
  obtain ⟨low, rfl, rfl, h5, hlg, HI, BW⟩ := hrel
  obtain ⟨G, rfl⟩ : ∃ G : Nat, G = gk := ⟨_, rfl⟩
  have hll : low * low ≤ 65605 * 65605 := Nat.mul_le_mul (by omega) (by omega)
  obtain ⟨P, hP⟩ : ∃ P, P = low * low := ⟨_, rfl⟩
  have hw : IntKind.wrap .u64 ((low : Int) * (low : Int)) = (P : Int) := by
   rw [← Int.natCast_mul, ← hP]
   rw [IntKind.wrap_u64]
   omega
  have hlp : low ≤ P ∧ 5 * low ≤ P := by rw [hP]; exact ⟨Nat.le_mul_of_pos_left _ (by omega), Nat.mul_le_mul_right _ h5⟩
  by_cases hle : (P : Int) ≤ (n : Int)
  ·have HP := Jfg hP
   have HG : Hid (6 ≤ G) := by
    show 6 ≤ G
    rcases Nat.lt_or_ge G 6 with h | h
    ·have : 65600 * 65600 ≤ low * low := Nat.mul_le_mul (by omega) (by omega)
     omega
    ·exact h
   clear hP hll
   go_wp2
   obtain ⟨wo, rfl⟩ : ∃ wo : World, wo = wr := ⟨_, rfl⟩
   go_loopg [3, 27] 2 (fun g s3 s27 wi => ∃ i : Nat, s3 = .int .u64 (n : Nat) ∧ s27 = .int .i64 (i : Nat) ∧ i + g = 2 ∧ Hid (∀ j, j < i → n % (low + 2 * j) ≠ 0) ∧ Hid (Below w.heap.size w wi))
   case atStart => exact ⟨0, rfl, rfl, rfl, fun j h => absurd h (Nat.not_lt_zero _), BW.out⟩
   case round =>
    obtain ⟨i, rfl, rfl, hig, HJ, BI⟩ := hrel
    have hc : i = 0 ∨ i = 1 ∨ i = 2 := by omega
    have HIG := Jfg hig
    clear hig
    rcases hc with rfl | rfl | rfl
    ·by_cases hz : (n : Int) % (low : Int) = 0
     ·have ix := idx2_0 wr (low : Int) ((low : Int) + 2)
      have HZ := Jfg (not_least_0 n low P h5 (by omega) (by omega) hz)
      go_wp2
      rw [Exit.noGoto_ret]
      go_ret
      exact ⟨low, rfl, ⟨fun h => absurd h HZ.out.1, fun h => absurd h HZ.out.2⟩, BI.out⟩
     ·have ix := idx2_0 wr (low : Int) ((low : Int) + 2)
      go_wp2
      go_roundg 1
      case measure => have := HIG.out; omega
      case rel => exact ⟨1, rfl, rfl, rfl, fun j hj => by
       have : j = 0 := by omega
       subst this
       exact fun h => hz (int_mod.mpr h), BI.out⟩
    ·by_cases hz : (n : Int) % ((low : Int) + 2) = 0
     ·have ix := idx2_1 wr (low : Int) ((low : Int) + 2)
      have HZ := Jfg (not_least_0 n (low + 2) P (by omega) (by omega) (by omega) hz)
      go_wp2
      rw [Exit.noGoto_ret]
      go_ret
      exact ⟨low + 2, by simp, ⟨fun h => absurd h HZ.out.1, fun h => absurd h HZ.out.2⟩, BI.out⟩
     ·have ix := idx2_1 wr (low : Int) ((low : Int) + 2)
      go_wp2
      go_roundg 0
      case measure => have := HIG.out; omega
      case rel => exact ⟨2, rfl, rfl, rfl, fun j hj => by
       have : j = 0 ∨ j = 1 := by omega
       rcases this with e | e
       ·subst e; exact HJ.out 0 (by omega)
       ·subst e
        exact fun h => hz (int_mod.mpr h), BI.out⟩
    ·go_wp2
     go_roundg (G - 6)
     case measure => have := HG.out; omega
     case rel =>
      have hG := HG.out
      refine ⟨low + 6, rfl, by simp, by omega, by omega, ⟨by have := HI.out.1; omega, ?_⟩, BI.out⟩
      exact least_six n low f2 f3 HI.out.1 HI.out.2 (by simpa using HJ.out 0 (by omega)) (by simpa using HJ.out 1 (by omega))
  ·have hpn : Pr.Pri n := Pr.pri_of_small (by omega) fun d hd hdd => HI.out.2 d hd (by
    apply Decidable.byContradiction; intro hc
    have : low * low ≤ d * d := Nat.mul_le_mul (by omega) (by omega)
    omega)
   clear hP hll
   have HPN := Jfg hpn
   clear hpn
   go_wp2
   go_ret
   exact ⟨n, rfl, ⟨fun _ => HPN.out, fun _ => rfl⟩, BW.out⟩
noncomputable def smallB (n : Nat) : Bool := decide (n < 4294967296) && Pr.priB n
theorem Wo {n : Nat} (h : n < 4294967296) : smallB n = Pr.priB n := by simp [smallB, h]
theorem smallB_ge {n : Nat} (h : ¬ n < 4294967296) : smallB n = false := by simp [smallB, h]
theorem not_pri_lt {n : Nat} (h : n < 2) : Pr.priB n = false := Pr.priB_not.mpr fun hp => by have := hp.1; omega

theorem small_any (n : Nat) (hn : n < 18446744073709551616) (w : World) : Calls Tryz.prog 67 #[.int .u64 (n : Nat)] w fun e w' => e = .returned (.bool (smallB n)) ∧ Below w.heap.size w w' := by
 go_enter Tryz.func67, Tryz.ntmps67
 by_cases h1 : (1 : Int) < (n : Int)
 ·by_cases h2 : (n : Int) < 4294967296
  ·have C := least_any n (by omega) (by omega)
   have e := Wo (n := n) (by omega)
   go_wp2_with fail
   refine (C _).mono ?_
   rintro e w1 ⟨d, rfl, hd, z1⟩
   by_cases hp : d = n
   ·have hb := Pr.priB_iff.mpr (hd.mp hp)
    subst hp
    clear hd
    go_wp2
    go_ret
    exact ⟨by rw [e, hb]; rfl, z1⟩
   ·have hne : ((d : Int) == (n : Int)) = false := by rw [beq_eq_false_iff_ne]; omega
    have hb := Pr.priB_not.mpr fun h => hp (hd.mpr h)
    clear hd hp
    go_wp2
    go_ret
    exact ⟨by rw [e, hb]; rfl, z1⟩
  ·have e := smallB_ge (n := n) (by omega)
   go_wp2
   go_ret
   exact ⟨by first | rfl | (rw [e]; rfl), Below.refl _ _⟩
 ·have e : smallB n = false := by
   rw [Wo (by omega)]; exact not_pri_lt (by omega)
  go_wp2
  go_ret
  exact ⟨by first | rfl | (rw [e]; rfl), Below.refl _ _⟩

theorem rsmall_any (n : Nat) (hn : n < 18446744073709551616) (w : World) : Calls Tryz.prog 70 #[.int .u64 (n : Nat)] w fun e w' => e = .returned (.bool (smallB n)) ∧ Below w.heap.size w w' := by
 go_enter Tryz.func70, Tryz.ntmps70
 by_cases h1 : (n : Int) < 2
 ·have e : smallB n = false := by
   rw [Wo (by omega)]; exact not_pri_lt (by omega)
  go_wp2
  go_ret
  exact ⟨by first | rfl | (rw [e]; rfl), Below.refl _ _⟩
 ·by_cases h2 : ¬ (4294967296 : Int) ≤ (n : Int)
  ·have e := Wo (n := n) (by omega)
   have HE := Jfg e
   clear e hn
   go_wp2
   go_loopg [3] 65600 (fun g s3 wr => ∃ d : Nat, s3 = .int .u64 (d : Nat) ∧ 2 ≤ d ∧ d + g = 65602 ∧ Hid (∀ q, 2 ≤ q → q < d → n % q ≠ 0) ∧ Hid (Below w.heap.size w wr))
   case atStart => exact ⟨2, rfl, by omega, by omega, fun q h1 h2 => by omega, Below.refl _ _⟩
   case round =>
    obtain ⟨d, rfl, hd, hdg, HI, BW⟩ := hrel
    obtain ⟨P, hP⟩ : ∃ P, P = d * d := ⟨_, rfl⟩
    have hdd : d * d ≤ 65602 * 65602 := Nat.mul_le_mul (by omega) (by omega)
    have hw : IntKind.wrap .u64 ((d : Int) * (d : Int)) = (P : Int) := by
     rw [← Int.natCast_mul, ← hP]
     rw [IntKind.wrap_u64]
     omega
    have hlp : 2 * d ≤ P := by rw [hP]; exact Nat.mul_le_mul_right _ hd
    by_cases hle : (P : Int) ≤ (n : Int)
    ·have HDG := Jfg hdg
     have HG : Hid (1 ≤ gk) := by
      show 1 ≤ gk
      rcases Nat.lt_or_ge gk 1 with h | h
      ·have : 65602 * 65602 ≤ d * d := Nat.mul_le_mul (by omega) (by omega)
       omega
      ·exact h
     clear hP hdd
     by_cases hz : (n : Int) % (d : Int) = 0
     ·have HZ := Jfg (Pr.not_pri_of hd (by omega) (int_mod.mp hz))
      go_wp2
      go_ret
      exact ⟨by rw [HE.out, Pr.priB_not.mpr HZ.out]; rfl, BW.out⟩
     ·clear h1 h2
      have hlt : (d : Int) + 1 < 65700 := by omega
      have hwd : IntKind.wrap .u64 ((d : Int) + 1) = (d : Int) + 1 := by rw [IntKind.wrap_u64]; omega
      clear hdg hlt hlp
      go_wp2
      go_roundg (gk - 1)
      case measure => have := HG.out; omega
      case rel =>
       have hG := HG.out
       have hdg := HDG.out
       refine ⟨d + 1, by simp, by omega, by omega, ?_, BW.out⟩
       intro q hq hqd
       rcases Nat.lt_or_ge q d with h | h
       ·exact HI.out q hq h
       ·have : q = d := by omega
        subst this
        exact fun h => hz (int_mod.mpr h)
    ·have hpn : Pr.Pri n := Pr.pri_of_small (by omega) fun q hq hqq => HI.out q hq (by
      apply Decidable.byContradiction; intro hc
      have : d * d ≤ q * q := Nat.mul_le_mul (by omega) (by omega)
      omega)
     have HPN := Jfg hpn
     clear hpn hP hdd
     go_wp2
     go_ret
     exact ⟨by rw [HE.out, Pr.priB_iff.mpr HPN.out]; rfl, BW.out⟩
  ·have h3 : (4294967296 : Int) ≤ (n : Int) := by omega
   have e := smallB_ge (n := n) (by omega)
   clear h2
   go_wp2
   go_ret
   exact ⟨by first | rfl | (rw [e]; rfl), Below.refl _ _⟩
end Go.Proofs.YtodlpmepoakdlaaGreat
