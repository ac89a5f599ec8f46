/-
  What memory holds, in words of this proof's own: a slice that reads as a list, bytes as a list of numbers, the bytes of a number. Nothing here speaks of the program.
-/
import Derived.WalkKit
import Derived.Below
import Derived.OwnWalk
import Derived.Laws.OwnMore
import Derived.Maps.AppendAt
import Derived.Laws.MakeOwn
import Derived.Deep.Draws
import Derived.Lib.Hide
import Derived.Laws.AppendOwnNone
import Derived.ArgAppend
import Derived.Laws.Rows
import Derived.Deep.MidRow
import Derived.Test.YtkmjfaaelkmnkaaDoorProg
import Derived.Laws.BitsAllLaws
namespace Go.Proofs.YtkmjfaaelkmnkaaDoor
open Go.RowKit

/-- the slice at A, of n elements of one cell each, reads as xs -/
def Rd (w : World) (A : Option Addr) (n : Nat) (xs : List Value) : Prop :=
  xs.length = n ∧ (0 < n → ∃ b off, A = some ⟨b, off, none⟩ ∧ b < w.heap.size ∧ ∀ j u, xs[j]? = some u → w.cell? ⟨b, off + j, none⟩ = some u)

def bs (l : List Nat) : List Value := l.map fun x : Nat => .int .u8 (x : Int)
def ws (l : List Nat) : List Value := l.map fun x : Nat => .int .u64 (x : Int)
def is (l : List Int) : List Value := l.map fun x => .int .i64 x

theorem bs_len (l : List Nat) : (bs l).length = l.length := by simp [bs]
theorem bs_at (l : List Nat) (k : Nat) (h : k < l.length) : (bs l)[k]? = some (.int .u8 (l.getD k 0 : Nat)) := by simp [bs, h]
theorem ws_at (l : List Nat) (k : Nat) (h : k < l.length) : (ws l)[k]? = some (.int .u64 (l.getD k 0 : Nat)) := by simp [ws, h]
theorem is_at (l : List Int) (k : Nat) (h : k < l.length) : (is l)[k]? = some (.int .i64 (l.getD k 0)) := by simp [is, h]
theorem bs_append (l m : List Nat) : bs (l ++ m) = bs l ++ bs m := by simp [bs]
theorem bs_one (l : List Nat) : ∀ u ∈ bs l, u.oneCell' = true := by
  intro u hu; obtain ⟨x, _, rfl⟩ := List.mem_map.1 hu; rfl
theorem ws_one (l : List Nat) : ∀ u ∈ ws l, u.oneCell' = true := by
  intro u hu; obtain ⟨x, _, rfl⟩ := List.mem_map.1 hu; rfl

section
variable {w w' : World} {A : Option Addr} {n : Nat} {xs : List Value}

theorem Rd.nil (w : World) (A : Option Addr) : Rd w A 0 [] := ⟨rfl, fun h => absurd h (Nat.lt_irrefl 0)⟩
theorem Rd.spot (h : Rd w A n xs) {k : Nat} (hk : k < n) :
    ∃ b off, A = some ⟨b, off, none⟩ ∧ b < w.heap.size ∧ ∀ j u, xs[j]? = some u → w.cell? ⟨b, off + j, none⟩ = some u := h.2 (by omega)
theorem Rd.kept (h : Rd w A n xs) (hs : w.heap.size ≤ w'.heap.size) (hk : ∀ p : Addr, p.block < w.heap.size → w'.cell? p = w.cell? p) : Rd w' A n xs :=
  ⟨h.1, fun hn => by
    obtain ⟨b, off, e, hb, hc⟩ := h.2 hn
    exact ⟨b, off, e, by omega, fun j u hu => (hk _ hb).trans (hc j u hu)⟩⟩
theorem Rd.below (h : Rd w A n xs) (hb : Below w.heap.size w w') : Rd w' A n xs := h.kept hb.size fun _ hp => hb.cell hp
theorem Rd.drewN (h : Rd w A n xs) (k : Nat) : Rd (w.drewN k) A n xs := h
theorem Rd.drew (h : Rd w A n xs) : Rd w.drew A n xs := h
theorem Rd.alloc (h : Rd w A n xs) (o : Obj) : Rd (w.alloc o) A n xs := h.kept (by simp) fun p hp => World.cell?_alloc_lt w o p hp
theorem Rd.take (h : Rd w A n xs) {k : Nat} (hk : k ≤ n) : Rd w A k (xs.take k) := by
  have hl := h.1
  refine ⟨by rw [List.length_take]; omega, fun hn => ?_⟩
  obtain ⟨b, off, e, hb, hc⟩ := h.2 (by omega)
  refine ⟨b, off, e, hb, fun j u hu => hc j u ?_⟩
  rw [List.getElem?_take] at hu
  split at hu
  · exact hu
  · cases hu
theorem Rd.own {base c : Nat} {e : TypeId} (h : w.ownsRow base e 1 (.slice A n c) n xs) : Rd w A n xs := by
  refine ⟨by simpa using h.1, fun hn => ?_⟩
  rcases h.2 with ⟨_, h0⟩ | ⟨g, cap, cur, hv, _, hg, _, _, _, ht⟩
  · omega
  · injection hv with hA _ _
    subst hA
    refine ⟨g, 0, rfl, (Array.getElem?_eq_some_iff.1 hg).1, fun j u hu => ?_⟩
    rw [← ht, List.getElem?_take] at hu
    rw [Nat.zero_add, cell_of_row w g j cur e (0, 0) hg]
    split at hu
    · simpa using hu
    · cases hu
end

/-- what an owned row's value looks like -/
theorem own_form {w : World} {base : Nat} {e : TypeId} {v : Value} {n : Nat} {xs : List Value} (h : w.ownsRow base e 1 v n xs) : ∃ A c, v = .slice A n c ∧ n ≤ c ∧ c ≤ maxLen := by
  rcases h.2 with ⟨rfl, rfl⟩ | ⟨g, cap, cur, rfl, _, _, hn, hc, _⟩
  · exact ⟨none, 0, rfl, Nat.le_refl _, Nat.zero_le _⟩
  · exact ⟨_, cap, rfl, hn, hc⟩

/-- the lowest m bytes of x, the highest first -/
def be (m x : Nat) : List Nat := (List.range m).map fun i => x / 2 ^ (8 * (m - 1 - i)) % 256
/-- what bytes tell -/
def val (l : List Nat) : Nat := l.foldl (fun a b => a * 256 + b) 0

theorem be_len (m x : Nat) : (be m x).length = m := by simp [be]
theorem be_take (m x i : Nat) (h : i < m) : (be m x).take (i + 1) = (be m x).take i ++ [x / 2 ^ (8 * (m - 1 - i)) % 256] := by
  have hl : i < (be m x).length := by rw [be_len]; exact h
  rw [List.take_succ_eq_append_getElem hl]; simp [be]
theorem be_lt (m x : Nat) : ∀ y ∈ be m x, y < 256 := by
  intro y hy; obtain ⟨i, _, rfl⟩ := List.mem_map.1 hy; exact Nat.mod_lt _ (by decide)
theorem be_succ (m x : Nat) : be (m + 1) x = be m (x / 256) ++ [x % 256] := by
  unfold be
  rw [List.range_succ, List.map_append]
  congr 1
  · refine List.map_congr_left fun i hi => ?_
    have hi' := List.mem_range.1 hi
    have e : 8 * (m + 1 - 1 - i) = 8 + 8 * (m - 1 - i) := by omega
    rw [e, Nat.pow_add, ← Nat.div_div_eq_div_mul]
  · simp
theorem val_snoc (l : List Nat) (y : Nat) : val (l ++ [y]) = val l * 256 + y := by simp [val]
theorem val_be (m : Nat) : ∀ x, val (be m x) = x % 256 ^ m := by
  induction m with
  | zero => intro x; simp [be, val, Nat.mod_one]
  | succ m ih =>
    intro x
    rw [be_succ, val_snoc, ih, Nat.pow_succ, Nat.mul_comm (256 ^ m) 256, Nat.mod_mul]
    omega
theorem val_go (l : List Nat) : ∀ a, (∀ y ∈ l, y < 256) → l.foldl (fun a b => a * 256 + b) a < (a + 1) * 256 ^ l.length := by
  induction l with
  | nil => intro a _; simp
  | cons y l ih =>
    intro a h
    have h1 := ih (a * 256 + y) fun z hz => h z (List.mem_cons_of_mem _ hz)
    have h2 := h y (by simp)
    have h3 : (a * 256 + y + 1) * 256 ^ l.length ≤ ((a + 1) * 256) * 256 ^ l.length := Nat.mul_le_mul_right _ (by omega)
    simp only [List.foldl_cons, List.length_cons, Nat.pow_succ]
    have h4 : (a + 1) * (256 ^ l.length * 256) = (a + 1) * 256 * 256 ^ l.length := by rw [Nat.mul_comm (256 ^ l.length) 256, Nat.mul_assoc]
    omega
theorem val_lt (l : List Nat) (h : ∀ y ∈ l, y < 256) : val l < 256 ^ l.length := by simpa [val] using val_go l 0 h
end Go.Proofs.YtkmjfaaelkmnkaaDoor

/-
  What a Book of byte lists holds in memory, in words of this proof's own. Nothing here speaks of the program's code.
-/
namespace Go.Proofs.YtkmjfaaelkmnkaaDoor
open Go.RowKit

/-- block g is just the cells cs, of type t, none frozen -/
def At (w : World) (g : Nat) (t : TypeId) (cs : Array Value) : Prop := w.heap[g]? = some (.cells cs t (0, 0))

section
variable {w w' : World} {g : Nat} {t : TypeId} {cs : Array Value}
theorem At.lt (h : At w g t cs) : g < w.heap.size := (Array.getElem?_eq_some_iff.1 h).1
theorem At.cell (h : At w g t cs) (i : Nat) : w.cell? ⟨g, i, none⟩ = cs[i]? := cell_of_row w g i cs t (0, 0) h
theorem At.frozen (h : At w g t cs) (i : Nat) : w.frozen? ⟨g, i, none⟩ = false := by
  unfold At at h
  simp [World.frozen?, h]
theorem At.new (w : World) (t : TypeId) (cs : Array Value) : At (w.alloc (.cells cs t)) w.heap.size t cs := heap_alloc_new w _
theorem At.alloc (h : At w g t cs) (o : Obj) : At (w.alloc o) g t cs := (Below.heap_alloc w o g h.lt).trans h
theorem At.drew (h : At w g t cs) : At w.drew g t cs := h
theorem At.drewN (h : At w g t cs) (k : Nat) : At (w.drewN k) g t cs := h
theorem At.set (h : At w g t cs) (i : Nat) (u : Value) : At (w.setCell ⟨g, i, none⟩ u) g t (cs.setIfInBounds i u) := by
  unfold At at h ⊢
  simp [World.setCell, Array.getElem?_modify, h]
theorem At.far (h : At w g t cs) {p : Addr} (hp : p.block ≠ g) (u : Value) : At (w.setCell p u) g t cs := by
  unfold At at h ⊢
  simp [World.setCell, Array.getElem?_modify, hp, h]
theorem At.grown {row : Option Nat} (h : At w g t cs) (hg : w.grownBy w' row) (hne : some g ≠ row) : At w' g t cs := (hg.block g h.lt hne).trans h
theorem At.ne_ {g' : Nat} {t' : TypeId} {cs' : Array Value} (h : At w g t cs) (h' : At w g' t' cs') (hne : t ≠ t') : g ≠ g' := by
  rintro rfl
  unfold At at h h'
  rw [h] at h'
  injection h' with h'
  injection h' with _ ht
  exact hne ht
end

theorem grown_tr {a b c : World} {row : Option Nat} (h : a.grownBy b row) (k : b.grownBy c row) : a.grownBy c row :=
  ⟨k.os.trans h.os, k.tape.trans h.tape, k.output.trans h.output, Nat.le_trans h.size k.size, fun i hi hn => (k.block i (Nat.lt_of_lt_of_le hi h.size) hn).trans (h.block i hi hn)⟩
theorem grown_up {a b : World} (h : a.grownBy b none) (row : Option Nat) : a.grownBy b row := ⟨h.os, h.tape, h.output, h.size, fun i hi _ => h.block i hi (by simp)⟩
theorem grown_new {a b c : World} {row r : Option Nat} (h : a.grownBy b row) (k : b.grownBy c r) (hr : ∀ g, r = some g → some g = row ∨ a.heap.size ≤ g) : a.grownBy c row :=
  ⟨k.os.trans h.os, k.tape.trans h.tape, k.output.trans h.output, Nat.le_trans h.size k.size, fun i hi hn => by
    refine (k.block i (Nat.lt_of_lt_of_le hi h.size) (fun e => ?_)).trans (h.block i hi hn)
    rcases hr i e.symm with h1 | h1
    · exact hn h1
    · omega⟩
theorem grown_al {a b : World} {row : Option Nat} (h : a.grownBy b row) (o : Obj) : a.grownBy (b.alloc o) row := grown_new h (World.grownBy_alloc b o none) (fun _ e => by cases e)
theorem grown_drewN {a b : World} {row : Option Nat} (h : a.grownBy b row) (k : Nat) : a.grownBy (b.drewN k) row := ⟨h.os, h.tape, h.output, h.size, h.block⟩
theorem grown_set {a b : World} {g : Nat} (h : a.grownBy b (some g)) (i : Nat) (u : Value) : a.grownBy (b.setCell ⟨g, i, none⟩ u) (some g) :=
  ⟨h.os, h.tape, h.output, by simpa [World.setCell] using h.size, fun k hk hn => by
    have hne : g ≠ k := fun e => hn (by rw [e])
    refine Eq.trans ?_ (h.block k hk hn)
    simp [World.setCell, Array.getElem?_modify, hne]⟩

/-- an owned row of bytes, as a block -/
theorem own_at {w : World} {base g n c : Nat} {e : TypeId} {xs : List Value} (h : w.ownsRow base e 1 (.slice (some ⟨g, 0, none⟩) n c) n xs) :
    ∃ cur, At w g e cur ∧ base ≤ g ∧ n ≤ c ∧ c ≤ maxLen ∧ cur.size = c ∧ cur.toList.take n = xs := by
  rcases h.2 with ⟨hv, _⟩ | ⟨g', cap, cur, hv, hb, hg, hn, hc, hs, ht⟩
  · cases hv
  · injection hv with h1 _ h3
    injection h1 with h1
    injection h1 with h1
    subst h1 h3
    exact ⟨cur, hg, hb, hn, hc, by simpa using hs, by simpa using ht⟩
theorem at_own {w : World} {base g n c : Nat} {e : TypeId} {cur : Array Value} (h : At w g e cur) (hb : base ≤ g) (hn : n ≤ c) (hc : c ≤ maxLen) (hs : cur.size = c) :
    w.ownsRow base e 1 (.slice (some ⟨g, 0, none⟩) n c) n (cur.toList.take n) :=
  ⟨by rw [List.length_take, Array.length_toList]; omega, .inr ⟨g, c, cur, rfl, hb, h, hn, hc, by simpa using hs, by simp⟩⟩
theorem own_cases {w : World} {base n : Nat} {e : TypeId} {v : Value} {xs : List Value} (h : w.ownsRow base e 1 v n xs) : (v = .slice none 0 0 ∧ n = 0 ∧ xs = []) ∨ ∃ g c, v = .slice (some ⟨g, 0, none⟩) n c := by
  rcases h.2 with ⟨rfl, rfl⟩ | ⟨g, cap, cur, rfl, _⟩
  · exact .inl ⟨rfl, rfl, List.eq_nil_of_length_eq_zero (by simpa using h.1)⟩
  · exact .inr ⟨g, cap, rfl⟩

/-- one cell of an owned row is written -/
theorem own_set {w : World} {base g n c k : Nat} {e : TypeId} {xs : List Value} (h : w.ownsRow base e 1 (.slice (some ⟨g, 0, none⟩) n c) n xs) (u : Value) :
    (w.setCell ⟨g, k, none⟩ u).ownsRow base e 1 (.slice (some ⟨g, 0, none⟩) n c) n (xs.set k u) := by
  obtain ⟨cur, hg, hb, hn, hc, hs, rfl⟩ := own_at h
  have := at_own (n := n) (c := c) (hg.set k u) hb hn hc (by simpa using hs)
  rwa [show (cur.setIfInBounds k u).toList.take n = (cur.toList.take n).set k u by simp [List.take_set]] at this

/-- one element more behind an owned row: in its place, or in a new block -/
theorem run_one {P : Program} (w : World) (base : Nat) (t ty e : TypeId) (i : TypeInfo) (z : Value) (bytes : Nat) (ht : P.underlying t = some (.slice e)) (hi : P.info? e = some i) (hz : i.zero = some z)
    (hsize : i.size = 1) (hby : i.bytes = bytes) (hzs : z.cells.size = 1) (v : Value) (n : Nat) (xs : List Value) (hown : w.ownsRow base e 1 v n xs)
    (ad : Addr) (c : Nat) (x : Value) (hx : w.cell? ad = some x) (h1 : x.oneCell' = true) (hn : (n + 1) * bytes ≤ 140737488355328) (hm : n + 1 ≤ maxLen) (hbase : base ≤ w.heap.size) :
    ∃ v' w', (Builtin.append_ #[t, t] ty #[v, .slice (some ad) 1 c]).run P w = .ok v' w' ∧ w'.ownsRow base e 1 v' (n + 1) (xs ++ [x]) ∧ w.grownBy w' v.ownBlock ∧
      ((∃ g cap, v = .slice (some ⟨g, 0, none⟩) n cap ∧ v' = .slice (some ⟨g, 0, none⟩) (n + 1) cap) ∨ (w.grownBy w' none ∧ ∀ b, v'.ownBlock = some b → w.heap.size ≤ b)) := by
  have hsrc : ∀ j u, [x][j]? = some u → w.cell? (ad.add j) = some u := by
    intro j u hj
    match j, hj with
    | 0, hj => simp at hj; subst hj; simpa [Addr.add] using hx
  have h1' : ∀ u ∈ [x], u.oneCell' = true := by intro u hu; simp at hu; subst hu; exact h1
  by_cases hroom : ∃ g cap, v = .slice (some ⟨g, 0, none⟩) n cap ∧ n + 1 ≤ cap
  · obtain ⟨g, cap, rfl, hc⟩ := hroom
    obtain ⟨v', w', hrun, h2, h3, _, h5⟩ := run_append_own_at (P := P) w base t ty e i z 1 bytes ht hi hz hsize hby hzs (by decide) _ n xs hown ad 1 c [x] rfl hsrc h1' hm hn hbase
    obtain ⟨w'', hr, _⟩ := run_append_fits (P := P) w base t ty e i 1 ht hi hsize g n cap xs hown ad 1 c [x] rfl hsrc h1' hc
    rw [hrun] at hr
    injection hr with hr1 hr2
    subst hr1
    exact ⟨_, w', hrun, h2, h3, .inl ⟨g, cap, rfl, rfl⟩⟩
  · rcases own_cases hown with ⟨rfl, rfl, rfl⟩ | ⟨g, cap, rfl⟩
    · obtain ⟨v', w', hrun, h2, h3, h4⟩ := run_append_own_at (P := P) w base t ty e i z 1 bytes ht hi hz hsize hby hzs (by decide) _ 0 [] hown ad 1 c [x] rfl hsrc h1' hm hn hbase
      refine ⟨v', w', hrun, h2, h3, .inr ⟨h3, fun b hb => ?_⟩⟩
      rcases h4.2 with e1 | e1
      · rw [e1] at hb; cases hb
      · rw [e1] at hb; injection hb with hb; omega
    · obtain ⟨cur, hg, hb, hnc, hc, hs, hxs⟩ := own_at hown
      obtain ⟨v', w', hrun, h2, h3⟩ := run_append_arg_grows (P := P) w t ty e i z 1 bytes ht hi hz hsize hby hzs (by decide) ⟨g, 0, none⟩ n cap xs hown.1 (hown.cells rfl) ad 1 c [x] rfl hsrc
        (by have : ¬ n + 1 ≤ cap := fun h => hroom ⟨g, cap, rfl, h⟩; omega) hm hn
      refine ⟨v', w', hrun, ?_, grown_up h3 _, .inr ⟨h3, fun b hb => (h2.lt b hb).1⟩⟩
      rcases own_cases h2 with ⟨rfl, h0, _⟩ | ⟨g', c', rfl⟩
      · omega
      · obtain ⟨cur', hg', hb', hn', hc', hs', hx'⟩ := own_at h2
        have := at_own (base := base) (n := n + 1) hg' (by omega) hn' hc' hs'
        rwa [hx'] at this

theorem wpList_one {P : Program} (w : World) {ops : Array Oper} {rest : List Oper} {o : Oper} {a : Act} {Q : Exit → Act → World → Prop} (hgd : o.guard = none) (s q : Operand) (t : TypeId)
    (ho : o.op = .call { callee := .builtin .append, args := #[s, q], argTypes := #[t, t] })
    (base : Nat) (e : TypeId) (i : TypeInfo) (z : Value) (bytes : Nat) (ht : P.underlying t = some (.slice e)) (hi : P.info? e = some i) (hz : i.zero = some z)
    (hsize : i.size = 1) (hby : i.bytes = bytes) (hzs : z.cells.size = 1) (v : Value) (n : Nat) (xs : List Value) (hs : a.eval s = v) (hown : w.ownsRow base e 1 v n xs)
    (ad : Addr) (c : Nat) (x : Value) (hq : a.eval q = .slice (some ad) 1 c) (hx : w.cell? ad = some x) (h1 : x.oneCell' = true) (hn : (n + 1) * bytes ≤ 140737488355328) (hm : n + 1 ≤ maxLen) (hbase : base ≤ w.heap.size)
    (h : ∀ v' w', w'.ownsRow base e 1 v' (n + 1) (xs ++ [x]) → w.grownBy w' v.ownBlock →
      ((∃ g cap, v = .slice (some ⟨g, 0, none⟩) n cap ∧ v' = .slice (some ⟨g, 0, none⟩) (n + 1) cap) ∨ (w.grownBy w' none ∧ ∀ b, v'.ownBlock = some b → w.heap.size ≤ b)) → wpList P ops Q rest (a.put o.dst v') w') :
    wpList P ops Q (o :: rest) a w := by
  refine wpList_plain hgd fun K hK => ?_
  obtain ⟨v', w', hrun, h2, h3, h4⟩ := run_one (P := P) w base t o.type e i z bytes ht hi hz hsize hby hzs v n xs hown ad c x hx h1 hn hm hbase
  unfold Oper.wp execOp
  simp only [ho, resolve, invoke, builtin, Sem.run_bind, Sem.run_pure, Result.andThen_ok, List.map_toArray, List.map_cons, List.map_nil, hs, hq, hrun]
  exact hK _ _ (h v' w' h2 h3 h4)

theorem bel_tr {a b c : World} (h : Below a.heap.size a b) (k : Below b.heap.size b c) : Below a.heap.size a c := h.trans (k.mono h.size)
theorem cell_on {W w : World} {a : Addr} {v : Value} (hb : Below W.heap.size W w) (h : W.cell? a = some v) : w.cell? a = some v := (hb.cell (World.block_lt_of_cell? W a h)).trans h
theorem gr_alloc {a b : World} (h : Below a.heap.size a b) (o : Obj) : Below a.heap.size a (b.alloc o) := h.alloc h.size o
theorem at_of {w w' : World} (h : w = w') {g : Nat} {t : TypeId} {cs : Array Value} (p : At w g t cs) : At w' g t cs := h ▸ p
theorem gr_of {n : Nat} {u w w' : World} (h : w = w') (p : Below n u w) : Below n u w' := h ▸ p
theorem At.at_ (w : World) (g : Nat) (t : TypeId) (cs : Array Value) (h : g = w.heap.size) : At (w.alloc (.cells cs t)) g t cs := by rw [h]; exact At.new w t cs
theorem At.on {w w' : World} {g : Nat} {t : TypeId} {cs : Array Value} (h : At w g t cs) (hb : Below w.heap.size w w') : At w' g t cs := (hb.block g h.lt).trans h
theorem At.row {w : World} {g : Nat} {t : TypeId} {cs : Array Value} (h : At w g t cs) (ds : Array Value) : At (w.setRow g ds) g t ds := setRow_heap w g _ _ t _ h
theorem At.rowFar {w : World} {g : Nat} {t : TypeId} {cs : Array Value} (h : At w g t cs) {g' : Nat} (hne : g ≠ g') (ds : Array Value) : At (w.setRow g' ds) g t cs := (setRow_other w g' g ds hne).trans h
theorem At.range {w : World} {g o : Nat} {t : TypeId} {cs : Array Value} (h : At w g t cs) (xs : List Value) (hx : ∀ j v, xs[j]? = some v → cs[o + j]? = some v) : w.rangeAt g o xs := fun j v hj => by rw [h.cell]; exact hx j v hj
theorem At.all {w : World} {g : Nat} {t : TypeId} {xs : List Value} (h : At w g t xs.toArray) : w.rangeAt g 0 xs := h.range xs fun j v hj => by simpa using hj
theorem At.there {w : World} {g o n : Nat} {t : TypeId} {cs : Array Value} (h : At w g t cs) (hn : o + n ≤ cs.size) : w.there g o n := fun j hj => ⟨by rw [h.cell]; simp; omega, h.frozen _⟩
/-- as many cells from o on are laid anew -/
def put (cs : Array Value) (o : Nat) : List Value → Array Value
  | [] => cs
  | v :: vs => put (cs.setIfInBounds o v) (o + 1) vs
end Go.Proofs.YtkmjfaaelkmnkaaDoor

/-
  nums.putWords: b, and behind it the lowest so many bytes of each word.
-/
namespace Go.Proofs.YtkmjfaaelkmnkaaDoor
set_option linter.unusedSimpArgs false
set_option linter.unusedVariables false
open Go.RowKit

theorem Tryd.info5 : (Tryd.prog.info? 5).map (fun i => (i.zero, i.size, i.bytes)) = some (some (.int .u8 0), 1, 1) := by kernel_rfl

/-- the cells of a slice that reads as a list, as append's laws ask for them -/
theorem Rd.src {w : World} {A : Option Addr} {n : Nat} {xs : List Value} (h : Rd w A n xs) : ∀ ad, A = some ad → ∀ j u, xs[j]? = some u → w.cell? (ad.add j) = some u := by
  intro ad e j u hu
  have hl : j < xs.length := (List.getElem?_eq_some_iff.1 hu).1
  obtain ⟨b, off, e', _, hc⟩ := h.2 (by have := h.1; omega)
  rw [e'] at e
  obtain rfl := Option.some.inj e
  rw [Addr.add_lit]
  exact hc j u hu

theorem flat_step (xs : List Nat) (k j : Nat) (h : j < xs.length) : (xs.take j).flatMap (be k) ++ (be k (xs.getD j 0)).take k = (xs.take (j + 1)).flatMap (be k) := by
  have e : (be k (xs.getD j 0)).take k = be k (xs.getD j 0) := List.take_of_length_le (by rw [be_len]; exact Nat.le_refl _)
  rw [e, List.take_succ_eq_append_getElem h]
  rw [List.flatMap_append]
  simp [List.getElem?_eq_getElem h]

theorem one_new (w : World) (t : TypeId) (v : Value) : ∀ j u, [v][j]? = some u → (w.alloc (.cells #[v] t)).cell? ((⟨w.heap.size, 0, none⟩ : Addr).add j) = some u := by
  intro j u hj
  match j, hj with
  | 0, hj => simp at hj; subst hj; simp [Addr.add]
theorem one_cell (k : IntKind) (x : Int) : ∀ u ∈ [Value.int k x], u.oneCell' = true := by intro u hu; simp at hu; subst hu; rfl

theorem byte_step (l ys : List Nat) (k x t : Nat) (h : t < k) :
    bs (l ++ (ys ++ (be k x).take t)) ++ [Value.int .u8 ((x : Int) / 2 ^ (8 * (k - 1 - t)) % 256)] = bs (l ++ (ys ++ (be k x).take (t + 1))) := by
  rw [be_take k x t h, ← List.append_assoc, ← List.append_assoc, ← List.append_assoc, bs_append (l ++ ys ++ _)]
  simp [bs]

set_option maxHeartbeats 1000000 in
theorem putWords_ok (A W : Option Addr) (n c m d k q : Nat) (l xs : List Nat) (w : World) (h8 : k ≤ 8) (hm4 : m ≤ 4) (hn : n ≤ 4194304) (hc : n ≤ c) (hnil : A = none → n = 0 ∧ c = 0)
    (hr : Rd w A n (bs l)) (hw : Rd w W m (ws xs)) (hx : ∀ y ∈ xs, y < 18446744073709551616) (hq : k * m = q) :
    Calls Tryd.prog 62 #[.slice A n c, .int .i64 k, .slice W m d] w fun e w' => e = .returned (.slice (some ⟨w.heap.size, 0, none⟩) (n + q) (n + q)) ∧
      w'.ownsRow w.heap.size 5 1 (.slice (some ⟨w.heap.size, 0, none⟩) (n + q) (n + q)) (n + q) (bs (l ++ xs.flatMap (be k))) ∧ Below w.heap.size w w' := by
  obtain ⟨i0, hi, hz0, hz1, hz2⟩ := info_parts Tryd.info5
  have hq32 : q ≤ 32 := by rw [← hq]; exact Nat.mul_le_mul h8 hm4
  have hqw : wrap64 ((k : Int) * (m : Int)) = (q : Int) := by rw [← hq]; rw [IntWalk.wrap64_in _ (by have := Nat.mul_le_mul h8 hm4; constructor <;> omega)]; simp
  have HQ := Lib.hid hq
  clear hq
  go_enter Tryd.func62, Tryd.ntmps62
  go_wp2_with (at_make; refine wpList_make_own _ rfl _ _ 22 rfl w.heap.size 5 i0 (.int .u8 0) 1 Tryd.underlying22 hi hz0 hz1 _ _ _ (n + q) rfl rfl (by omega) ?b2 ?b3 (Nat.le_refl _) ?_)
  case b2 => rw [hz2]; omega
  case b3 => unfold maxLen; omega
  intro w0 hown0 hgrow0
  clear hqw
  have hb0 : Below w.heap.size w w0 := (Below.refl _ _).grown hgrow0 (Nat.le_refl _) (by simp)
  have hr0 := hr.below hb0
  go_wp2_with (at_builtin; refine wpList_append_fits_any _ rfl (.tmp 18) (.tmp 19) 22 rfl w.heap.size 5 i0 1 Tryd.underlying22 hi hz1 w.heap.size 0 (n + q) [] rfl hown0 A n c (bs l) rfl (by have := hr.1; omega) hnil hr0.src (bs_one l) (by omega) ?_; intro w1 hown1 hgrow1; simp only [Nat.zero_add, List.nil_append] at hown1)
  have hb1 : Below w.heap.size w w1 := hb0.grown hgrow1 hb0.size (by simp)
  clear hgrow0 hgrow1 hown0 hr0 hb0 hnil hr
  go_loopw [7, 23] (fun v i wr => ∃ j p : Nat, j ≤ m ∧ Hid (p = k * j) ∧ i = .int .i64 j ∧ v = .slice (some ⟨w.heap.size, 0, none⟩) (n + p) (n + q) ∧
      wr.ownsRow w.heap.size 5 1 (.slice (some ⟨w.heap.size, 0, none⟩) (n + p) (n + q)) (n + p) (bs (l ++ (xs.take j).flatMap (be k))) ∧ Below w.heap.size w wr) (fun _ i _ => m - (intOf i).toNat)
  case atStart => exact ⟨0, 0, Nat.zero_le _, Lib.hid (by simp), rfl, rfl, by simpa using hown1, hb1⟩
  case round =>
    obtain ⟨j, p, hj, hp, rfl, rfl, hown, hbr⟩ := hrel
    clear hown1 hb1
    by_cases hlt : j < m
    · have hpk : p + k ≤ q := by
        have e1 := hp.out
        have e2 := HQ.out
        have e3 : k * (j + 1) ≤ k * m := Nat.mul_le_mul_left k hlt
        rw [Nat.mul_add] at e3
        omega
      obtain ⟨b, off, rfl, hbs, hcell⟩ := hw.spot hlt
      have hxl : j < xs.length := by have := hw.1; simp [ws] at this; omega
      have hxj : wr.cell? ⟨b, off + j, none⟩ = some (.int .u64 (xs.getD j 0 : Nat)) := (hbr.cell (by exact hbs)).trans (hcell j _ (ws_at xs j hxl))
      have hfl := Lib.hid (flat_step xs k j hxl)
      obtain ⟨x, hxe⟩ : ∃ x, x = xs.getD j 0 := ⟨_, rfl⟩
      have hx64 : x < 18446744073709551616 := by rw [hxe]; exact hx _ (by simp [hxl])
      rw [← hxe] at hxj hfl
      have HX := Lib.hid hxe
      clear hxe hcell hw hx
      go_wp2
      obtain ⟨wo, rfl⟩ : ∃ wo : World, wo = wr := ⟨_, rfl⟩
      go_loopw [7, 28] (fun v i wi => ∃ t : Nat, t ≤ k ∧ i = .int .i64 t ∧ v = .slice (some ⟨w.heap.size, 0, none⟩) (n + p + t) (n + q) ∧
          wi.ownsRow w.heap.size 5 1 (.slice (some ⟨w.heap.size, 0, none⟩) (n + p + t) (n + q)) (n + p + t) (bs (l ++ ((xs.take j).flatMap (be k) ++ (be k x).take t))) ∧ Below w.heap.size w wi) (fun _ i _ => k - (intOf i).toNat)
      case atStart => exact ⟨0, Nat.zero_le _, rfl, rfl, by simpa using hown, hbr⟩
      case round =>
        obtain ⟨t, ht, rfl, rfl, hown1, hbr1⟩ := hrel
        by_cases htl : t < k
        · have hbt := Lib.hid (byte_step l ((xs.take j).flatMap (be k)) k x t htl)
          go_wp2_with (at_builtin; refine wpList_append_fits _ rfl (.tmp 31) (.tmp 40) 22 rfl w.heap.size 5 i0 1 Tryd.underlying22 hi hz1 w.heap.size (n + p + t) (n + q) _ rfl (hown1.alloc _) ⟨wr.heap.size, 0, none⟩ 1 1 [.int .u8 ((x : Int) / 2 ^ (8 * (k - 1 - t)) % 256)] rfl rfl (one_new _ _ _) (one_cell _ _) (by omega) ?_; intro w2 hown2 hgrow2)
          rw [hbt.out] at hown2
          have hbr2 : Below w.heap.size w w2 := (hbr1.alloc hbr1.size _).grown hgrow2 (by have := hbr1.size; simp; omega) (by simp)
          clear hown1 hgrow2 hbr1
          go_wp2
          go_roundw
          case rel => exact ⟨t + 1, by omega, by go_num, rfl, hown2, hbr2⟩
          case measure => simp [intOf]; omega
        · obtain rfl : t = k := by omega
          rw [hfl.out] at hown1
          have hp2 : Hid (p + t = t * (j + 1)) := Lib.hid (by rw [hp.out, Nat.mul_add, Nat.mul_one])
          go_wp2
          go_roundw
          case rel => exact ⟨j + 1, p + t, by omega, hp2, by go_num, by rw [Nat.add_assoc], by rw [← Nat.add_assoc]; exact hown1, hbr1⟩
          case measure => simp [intOf]; omega
    · obtain rfl : j = m := by omega
      obtain rfl : p = q := by rw [hp.out, HQ.out]
      have hxs : xs.take j = xs := List.take_of_length_le (by have := hw.1; simp [ws] at this; omega)
      rw [hxs] at hown
      clear hxs
      go_wp2
      go_ret
      exact ⟨rfl, hown, hbr⟩
end Go.Proofs.YtkmjfaaelkmnkaaDoor
