/-
  What a Book of byte lists holds in memory, in words of this proof's own. Nothing here speaks of the program's code.
-/
import Derived.Test.YtkmjfaaelkmnkaaDoorWords
import Derived.Laws.AppendOwnNone
import Derived.ArgAppend
import Derived.Laws.Rows
import Derived.Deep.MidRow
namespace Go.Proofs.YtkmjfaaelkmnkaaDoor
open Go.RowKit

/-- block g is just the cells cs, of type t, none frozen -/
def At (w : World) (g : Nat) (t : TypeId) (cs : Array Value) : Prop := w.heap[g]? = some (.cells cs t (0, 0))

section
variable {w w' : World} {g : Nat} {t : TypeId} {cs : Array Value}
theorem At.lt (h : At w g t cs) : g < w.heap.size := (Array.getElem?_eq_some_iff.1 h).1
theorem At.cell (h : At w g t cs) (i : Nat) : w.cell? ⟨g, i, none⟩ = cs[i]? := cell_of_row w g i cs t (0, 0) h
theorem At.frozen (h : At w g t cs) (i : Nat) : w.frozen? ⟨g, i, none⟩ = false := by
  unfold At at h
  simp [World.frozen?, h]
theorem At.new (w : World) (t : TypeId) (cs : Array Value) : At (w.alloc (.cells cs t)) w.heap.size t cs := heap_alloc_new w _
theorem At.alloc (h : At w g t cs) (o : Obj) : At (w.alloc o) g t cs := (Below.heap_alloc w o g h.lt).trans h
theorem At.drew (h : At w g t cs) : At w.drew g t cs := h
theorem At.drewN (h : At w g t cs) (k : Nat) : At (w.drewN k) g t cs := h
theorem At.set (h : At w g t cs) (i : Nat) (u : Value) : At (w.setCell ⟨g, i, none⟩ u) g t (cs.setIfInBounds i u) := by
  unfold At at h ⊢
  simp [World.setCell, Array.getElem?_modify, h]
theorem At.far (h : At w g t cs) {p : Addr} (hp : p.block ≠ g) (u : Value) : At (w.setCell p u) g t cs := by
  unfold At at h ⊢
  simp [World.setCell, Array.getElem?_modify, hp, h]
theorem At.grown {row : Option Nat} (h : At w g t cs) (hg : w.grownBy w' row) (hne : some g ≠ row) : At w' g t cs := (hg.block g h.lt hne).trans h
theorem At.ne_ {g' : Nat} {t' : TypeId} {cs' : Array Value} (h : At w g t cs) (h' : At w g' t' cs') (hne : t ≠ t') : g ≠ g' := by
  rintro rfl
  unfold At at h h'
  rw [h] at h'
  injection h' with h'
  injection h' with _ ht
  exact hne ht
end

theorem grown_tr {a b c : World} {row : Option Nat} (h : a.grownBy b row) (k : b.grownBy c row) : a.grownBy c row :=
  ⟨k.os.trans h.os, k.tape.trans h.tape, k.output.trans h.output, Nat.le_trans h.size k.size, fun i hi hn => (k.block i (Nat.lt_of_lt_of_le hi h.size) hn).trans (h.block i hi hn)⟩
theorem grown_up {a b : World} (h : a.grownBy b none) (row : Option Nat) : a.grownBy b row := ⟨h.os, h.tape, h.output, h.size, fun i hi _ => h.block i hi (by simp)⟩
theorem grown_new {a b c : World} {row r : Option Nat} (h : a.grownBy b row) (k : b.grownBy c r) (hr : ∀ g, r = some g → some g = row ∨ a.heap.size ≤ g) : a.grownBy c row :=
  ⟨k.os.trans h.os, k.tape.trans h.tape, k.output.trans h.output, Nat.le_trans h.size k.size, fun i hi hn => by
    refine (k.block i (Nat.lt_of_lt_of_le hi h.size) (fun e => ?_)).trans (h.block i hi hn)
    rcases hr i e.symm with h1 | h1
    · exact hn h1
    · omega⟩
theorem grown_al {a b : World} {row : Option Nat} (h : a.grownBy b row) (o : Obj) : a.grownBy (b.alloc o) row := grown_new h (World.grownBy_alloc b o none) (fun _ e => by cases e)
theorem grown_drewN {a b : World} {row : Option Nat} (h : a.grownBy b row) (k : Nat) : a.grownBy (b.drewN k) row := ⟨h.os, h.tape, h.output, h.size, h.block⟩
theorem grown_set {a b : World} {g : Nat} (h : a.grownBy b (some g)) (i : Nat) (u : Value) : a.grownBy (b.setCell ⟨g, i, none⟩ u) (some g) :=
  ⟨h.os, h.tape, h.output, by simpa [World.setCell] using h.size, fun k hk hn => by
    have hne : g ≠ k := fun e => hn (by rw [e])
    refine Eq.trans ?_ (h.block k hk hn)
    simp [World.setCell, Array.getElem?_modify, hne]⟩

/-- an owned row of bytes, as a block -/
theorem own_at {w : World} {base g n c : Nat} {e : TypeId} {xs : List Value} (h : w.ownsRow base e 1 (.slice (some ⟨g, 0, none⟩) n c) n xs) :
    ∃ cur, At w g e cur ∧ base ≤ g ∧ n ≤ c ∧ c ≤ maxLen ∧ cur.size = c ∧ cur.toList.take n = xs := by
  rcases h.2 with ⟨hv, _⟩ | ⟨g', cap, cur, hv, hb, hg, hn, hc, hs, ht⟩
  · cases hv
  · injection hv with h1 _ h3
    injection h1 with h1
    injection h1 with h1
    subst h1 h3
    exact ⟨cur, hg, hb, hn, hc, by simpa using hs, by simpa using ht⟩
theorem at_own {w : World} {base g n c : Nat} {e : TypeId} {cur : Array Value} (h : At w g e cur) (hb : base ≤ g) (hn : n ≤ c) (hc : c ≤ maxLen) (hs : cur.size = c) :
    w.ownsRow base e 1 (.slice (some ⟨g, 0, none⟩) n c) n (cur.toList.take n) :=
  ⟨by rw [List.length_take, Array.length_toList]; omega, .inr ⟨g, c, cur, rfl, hb, h, hn, hc, by simpa using hs, by simp⟩⟩
theorem own_cases {w : World} {base n : Nat} {e : TypeId} {v : Value} {xs : List Value} (h : w.ownsRow base e 1 v n xs) : (v = .slice none 0 0 ∧ n = 0 ∧ xs = []) ∨ ∃ g c, v = .slice (some ⟨g, 0, none⟩) n c := by
  rcases h.2 with ⟨rfl, rfl⟩ | ⟨g, cap, cur, rfl, _⟩
  · exact .inl ⟨rfl, rfl, List.eq_nil_of_length_eq_zero (by simpa using h.1)⟩
  · exact .inr ⟨g, cap, rfl⟩

/-- one cell of an owned row is written -/
theorem own_set {w : World} {base g n c k : Nat} {e : TypeId} {xs : List Value} (h : w.ownsRow base e 1 (.slice (some ⟨g, 0, none⟩) n c) n xs) (u : Value) :
    (w.setCell ⟨g, k, none⟩ u).ownsRow base e 1 (.slice (some ⟨g, 0, none⟩) n c) n (xs.set k u) := by
  obtain ⟨cur, hg, hb, hn, hc, hs, rfl⟩ := own_at h
  have := at_own (n := n) (c := c) (hg.set k u) hb hn hc (by simpa using hs)
  rwa [show (cur.setIfInBounds k u).toList.take n = (cur.toList.take n).set k u by simp [List.take_set]] at this

/-- one element more behind an owned row: in its place, or in a new block -/
theorem run_one {P : Program} (w : World) (base : Nat) (t ty e : TypeId) (i : TypeInfo) (z : Value) (bytes : Nat) (ht : P.underlying t = some (.slice e)) (hi : P.info? e = some i) (hz : i.zero = some z)
    (hsize : i.size = 1) (hby : i.bytes = bytes) (hzs : z.cells.size = 1) (v : Value) (n : Nat) (xs : List Value) (hown : w.ownsRow base e 1 v n xs)
    (ad : Addr) (c : Nat) (x : Value) (hx : w.cell? ad = some x) (h1 : x.oneCell' = true) (hn : (n + 1) * bytes ≤ 140737488355328) (hm : n + 1 ≤ maxLen) (hbase : base ≤ w.heap.size) :
    ∃ v' w', (Builtin.append_ #[t, t] ty #[v, .slice (some ad) 1 c]).run P w = .ok v' w' ∧ w'.ownsRow base e 1 v' (n + 1) (xs ++ [x]) ∧ w.grownBy w' v.ownBlock ∧
      ((∃ g cap, v = .slice (some ⟨g, 0, none⟩) n cap ∧ v' = .slice (some ⟨g, 0, none⟩) (n + 1) cap) ∨ (w.grownBy w' none ∧ ∀ b, v'.ownBlock = some b → w.heap.size ≤ b)) := by
  have hsrc : ∀ j u, [x][j]? = some u → w.cell? (ad.add j) = some u := by
    intro j u hj
    match j, hj with
    | 0, hj => simp at hj; subst hj; simpa [Addr.add] using hx
  have h1' : ∀ u ∈ [x], u.oneCell' = true := by intro u hu; simp at hu; subst hu; exact h1
  by_cases hroom : ∃ g cap, v = .slice (some ⟨g, 0, none⟩) n cap ∧ n + 1 ≤ cap
  · obtain ⟨g, cap, rfl, hc⟩ := hroom
    obtain ⟨v', w', hrun, h2, h3, _, h5⟩ := run_append_own_at (P := P) w base t ty e i z 1 bytes ht hi hz hsize hby hzs (by decide) _ n xs hown ad 1 c [x] rfl hsrc h1' hm hn hbase
    obtain ⟨w'', hr, _⟩ := run_append_fits (P := P) w base t ty e i 1 ht hi hsize g n cap xs hown ad 1 c [x] rfl hsrc h1' hc
    rw [hrun] at hr
    injection hr with hr1 hr2
    subst hr1
    exact ⟨_, w', hrun, h2, h3, .inl ⟨g, cap, rfl, rfl⟩⟩
  · rcases own_cases hown with ⟨rfl, rfl, rfl⟩ | ⟨g, cap, rfl⟩
    · obtain ⟨v', w', hrun, h2, h3, h4⟩ := run_append_own_at (P := P) w base t ty e i z 1 bytes ht hi hz hsize hby hzs (by decide) _ 0 [] hown ad 1 c [x] rfl hsrc h1' hm hn hbase
      refine ⟨v', w', hrun, h2, h3, .inr ⟨h3, fun b hb => ?_⟩⟩
      rcases h4.2 with e1 | e1
      · rw [e1] at hb; cases hb
      · rw [e1] at hb; injection hb with hb; omega
    · obtain ⟨cur, hg, hb, hnc, hc, hs, hxs⟩ := own_at hown
      obtain ⟨v', w', hrun, h2, h3⟩ := run_append_arg_grows (P := P) w t ty e i z 1 bytes ht hi hz hsize hby hzs (by decide) ⟨g, 0, none⟩ n cap xs hown.1 (hown.cells rfl) ad 1 c [x] rfl hsrc
        (by have : ¬ n + 1 ≤ cap := fun h => hroom ⟨g, cap, rfl, h⟩; omega) hm hn
      refine ⟨v', w', hrun, ?_, grown_up h3 _, .inr ⟨h3, fun b hb => (h2.lt b hb).1⟩⟩
      rcases own_cases h2 with ⟨rfl, h0, _⟩ | ⟨g', c', rfl⟩
      · omega
      · obtain ⟨cur', hg', hb', hn', hc', hs', hx'⟩ := own_at h2
        have := at_own (base := base) (n := n + 1) hg' (by omega) hn' hc' hs'
        rwa [hx'] at this

theorem wpList_one {P : Program} (w : World) {ops : Array Oper} {rest : List Oper} {o : Oper} {a : Act} {Q : Exit → Act → World → Prop} (hgd : o.guard = none) (s q : Operand) (t : TypeId)
    (ho : o.op = .call { callee := .builtin .append, args := #[s, q], argTypes := #[t, t] })
    (base : Nat) (e : TypeId) (i : TypeInfo) (z : Value) (bytes : Nat) (ht : P.underlying t = some (.slice e)) (hi : P.info? e = some i) (hz : i.zero = some z)
    (hsize : i.size = 1) (hby : i.bytes = bytes) (hzs : z.cells.size = 1) (v : Value) (n : Nat) (xs : List Value) (hs : a.eval s = v) (hown : w.ownsRow base e 1 v n xs)
    (ad : Addr) (c : Nat) (x : Value) (hq : a.eval q = .slice (some ad) 1 c) (hx : w.cell? ad = some x) (h1 : x.oneCell' = true) (hn : (n + 1) * bytes ≤ 140737488355328) (hm : n + 1 ≤ maxLen) (hbase : base ≤ w.heap.size)
    (h : ∀ v' w', w'.ownsRow base e 1 v' (n + 1) (xs ++ [x]) → w.grownBy w' v.ownBlock →
      ((∃ g cap, v = .slice (some ⟨g, 0, none⟩) n cap ∧ v' = .slice (some ⟨g, 0, none⟩) (n + 1) cap) ∨ (w.grownBy w' none ∧ ∀ b, v'.ownBlock = some b → w.heap.size ≤ b)) → wpList P ops Q rest (a.put o.dst v') w') :
    wpList P ops Q (o :: rest) a w := by
  refine wpList_plain hgd fun K hK => ?_
  obtain ⟨v', w', hrun, h2, h3, h4⟩ := run_one (P := P) w base t o.type e i z bytes ht hi hz hsize hby hzs v n xs hown ad c x hx h1 hn hm hbase
  unfold Oper.wp execOp
  simp only [ho, resolve, invoke, builtin, Sem.run_bind, Sem.run_pure, Result.andThen_ok, List.map_toArray, List.map_cons, List.map_nil, hs, hq, hrun]
  exact hK _ _ (h v' w' h2 h3 h4)

theorem bel_tr {a b c : World} (h : Below a.heap.size a b) (k : Below b.heap.size b c) : Below a.heap.size a c := h.trans (k.mono h.size)
theorem cell_on {W w : World} {a : Addr} {v : Value} (hb : Below W.heap.size W w) (h : W.cell? a = some v) : w.cell? a = some v := (hb.cell (World.block_lt_of_cell? W a h)).trans h
theorem gr_alloc {a b : World} (h : Below a.heap.size a b) (o : Obj) : Below a.heap.size a (b.alloc o) := h.alloc h.size o
theorem at_of {w w' : World} (h : w = w') {g : Nat} {t : TypeId} {cs : Array Value} (p : At w g t cs) : At w' g t cs := h ▸ p
theorem gr_of {n : Nat} {u w w' : World} (h : w = w') (p : Below n u w) : Below n u w' := h ▸ p
theorem At.at_ (w : World) (g : Nat) (t : TypeId) (cs : Array Value) (h : g = w.heap.size) : At (w.alloc (.cells cs t)) g t cs := by rw [h]; exact At.new w t cs
theorem At.on {w w' : World} {g : Nat} {t : TypeId} {cs : Array Value} (h : At w g t cs) (hb : Below w.heap.size w w') : At w' g t cs := (hb.block g h.lt).trans h
theorem At.row {w : World} {g : Nat} {t : TypeId} {cs : Array Value} (h : At w g t cs) (ds : Array Value) : At (w.setRow g ds) g t ds := setRow_heap w g _ _ t _ h
theorem At.rowFar {w : World} {g : Nat} {t : TypeId} {cs : Array Value} (h : At w g t cs) {g' : Nat} (hne : g ≠ g') (ds : Array Value) : At (w.setRow g' ds) g t cs := (setRow_other w g' g ds hne).trans h
theorem At.range {w : World} {g o : Nat} {t : TypeId} {cs : Array Value} (h : At w g t cs) (xs : List Value) (hx : ∀ j v, xs[j]? = some v → cs[o + j]? = some v) : w.rangeAt g o xs := fun j v hj => by rw [h.cell]; exact hx j v hj
theorem At.all {w : World} {g : Nat} {t : TypeId} {xs : List Value} (h : At w g t xs.toArray) : w.rangeAt g 0 xs := h.range xs fun j v hj => by simpa using hj
theorem At.there {w : World} {g o n : Nat} {t : TypeId} {cs : Array Value} (h : At w g t cs) (hn : o + n ≤ cs.size) : w.there g o n := fun j hj => ⟨by rw [h.cell]; simp; omega, h.frozen _⟩
/-- as many cells from o on are laid anew -/
def put (cs : Array Value) (o : Nat) : List Value → Array Value
  | [] => cs
  | v :: vs => put (cs.setIfInBounds o v) (o + 1) vs
end Go.Proofs.YtkmjfaaelkmnkaaDoor
