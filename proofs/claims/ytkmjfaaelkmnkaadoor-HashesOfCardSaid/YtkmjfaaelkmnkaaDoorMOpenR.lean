/-
  How the statements' arguments are read: bytes.
-/
import Derived.Test.YtkmjfaaelkmnkaaDoorRows
import Derived.ProofKit
import Derived.OpenShut
import Derived.ShutString
import Derived.ChangeOld
import Derived.SizedLaws
import Derived.Below
import Derived.Laws.AppendOwnNone
import Derived.Deep.Matrix
import Derived.Test.YtkmjfaaelkmnkaaDoorMBkWords
import Derived.Test.YtkmjfaaelkmnkaaDoorMNone
import Derived.Test.YtkmjfaaelkmnkaaDoorMSum2
namespace Go.Proofs.YtkmjfaaelkmnkaaDoor
open Go.ChangeShapes Go.WideShapes Go.ChangeAt Go.RowKit

theorem own : ownKnob Tryd.prog.godebug = none := by kernel_rfl
theorem laidOut : laidOutB Tryd.prog = true := by kernel_rfl
theorem cellsSl : Tryd.prog.cellsOf 22 = 1 := by kernel_rfl
theorem cellsBy : Tryd.prog.cellsOf 5 = 1 := by kernel_rfl
theorem bytesBy : Tryd.prog.bytesOf 5 = 1 := by kernel_rfl

/-- bytes that came in -/
def InB (w : World) (A : Option Addr) (n c : Nat) (l : List Nat) : Prop := n ≤ c ∧ c ≤ 9223372036854775807 ∧ (A = none → n = 0 ∧ c = 0) ∧ Rd w A n (bs l) ∧ ∀ y ∈ l, y < 256

theorem weigh {H : Type} {ts : List TypeId} {ds : List (DataW H)} (h : (DataW.weightsEach Tryd.prog ts ds).all (· ≤ reachBytes) = true) {j : Nat} {t : TypeId} {d : DataW H} (ht : ts[j]? = some t) (hd : ds[j]? = some d) :
    ∀ n ∈ d.weights Tryd.prog t, n ≤ 140737488351232 := by
  intro n hn
  have := List.all_eq_true.1 h n (DataW.weights_mem_each ht hd n hn)
  have h2 : n ≤ reachBytes := of_decide_eq_true this
  exact h2

section
variable {H : Type} {enc : TypeId × Value → H} {w : World} {held : Bool}

theorem open_bytes {fuel : Nat} {cs : List Value} {x : DataW H × List MemPlace} (h : DataW.trod enc Tryd.prog w 0 (fun _ => true) held fuel 22 cs = some x) :
    ∃ A n c l, cs = [.slice A n c] ∧ InB w A n c l ∧ ((∀ m ∈ x.1.weights Tryd.prog 22, m ≤ 140737488351232) → n ≤ 140737488351232) := by
  rcases open_ints Tryd.underlying22 Tryd.underlying5 cellsBy h with ⟨hcs, hx⟩ | ⟨a, len, cap, zs, hcs, _, hl, hm, hz, hx, hcell, hwz⟩
  · exact ⟨none, 0, 0, [], hcs, ⟨Nat.le_refl _, Nat.zero_le _, fun _ => ⟨rfl, rfl⟩, Rd.nil _ _, by simp⟩, fun _ => Nat.zero_le _⟩
  · simp only [if_true] at hz
    have hb : ∀ z ∈ zs, 0 ≤ z ∧ z ≤ 255 := fun z hz => bounds_u8 (hwz z hz)
    have hg : ∀ i, i < len → (((zs.take len).map Int.toNat).getD i 0 : Nat) = zs.getD i 0 := by
      intro i hi
      have h1 : i < zs.length := by omega
      have := hb zs[i] (List.getElem_mem h1)
      simp [hi, h1]
      omega
    refine ⟨some a, len, cap, (zs.take len).map Int.toNat, hcs, ⟨hl, by unfold maxLen at hm; omega, by simp, ⟨by simp [bs]; omega, fun hp => ?_⟩, ?_⟩, fun hw => ?_⟩
    · obtain ⟨b, off, spot⟩ := a
      have hc := hcell 0 (by omega)
      have hspot : spot = none := by simpa [Addr.add] using World.cell?_spot hc
      subst hspot
      refine ⟨b, off, rfl, World.block_lt_of_cell? w _ (hcell 0 (by omega)), fun j u hu => ?_⟩
      have hj : j < len := by
        have := (List.getElem?_eq_some_iff.1 hu).1
        simp [bs] at this
        omega
      rw [bs_at _ j (by simp; omega)] at hu
      obtain rfl := Option.some.inj hu
      have := hcell j (by omega)
      rw [Addr.add_lit] at this
      rw [this, hg j hj]
    · intro y hy
      obtain ⟨z, hz1, rfl⟩ := List.mem_map.1 hy
      have := hb z (List.mem_of_mem_take hz1)
      omega
    · have := hw ((lits .u8 (zs.take len) : List (DataW H)).length + (lits .u8 (zs.drop len) : List (DataW H)).length) (by
        rw [hx]
        simp [DataW.weights, Tryd.underlying22, bytesBy])
      simp [lits] at this
      omega
end

/-- a table's cells, off what the row says that it holds -/
def tabCells : DataW Unit → Array Value
  | .agg ds => (ds.map fun | .lit (.int k z) => Value.int k z | _ => undef).toArray
  | _ => #[]
def lay (c : Array Value) : Obj → Obj
  | .cells _ t frozen => .cells c t frozen
  | o => o
/-- a world for the witness: the settled one, the tables holding what their initialisers lay -/
noncomputable def laidWorld (os : Os) : World :=
  { World.holding Tryd.prog os ⟨#[], #[], []⟩ with heap := (((World.holding Tryd.prog os ⟨#[], #[], []⟩).heap.modify 0 (lay (tabCells Rows.laid_balefire_shas_squares))).modify 1 (lay (tabCells Rows.laid_balefire_shas_cubes))) }

set_option maxRecDepth 100000 in
theorem sl_of {w : World} {base : Nat} {v : Value} {A : Option Addr} {n c : Nat} (h : v.cells.toList = [Value.slice A n c]) (hv : Value.okWide Tryd.prog w .any base 22 v) : v = .slice A n c := by
  obtain ⟨a, len, cap, rfl⟩ := okWide_slice (P := Tryd.prog) Tryd.underlying22 hv
  simpa [Value.cells] using h
end Go.Proofs.YtkmjfaaelkmnkaaDoor

/-
  Rows of a call's own, while the world grows; what lies under it.
-/
namespace Go.Proofs.YtkmjfaaelkmnkaaDoor
open Go.RowKit
set_option linter.unusedSimpArgs false
set_option linter.unusedVariables false

def cat (RB : Nat → List Nat) : Nat → List Nat
  | 0 => []
  | k + 1 => cat RB k ++ RB k
/-- append onto a row of the call's own: in its place, or in a new block -/
theorem wpList_append_rd2 {P : Program} (w : World) {ops : Array Oper} {rest : List Oper} {o : Oper} {a : Act} {Q : Exit → Act → World → Prop} (hgd : o.guard = none) (s x : Operand) (t : TypeId)
    (ho : o.op = .call { callee := .builtin .append, args := #[s, x], argTypes := #[t, t] })
    (base : Nat) (e : TypeId) (i : TypeInfo) (z : Value) (bytes : Nat) (ht : P.underlying t = some (.slice e)) (hi : P.info? e = some i) (hz : i.zero = some z)
    (hsize : i.size = 1) (hby : i.bytes = bytes) (hzs : z.cells.size = 1)
    (v : Value) (n : Nat) (xs : List Value) (hs : a.eval s = v) (hown : w.ownsRow base e 1 v n xs)
    (A : Option Addr) (m c : Nat) (news : List Value) (hx : a.eval x = .slice A m c) (hnil : A = none → m = 0 ∧ c = 0) (hr : Rd w A m news) (h1 : ∀ u ∈ news, u.oneCell' = true)
    (h63 : n + m ≤ maxLen) (hbytes : (n + m) * bytes ≤ 140737488355328) (hbase : base ≤ w.heap.size)
    (h : ∀ v' w', w'.ownsRow base e 1 v' (n + m) (xs ++ news) → w.grownBy w' v.ownBlock → (v'.ownBlock = v.ownBlock ∨ v'.ownBlock = some w.heap.size) → wpList P ops Q rest (a.put o.dst v') w') :
    wpList P ops Q (o :: rest) a w := by
  cases A with
  | none =>
    obtain ⟨rfl, rfl⟩ := hnil rfl
    have hn : news = [] := List.eq_nil_of_length_eq_zero hr.1
    subst hn
    exact wpList_append_own_none hgd s x t ho base e i 1 ht hi v n xs hs hown hx (h v w (by simpa using hown) (World.grownBy.refl _ _) (.inl rfl))
  | some ad => exact wpList_append_own_at w hgd s x t ho base e i z 1 bytes ht hi hz hsize hby hzs (by decide) v n xs hs hown ad m c news hx (by rw [hr.1, Nat.mul_one]) (hr.src ad rfl) h1 h63 hbytes hbase fun v' w' h2 h3 _ h5 => h v' w' h2 h3 h5
theorem grownR {w w' : World} {g : Nat} {t : TypeId} {cs : Array Value} {row : Option Nat} (h : At w g t cs) (hg : w.grownBy w' row) (hne : row ≠ some g) : At w' g t cs := h.grown hg (fun e => hne e.symm)
theorem SumAt.grownR {w w' : World} {g : Nat} {l : List Nat} {row : Option Nat} (h : SumAt w g l) (hg : w.grownBy w' row) (hne : row ≠ some g) : SumAt w' g l := by
  obtain ⟨B, h1, h2, h3, h4⟩ := h
  exact ⟨B, h1, h2, h3.grown hg (fun e => hne e.symm), h4⟩
theorem Tabs.grownR {w w' : World} {row : Option Nat} (h : Tabs w) (hg : w.grownBy w' row) (h0 : row ≠ some 0) (h1 : row ≠ some 1) : Tabs w' := by
  refine ⟨fun i hi => ?_, fun j v hv => ?_⟩
  · have := h.k i hi
    have hb := hg.block 1 h.lt1 (fun e => h1 e.symm)
    simpa [World.cell?, hb] using this
  · have := h.h j v hv
    have hb := hg.block 0 (by have := h.lt1; omega) (fun e => h0 e.symm)
    simpa [World.cell?, hb] using this
theorem own_on {W w : World} {N base n : Nat} {e : TypeId} {v : Value} {xs : List Value} (h : W.ownsRow base e 1 v n xs) (hb : Below W.heap.size W w) (hN : N ≤ base) : w.ownsRow N e 1 v n xs := by
  rcases own_cases h with ⟨rfl, rfl, rfl⟩ | ⟨g, c, rfl⟩
  · exact World.ownsRow_nil _ _ _ _
  · obtain ⟨cur, hg, hbg, hn, hc, hs, ht⟩ := own_at h
    have := at_own (base := N) (n := n) (c := c) (hg.on hb) (by omega) hn hc hs
    rwa [ht] at this
theorem own_kept {W w : World} {base n g : Nat} {e : TypeId} {v : Value} {xs : List Value} (h : W.ownsRow base e 1 v n xs) (hg : W.grownBy w (some g)) (hne : v.ownBlock ≠ some g) : w.ownsRow base e 1 v n xs := by
  rcases own_cases h with ⟨rfl, rfl, rfl⟩ | ⟨b, c, rfl⟩
  · exact World.ownsRow_nil _ _ _ _
  · obtain ⟨cur, hgb, hbg, hn, hc, hs, ht⟩ := own_at h
    have := at_own (base := base) (n := n) (c := c) (hgb.grown hg (fun e => hne e)) hbg hn hc hs
    rwa [ht] at this
theorem Twin.grown {w w' : World} {g k : Nat} {l : List Nat} (h : Twin w g l) (hg : w.grownBy w' (some k)) (hne : g ≠ k) : Twin w' g l := At.grown h hg (by simpa using hne)

end Go.Proofs.YtkmjfaaelkmnkaaDoor

/-
  Lists of bytes that came in, how much they hold (RecordsSize), and whether that is beyond what is tried (Beyond).
-/
namespace Go.Proofs.YtkmjfaaelkmnkaaDoor
open Go.RowKit
set_option linter.unusedSimpArgs false
set_option linter.unusedVariables false

/-- a slice of slices of bytes that came in -/
structure Rows2 (w : World) (A : Option Addr) (n c : Nat) (RA : Nat → Option Addr) (RL RC : Nat → Nat) (RB : Nat → List Nat) : Prop where
  nc : n ≤ c
  cm : c ≤ 9223372036854775807
  cell : ∀ j, j < n → ∃ b o, A = some ⟨b, o, none⟩ ∧ b < w.heap.size ∧ w.cell? ⟨b, o + j, none⟩ = some (.slice (RA j) (RL j) (RC j))
  rd : ∀ j, j < n → Rd w (RA j) (RL j) (bs (RB j))
  rnc : ∀ j, j < n → RL j ≤ RC j ∧ RC j ≤ 9223372036854775807 ∧ RL j ≤ 140737488351232
  rnil : ∀ j, j < n → RA j = none → RL j = 0 ∧ RC j = 0
  byte : ∀ j, j < n → ∀ y ∈ RB j, y < 256
theorem Rows2.below {w w' : World} {A : Option Addr} {n c : Nat} {RA : Nat → Option Addr} {RL RC : Nat → Nat} {RB : Nat → List Nat} (h : Rows2 w A n c RA RL RC RB) (hb : Below w.heap.size w w') : Rows2 w' A n c RA RL RC RB :=
  ⟨h.nc, h.cm, fun j hj => by obtain ⟨b, o, e, hl, hc⟩ := h.cell j hj; exact ⟨b, o, e, Nat.lt_of_lt_of_le hl hb.size, cell_on hb hc⟩, fun j hj => (h.rd j hj).below hb, h.rnc, h.rnil, h.byte⟩
def tot (RL : Nat → Nat) : Nat → Nat
  | 0 => 0
  | k + 1 => tot RL k + RL k
theorem tot_le (RL : Nat → Nat) {k n : Nat} (h : k ≤ n) : tot RL k ≤ tot RL n := by
  induction n with
  | zero => rw [show k = 0 by omega]; exact Nat.le_refl _
  | succ n ih =>
    by_cases e : k = n + 1
    · rw [e]; exact Nat.le_refl _
    · have := ih (by omega); simp only [tot]; omega

theorem bsize_ok (A : Option Addr) (n c : Nat) (w : World) (hn : n ≤ 140737488351232) : Calls Tryd.prog 54 #[.slice A n c] w fun e w' => e = .returned (.int .i64 (n : Nat)) ∧ w = w' := by
  go_enter Tryd.func54, Tryd.ntmps54
  go_wp2
  go_ret
  exact ⟨rfl, rfl⟩
theorem rsize_ok (A : Option Addr) (n c : Nat) (RA : Nat → Option Addr) (RL RC : Nat → Nat) (RB : Nat → List Nat) (w : World) (hn : n ≤ 60) (hR : Rows2 w A n c RA RL RC RB) :
    Calls Tryd.prog 35 #[.slice A n c] w fun e w' => (∃ s : Nat, e = .returned (.int .i64 (s : Nat)) ∧ s ≤ 140737490000000 ∧ (s ≤ 1048576 → tot RL n ≤ 1048576)) ∧ w = w' := by
  have HR := Lib.hid hR
  clear hR
  go_enter Tryd.func35, Tryd.ntmps35
  go_wp2
  go_loopw [3, 4] (fun sv s' wr => ∃ k s : Nat, k ≤ n ∧ s' = .int .i64 k ∧ sv = .int .i64 s ∧ s = n + tot RL k ∧ s ≤ 140737490000000 ∧ wr = w) (fun _ s' _ => n - (intOf s').toNat)
  case atStart => exact ⟨0, n, by omega, rfl, rfl, rfl, by omega, rfl⟩
  case round =>
    obtain ⟨k, s, hk, rfl, rfl, hs, hsm, rfl⟩ := hrel
    have HS := Lib.hid hs
    clear hs
    by_cases hlt : k < n
    · have hlt' : (k : Int) < (n : Int) := by omega
      by_cases hsz : s ≤ 1048576
      · have hsz' : (s : Int) ≤ 1048576 := by omega
        obtain ⟨b, o, rfl, hbl, hcell⟩ := HR.out.cell k hlt
        have C := Lib.hid (bsize_ok (RA k) (RL k) (RC k) wr (HR.out.rnc k hlt).2.2)
        have hrl := (HR.out.rnc k hlt).2.2
        have HS2 : Hid (s + RL k = n + tot RL (k + 1)) := Lib.hid (by rw [tot, HS.out]; omega)
        generalize RA k = ra at *
        generalize RL k = rl at *
        generalize RC k = rc at *
        go_wp2_with (go_at_call 54; refine C.out.mono ?_; rintro e w' ⟨rfl, rfl⟩)
        go_roundw
        case rel => exact ⟨k + 1, s + rl, by omega, by go_num, by go_num, HS2.out, by omega, by first | rfl | trivial⟩
        case measure => simp [intOf]; omega
      · have hsz' : ¬ (s : Int) ≤ 1048576 := by omega
        go_wp2
        go_ret
        exact ⟨⟨s, rfl, hsm, fun h => absurd h hsz⟩, rfl⟩
    · obtain rfl : k = n := by omega
      have hlt' : ¬ (k : Int) < (k : Int) := by omega
      go_wp2
      go_ret
      exact ⟨⟨s, rfl, hsm, fun h => by have := HS.out; omega⟩, rfl⟩
end Go.Proofs.YtkmjfaaelkmnkaaDoor

/-
  How an argument [][]byte is read.
-/
namespace Go.Proofs.YtkmjfaaelkmnkaaDoor
set_option linter.unusedSimpArgs false
set_option linter.unusedVariables false
open Go.ChangeShapes Go.WideShapes Go.ChangeAt Go.RowKit Go.Deep

theorem mem_weightsAll {H : Type} {P : Program} {e : TypeId} {m : Nat} {d : DataW H} : ∀ {l : List (DataW H)}, d ∈ l → m ∈ d.weights P e → m ∈ DataW.weightsAll P e l
  | [], h, _ => by cases h
  | x :: l, h, hm => by
    rw [DataW.weightsAll]
    rcases List.mem_cons.1 h with rfl | h
    · exact List.mem_append_left _ hm
    · exact List.mem_append_right _ (mem_weightsAll h hm)
theorem cellsSS : Tryd.prog.cellsOf 34 = 1 := by kernel_rfl
section
variable {H : Type} {enc : TypeId × Value → H} {w : World} {held : Bool}
theorem open_rows {fuel : Nat} {cs : List Value} {x : DataW H × List MemPlace} (h : DataW.trod enc Tryd.prog w 0 (fun _ => true) held fuel 34 cs = some x)
    (hw : ∀ m ∈ x.1.weights Tryd.prog 34, m ≤ 140737488351232) :
    ∃ A n c RA RL RC RB, cs = [.slice A n c] ∧ Rows2 w A n c RA RL RC RB ∧ n ≤ 9223372036854775807 ∧ (A = none → n = 0 ∧ c = 0) := by
  rcases open_int_rows Tryd.underlying34 Tryd.underlying22 Tryd.underlying5 cellsSl cellsBy h with ⟨hcs, hx⟩ | ⟨a, len, cap, A, L, C, Z, hcs, _, hl, hm, hx, hrow⟩
  · exact ⟨none, 0, 0, fun _ => none, fun _ => 0, fun _ => 0, fun _ => [], hcs, ⟨Nat.le_refl _, Nat.zero_le _, fun j hj => absurd hj (Nat.not_lt_zero _), fun j hj => absurd hj (Nat.not_lt_zero _), fun j hj => absurd hj (Nat.not_lt_zero _), fun j hj => absurd hj (Nat.not_lt_zero _), fun j hj => absurd hj (Nat.not_lt_zero _)⟩, Nat.zero_le _, fun _ => ⟨rfl, rfl⟩⟩
  · unfold maxLen at hm
    refine ⟨some a, len, cap, A, L, C, fun r => ((Z r).take (L r)).map Int.toNat, hcs, ⟨hl, by omega, fun j hj => ?_, fun j hj => ?_, fun j hj => ?_, fun j hj => ?_, fun j hj => ?_⟩, by omega, fun e => by cases e⟩
    · obtain ⟨b, off, spot⟩ := a
      have hc := (hrow j (by omega)).1
      have hspot : spot = none := by
        have h0 := (hrow 0 (by omega)).1
        simpa [Addr.add] using World.cell?_spot h0
      subst hspot
      rw [Addr.add_lit] at hc
      exact ⟨b, off, rfl, World.block_lt_of_cell? w _ hc, hc⟩
    · obtain ⟨_, h1, h2, h3, h4, h5, h6⟩ := hrow j (by omega)
      have hb : ∀ z ∈ Z j, 0 ≤ z ∧ z ≤ 255 := fun z hz => bounds_u8 (h4 z hz)
      have hg : ∀ i, i < L j → ((((Z j).take (L j)).map Int.toNat).getD i 0 : Nat) = (Z j).getD i 0 := by
        intro i hi
        have h1 : i < (Z j).length := by omega
        have := hb (Z j)[i] (List.getElem_mem h1)
        simp [hi, h1]
        omega
      refine ⟨by simp [bs]; omega, fun hp => ?_⟩
      cases hA : A j with
      | none => have := h5 hA; omega
      | some a' =>
        obtain ⟨b, off, spot⟩ := a'
        have hcell := (h6 _ hA).2
        have hspot : spot = none := by simpa [Addr.add] using World.cell?_spot (hcell 0 (by omega))
        subst hspot
        refine ⟨b, off, rfl, World.block_lt_of_cell? w _ (hcell 0 (by omega)), fun k u hu => ?_⟩
        have hk : k < L j := by
          have := (List.getElem?_eq_some_iff.1 hu).1
          simp [bs] at this
          omega
        rw [bs_at _ k (by simp; omega)] at hu
        obtain rfl := Option.some.inj hu
        have := hcell k (by omega)
        rw [Addr.add_lit] at this
        rw [this, hg k hk]
    · obtain ⟨_, h1, h2, h3, h4, h5, h6⟩ := hrow j (by omega)
      unfold maxLen at h2
      refine ⟨h1, by omega, ?_⟩
      cases hA : A j with
      | none => have := h5 hA; omega
      | some a' =>
        have hmem : ((lits .u8 ((Z j).take (L j)) : List (DataW H)).length + (lits .u8 ((Z j).drop (L j)) : List (DataW H)).length) ∈ (intRow .u8 (A j) (L j) (Z j) : DataW H).weights Tryd.prog 22 := by
          rw [hA]
          simp [intRow, DataW.weights, Tryd.underlying22, bytesBy]
        have h7 : ∀ m ∈ (intRow .u8 (A j) (L j) (Z j) : DataW H).weights Tryd.prog 22, m ≤ 140737488351232 := fun m hm => hw m (by
          rw [hx]
          simp only [DataW.weights, Tryd.underlying34]
          exact List.mem_cons_of_mem _ (List.mem_append_left _ (mem_weightsAll (List.mem_map.2 ⟨j, List.mem_range.2 hj, rfl⟩) hm)))
        have := h7 _ hmem
        simp [lits] at this
        omega
    · obtain ⟨_, h1, h2, h3, h4, h5, h6⟩ := hrow j (by omega)
      intro hA
      have := h5 hA
      omega
    · obtain ⟨_, h1, h2, h3, h4, h5, h6⟩ := hrow j (by omega)
      intro y hy
      obtain ⟨z, hz1, rfl⟩ := List.mem_map.1 hy
      have := bounds_u8 (h4 z (List.mem_of_mem_take hz1))
      omega
end
set_option maxRecDepth 100000 in
theorem slr_of {w : World} {base : Nat} {v : Value} {A : Option Addr} {n c : Nat} (h : v.cells.toList = [Value.slice A n c]) (hv : Value.okWide Tryd.prog w .any base 34 v) : v = .slice A n c := by
  obtain ⟨a, len, cap, rfl⟩ := okWide_slice (P := Tryd.prog) Tryd.underlying34 hv
  simpa [Value.cells] using h
end Go.Proofs.YtkmjfaaelkmnkaaDoor
