/-
  Twins of reasons in memory: rows of the call's own, with a marked reason behind each.
-/
import Derived.Laws.AppendOwn
import Derived.Laws.MakeOwn
import Derived.OwnWalk
import Derived.Test.YtodlpmepoakdlaaVCells
namespace Go.Proofs.Ytodlpmepoakdlaa
set_option maxRecDepth 100000
open Go.RowKit
set_option linter.unusedSimpArgs false
set_option linter.unusedVariables false

open Pr (Rsn)
theorem At.grown {w w' : World} {g : Nat} {t : TypeId} {cs : Array Value} {row : Option Nat} (h : At w g t cs) (hg : w.grownBy w' row) (hne : some g ≠ row) : At w' g t cs := (hg.block g h.lt hne).trans h
/-- the cells of a reason -/
def nine (n y : Nat) (s : Value) : List Value := [.int .u64 (wd n 0 : Nat), .int .u64 (wd n 1 : Nat), .int .u64 (wd n 2 : Nat), .int .u64 (wd n 3 : Nat), .int .u64 (wd y 0 : Nat), .int .u64 (wd y 1 : Nat), .int .u64 (wd y 2 : Nat), .int .u64 (wd y 3 : Nat), s]
/-- the marked reason behind a row -/
def Sp (w : World) (g o : Nat) : Prop := C9 w g o 77 0 (.slice none 0 0)
mutual
/-- a reason whose parts are a row of their own, in blocks from B on, with a mark behind, and so on -/
def TwAt (w : World) (B : Nat) : Rsn → Nat → Nat → Prop
  | .mk n y ps, g, off => W4 w g off n ∧ W4 w g (off + 4) y ∧ ∃ g', B ≤ g' ∧ w.cell? ⟨g, off + 8, none⟩ = some (.slice (some ⟨g', 0, none⟩) ps.length (ps.length + 1)) ∧ TwLs w B ps g' 0 ∧ Sp w g' (9 * ps.length)
def TwLs (w : World) (B : Nat) : List Rsn → Nat → Nat → Prop
  | [], _, _ => True
  | r :: rs, g, off => TwAt w B r g off ∧ TwLs w B rs g (off + 9)
end
theorem twAt_iff {w : World} {B : Nat} {r : Rsn} {g off : Nat} : TwAt w B r g off ↔ W4 w g off r.n ∧ W4 w g (off + 4) r.w ∧ ∃ g', B ≤ g' ∧ w.cell? ⟨g, off + 8, none⟩ = some (.slice (some ⟨g', 0, none⟩) r.ps.length (r.ps.length + 1)) ∧ TwLs w B r.ps g' 0 ∧ Sp w g' (9 * r.ps.length) := by
  cases r with
  | mk n y ps => simp only [TwAt, Rsn.n, Rsn.w, Rsn.ps]
theorem C9.keep {w w' : World} {g o n y : Nat} {s : Value} (h : C9 w g o n y s) (hk : ∀ (p : Addr) v, p.block = g → w.cell? p = some v → w'.cell? p = some v) : C9 w' g o n y s := by
  obtain ⟨h0, h1, h2, h3, h4, h5, h6, h7, h8⟩ := h
  exact ⟨hk _ _ rfl h0, hk _ _ rfl h1, hk _ _ rfl h2, hk _ _ rfl h3, hk _ _ rfl h4, hk _ _ rfl h5, hk _ _ rfl h6, hk _ _ rfl h7, hk _ _ rfl h8⟩
mutual
theorem TwAt.keep {w w' : World} {B B' : Nat} (hB : B' ≤ B) (hk : ∀ (p : Addr) v, B ≤ p.block → w.cell? p = some v → w'.cell? p = some v) : ∀ (r : Rsn) {g off : Nat}, B ≤ g → TwAt w B r g off → TwAt w' B' r g off
  | .mk n y ps, g, off, hg, h => by
      simp only [TwAt] at h ⊢
      obtain ⟨h1, h2, g', hg', hc, hl, hs⟩ := h
      exact ⟨⟨h1.1, fun k hk' => hk _ _ hg (h1.2 k hk')⟩, ⟨h2.1, fun k hk' => hk _ _ hg (h2.2 k hk')⟩, g', by omega, hk _ _ hg hc, TwLs.keep hB hk ps hg' hl, C9.keep hs fun p v hp => hk p v (by omega)⟩
theorem TwLs.keep {w w' : World} {B B' : Nat} (hB : B' ≤ B) (hk : ∀ (p : Addr) v, B ≤ p.block → w.cell? p = some v → w'.cell? p = some v) : ∀ (ps : List Rsn) {g off : Nat}, B ≤ g → TwLs w B ps g off → TwLs w' B' ps g off
  | [], _, _, _, _ => by simp only [TwLs]
  | r :: rs, g, off, hg, h => by
      simp only [TwLs] at h ⊢
      exact ⟨TwAt.keep hB hk r hg h.1, TwLs.keep hB hk rs hg h.2⟩
end
/-- what changed is block g, and what is new -/
theorem cell_grown {w w' : World} {g B : Nat} (hg : w.grownBy w' (some g)) (hB : g < B) : ∀ (p : Addr) v, B ≤ p.block → w.cell? p = some v → w'.cell? p = some v := fun p v hp h => by
  rw [World.cell?_of_block (hg.block p.block (World.block_lt_of_cell? w p h) (by simp; omega))]
  exact h
mutual
/-- no list is too long, however deep -/
def Lens : Rsn → Prop
  | .mk _ _ ps => ps.length ≤ 1599289640400 ∧ LensL ps
def LensL : List Rsn → Prop
  | [] => True
  | r :: rs => Lens r ∧ LensL rs
end
theorem lens_iff {r : Rsn} : Lens r ↔ r.ps.length ≤ 1599289640400 ∧ LensL r.ps := by cases r; simp only [Lens, Rsn.ps]
theorem LensL.mem : ∀ {ps : List Rsn} {p : Rsn}, LensL ps → p ∈ ps → Lens p
  | r :: rs, p, h, hp => by
      simp only [LensL] at h
      rcases List.mem_cons.mp hp with e | e
      · rw [e]; exact h.1
      · exact LensL.mem h.2 e
theorem LensL.of : ∀ {ps : List Rsn}, (∀ p ∈ ps, Lens p) → LensL ps
  | [], _ => by simp only [LensL]
  | r :: rs, h => by
      simp only [LensL]
      exact ⟨h r (List.mem_cons_self ..), LensL.of fun p hp => h p (List.mem_cons_of_mem _ hp)⟩
theorem lens_cnt : ∀ (k : Nat) (r : Rsn), r.cnt ≤ k → r.cnt ≤ 1000000 → Lens r
  | 0, r, h, _ => by have := Pr.cnt_pos r; omega
  | k + 1, r, h, h2 => lens_iff.mpr ⟨by have := Pr.length_le_cnts r.ps; have h3 : r.cnt = Pr.cnts r.ps + 1 := by cases r; rfl
                                        omega, LensL.of fun p hp => by have := Pr.cnt_part hp; exact lens_cnt k p (by omega) (by omega)⟩
mutual
theorem TwAt.rs {w : World} {B : Nat} : ∀ (r : Rsn) {g off : Nat}, Lens r → TwAt w B r g off → RsAt w r g off
  | .mk n y ps, g, off, hc, h => by
      simp only [TwAt] at h
      obtain ⟨h1, h2, g', hg', hcell, hl, hs⟩ := h
      simp only [Lens] at hc
      simp only [RsAt]
      exact ⟨h1, h2, _, _, hcell, by omega, by omega, (fun e => by cases e), Or.inr ⟨g', 0, rfl, TwLs.rs ps hc.2 hl⟩⟩
theorem TwLs.rs {w : World} {B : Nat} : ∀ (ps : List Rsn) {g off : Nat}, LensL ps → TwLs w B ps g off → RsLs w ps g off
  | [], _, _, _, _ => by simp only [RsLs]
  | r :: rs, g, off, hc, h => by
      simp only [LensL] at hc
      simp only [TwLs] at h
      simp only [RsLs]
      exact ⟨TwAt.rs r hc.1 h.1, TwLs.rs rs hc.2 h.2⟩
end
theorem TwLs.sl {w : World} {B g : Nat} {ps : List Rsn} (h : TwLs w B ps g 0) (hl : ps.length ≤ 1599289640400) (hc : LensL ps) : Sl w (some ⟨g, 0, none⟩) (ps.length + 1) ps :=
  ⟨by omega, by omega, (fun e => by cases e), Or.inr ⟨g, 0, rfl, h.rs ps hc⟩⟩
theorem TwLs.of {w : World} {B : Nat} : ∀ {ps : List Rsn} {g off : Nat}, (∀ i (hi : i < ps.length), TwAt w B ps[i] g (off + 9 * i)) → TwLs w B ps g off
  | [], _, _, _ => by simp only [TwLs]
  | r :: rs, g, off, h => by
      simp only [TwLs]
      refine ⟨h 0 (by simp), TwLs.of fun i hi => ?_⟩
      have := h (i + 1) (by simpa using hi)
      rw [show off + 9 + 9 * i = off + 9 * (i + 1) by omega]
      exact this
/-- a row of reasons of one's own: the first n of c, as cells -/
def Row9 (w : World) (g n c : Nat) (xs : List Value) : Prop := ∃ cur, At w g 27 cur ∧ cur.size = c * 9 ∧ cur.toList.take (n * 9) = xs ∧ n ≤ c ∧ c ≤ 9223372036854775807
theorem Row9.on {w w' : World} {g n c : Nat} {xs : List Value} (h : Row9 w g n c xs) (hb : Below w.heap.size w w') : Row9 w' g n c xs := by
  obtain ⟨cur, h1, h2⟩ := h
  exact ⟨cur, h1.on hb, h2⟩
theorem Row9.lt {w : World} {g n c : Nat} {xs : List Value} (h : Row9 w g n c xs) : g < w.heap.size := by
  obtain ⟨cur, h1, _⟩ := h
  exact h1.lt
theorem Row9.own {w : World} {g n c : Nat} {xs : List Value} (h : Row9 w g n c xs) : w.ownsRow g 27 9 (.slice (some ⟨g, 0, none⟩) n c) n xs := by
  obtain ⟨cur, h1, h2, h3, h4, h5⟩ := h
  refine ⟨by rw [← h3, List.length_take]; simp [h2]; omega, Or.inr ⟨g, c, cur, rfl, Nat.le_refl _, h1, h4, by unfold maxLen; omega, h2, h3⟩⟩
theorem Row9.of {w : World} {base g n c : Nat} {xs : List Value} (h : w.ownsRow base 27 9 (.slice (some ⟨g, 0, none⟩) n c) n xs) : Row9 w g n c xs := by
  rcases h.2 with ⟨hv, _⟩ | ⟨g', cap, cur, hv, hb, hg, hn, hc, hs, ht⟩
  · cases hv
  · injection hv with h1 _ h3
    injection h1 with h1
    injection h1 with h1
    subst h1 h3
    exact ⟨cur, hg, hs, ht, hn, by unfold maxLen at hc; omega⟩
theorem Row9.cell {w : World} {g n c : Nat} {xs : List Value} (h : Row9 w g n c xs) {j : Nat} {v : Value} (hj : xs[j]? = some v) : w.cell? ⟨g, j, none⟩ = some v := by
  obtain ⟨cur, h1, h2, h3, h4, h5⟩ := h
  have hl : j < n * 9 := by
    have := (List.getElem?_eq_some_iff.1 hj).1
    rw [← h3, List.length_take] at this
    omega
  rw [h1.cell j, ← hj, ← h3, List.getElem?_take, if_pos hl]
  simp
/-- the j-th of a row's cells is p's, its parts a twin -/
def Elem (w : World) (g : Nat) (xs : List Value) (j : Nat) (p : Rsn) : Prop :=
  ∃ g', g < g' ∧ p.n < 2 ^ 256 ∧ p.w < 2 ^ 256 ∧ (∀ t, t < 9 → xs[9 * j + t]? = (nine p.n p.w (.slice (some ⟨g', 0, none⟩) p.ps.length (p.ps.length + 1)))[t]?) ∧ TwLs w (g + 1) p.ps g' 0 ∧ Sp w g' (9 * p.ps.length)
theorem Elem.more {w w' : World} {g j : Nat} {xs ys : List Value} {p : Rsn} (h : Elem w g xs j p) (hk : ∀ (q : Addr) v, g + 1 ≤ q.block → w.cell? q = some v → w'.cell? q = some v) : Elem w' g (xs ++ ys) j p := by
  obtain ⟨g', hg, hn, hy, hc, hl, hs⟩ := h
  refine ⟨g', hg, hn, hy, fun t ht => ?_, TwLs.keep (Nat.le_refl _) hk p.ps hg hl, C9.keep hs fun q v hq => hk q v (by omega)⟩
  have h1 := hc t ht
  have h2 : 9 * j + t < xs.length := by
    have : (nine p.n p.w (.slice (some ⟨g', 0, none⟩) p.ps.length (p.ps.length + 1)))[t]? ≠ none := by
      match t, ht with
      | 0, _ | 1, _ | 2, _ | 3, _ | 4, _ | 5, _ | 6, _ | 7, _ | 8, _ => simp [nine]
    rw [← h1] at this
    apply Decidable.byContradiction
    intro hcn
    exact this (List.getElem?_eq_none (by omega))
  rw [List.getElem?_append_left h2, h1]
theorem Elem.new {w : World} {g g' k : Nat} {xs : List Value} {p : Rsn} (hx : xs.length = 9 * k) (hg : g < g') (hn : p.n < 2 ^ 256) (hy : p.w < 2 ^ 256) (hl : TwLs w (g + 1) p.ps g' 0) (hs : Sp w g' (9 * p.ps.length)) :
    Elem w g (xs ++ nine p.n p.w (.slice (some ⟨g', 0, none⟩) p.ps.length (p.ps.length + 1))) k p := by
  refine ⟨g', hg, hn, hy, fun t ht => ?_, hl, hs⟩
  rw [List.getElem?_append_right (by omega), hx, Nat.add_sub_cancel_left]
theorem Elem.tw {w : World} {g n c j : Nat} {xs : List Value} {p : Rsn} (h : Elem w g xs j p) (hr : Row9 w g n c xs) : TwAt w g p g (9 * j) := by
  obtain ⟨g', hg, hn, hy, hc, hl, hs⟩ := h
  refine twAt_iff.mpr ⟨⟨hn, fun k hk => ?_⟩, ⟨hy, fun k hk => ?_⟩, g', by omega, ?_, TwLs.keep (by omega) (fun _ _ _ h => h) p.ps hg hl, hs⟩
  · refine hr.cell ?_
    rw [hc k (by omega)]
    match k, hk with
    | 0, _ | 1, _ | 2, _ | 3, _ => rfl
  · rw [Nat.add_assoc]
    refine hr.cell ?_
    rw [hc (4 + k) (by omega)]
    match k, hk with
    | 0, _ | 1, _ | 2, _ | 3, _ => rfl
  · refine hr.cell ?_
    rw [hc 8 (by omega)]
    rfl
theorem nine_new (w : World) (t : TypeId) (n y : Nat) (s : Value) : ∀ j u, (nine n y s)[j]? = some u → (w.alloc (.cells (nine n y s).toArray t)).cell? ((⟨w.heap.size, 0, none⟩ : Addr).add j) = some u := by
  intro j u hj
  have h := (At.new w t (nine n y s).toArray).cell j
  rw [Addr.add_lit, Nat.zero_add, h]
  simpa using hj
theorem nine_cell (n y : Nat) (a : Option Addr) (l c : Nat) : ∀ u ∈ nine n y (.slice a l c), u.oneCell' = true := by
  intro u hu
  simp [nine] at hu
  rcases hu with rfl | rfl | rfl | rfl | rfl | rfl | rfl | rfl | rfl <;> rfl
/-- a twin of a list of reasons: a row, its elements' parts twins, a mark behind -/
def TwR (w : World) (g : Nat) (ps : List Rsn) : Prop := ∃ xs, Row9 w g (ps.length + 1) (ps.length + 1) xs ∧ (∀ j (hj : j < ps.length), Elem w g xs j ps[j]) ∧ ∀ t, t < 9 → xs[9 * ps.length + t]? = (nine 77 0 (.slice none 0 0))[t]?
theorem TwR.tw {w : World} {g : Nat} {ps : List Rsn} (h : TwR w g ps) : TwLs w g ps g 0 ∧ Sp w g (9 * ps.length) := by
  obtain ⟨xs, hr, he, hs⟩ := h
  refine ⟨TwLs.of fun i hi => by rw [Nat.zero_add]; exact (he i hi).tw hr, ?_⟩
  exact ⟨hr.cell (hs 0 (by omega)), hr.cell (hs 1 (by omega)), hr.cell (hs 2 (by omega)), hr.cell (hs 3 (by omega)), hr.cell (hs 4 (by omega)), hr.cell (hs 5 (by omega)), hr.cell (hs 6 (by omega)), hr.cell (hs 7 (by omega)), hr.cell (hs 8 (by omega))⟩
/-- what is said of TwinReason, of a reason -/
def TwS (p : Rsn) : Prop := ∀ (a : Option Addr) (cap : Nat) (w : World), p.n < 2 ^ 256 → p.w < 2 ^ 256 → Sl w a cap p.ps →
  Calls Try.prog 12 #[rv p.n p.w (.slice a p.ps.length cap)] w fun e w' => ∃ g, e = .returned (rv p.n p.w (.slice (some ⟨g, 0, none⟩) p.ps.length (p.ps.length + 1))) ∧ w.heap.size ≤ g ∧ TwR w' g p.ps ∧ Below w.heap.size w w'

set_option maxHeartbeats 8000000 in
theorem twins_step (ps : List Rsn) (ih : ∀ p ∈ ps, TwS p) (hlen : ps.length ≤ 1599289640400) (a : Option Addr) (cap : Nat) (w : World) (hs : Sl w a cap ps) :
    Calls Try.prog 31 #[.slice a ps.length cap] w fun e w' => e = .returned (.slice (some ⟨w.heap.size, 0, none⟩) ps.length (ps.length + 1)) ∧ TwR w' w.heap.size ps ∧ Below w.heap.size w w' := by
  have hi28 : (Try.prog.info? 27).map (fun i => (i.zero, i.size, i.bytes)) = some (some (.agg #[.int .u64 0, .int .u64 0, .int .u64 0, .int .u64 0, .int .u64 0, .int .u64 0, .int .u64 0, .int .u64 0, .slice none 0 0]), 9, 88) := by kernel_rfl
  obtain ⟨i0, hi, hx⟩ := Option.map_eq_some_iff.1 hi28
  simp only [Prod.mk.injEq] at hx
  obtain ⟨hz0, hz1, hz2⟩ := hx
  clear hi28
  obtain ⟨l, hl⟩ : ∃ l, ps.length = l := ⟨_, rfl⟩
  rw [hl] at hlen ⊢
  have HIH := Lib.hid ih; have HS := Lib.hid hs; have HL := Lib.hid hl; have HLN := Lib.hid hlen
  clear ih hs hl
  go_enter Try.func31, Try.ntmps31
  go_wp2_with (at_make; refine wpList_make_own _ rfl _ _ 25 rfl w.heap.size 27 i0 _ 9 Try.underlying25 hi hz0 hz1 _ _ _ (l + 1) rfl rfl (by omega) ?b2 ?b3 (Nat.le_refl _) ?_)
  case b2 => rw [hz2]; omega
  case b3 => unfold maxLen; omega
  intro w0 hown0 hgrow0
  have B0 : Hid (Below w.heap.size w w0) := Lib.hid ((Below.refl _ _).grown hgrow0 (Nat.le_refl _) (by simp))
  have O0 : Hid (Row9 w0 w.heap.size 0 (l + 1) []) := Lib.hid (Row9.of hown0)
  clear hgrow0 hown0
  obtain ⟨g, hg⟩ : ∃ x, w.heap.size = x := ⟨_, rfl⟩
  have GR := Lib.hid hg
  rw [hg] at O0 ⊢
  clear hg
  go_wp2
  go_loopw [3, 4] (fun v s wr => ∃ (k : Nat) (xs : List Value), k ≤ l ∧ s = .int .i64 k ∧ v = .slice (some ⟨g, 0, none⟩) k (l + 1) ∧ Hid (Row9 wr g k (l + 1) xs ∧ xs.length = 9 * k ∧ (∀ j (hj : j < ps.length), j < k → Elem wr g xs j ps[j]) ∧ Below w.heap.size w wr)) (fun _ s _ => l - (intOf s).toNat)
  case atStart => exact ⟨0, [], Nat.zero_le _, rfl, rfl, O0.out, rfl, fun j _ hj => absurd hj (Nat.not_lt_zero _), B0.out⟩
  case round =>
    obtain ⟨k, xs, hk, rfl, rfl, hM⟩ := hrel
    clear O0 B0
    have O1 := Lib.hid hM.out.1; have X1 := Lib.hid hM.out.2.1; have T1 := Lib.hid hM.out.2.2.1; have B1 := Lib.hid hM.out.2.2.2
    clear hM
    have hgl := Lib.hid O1.out.lt
    by_cases hlt : k < l
    · have hlt' : (k : Int) < (l : Int) := by omega
      have hil : k < ps.length := by rw [HL.out]; exact hlt
      obtain ⟨gs, os, a2, cap2, q, y2, l2, ha, hq1, hq2, hq3, hqb, hyb, hs2, hc9⟩ := HS.out.c9 hil
      obtain ⟨e0, e1, e2, e3, e4, e5, e6, e7, e8⟩ := hc9 _ B1.out
      obtain ⟨pt, hpt⟩ : ∃ pt, ps[k] = pt := ⟨_, rfl⟩
      have hmem : pt ∈ ps := by rw [← hpt]; exact List.getElem_mem hil
      rw [hpt] at hq1 hq2 hq3 hs2
      have CI := HIH.out pt hmem a2 cap2 wr (by rw [hq1]; exact hqb) (by rw [hq2]; exact hyb) (hs2.on B1.out)
      rw [hq1, hq2, hq3] at CI
      have HCI := Lib.hid CI; have HLT := Lib.hid hlt
      have HPT := Lib.hid (show ∃ h : k < ps.length, ps[k] = pt from ⟨hil, hpt⟩)
      have HQ := Lib.hid (show pt.n = q ∧ pt.w = y2 ∧ pt.ps.length = l2 ∧ q < 2 ^ 256 ∧ y2 < 2 ^ 256 from ⟨hq1, hq2, hq3, hqb, hyb⟩)
      have hkw : (k : Int) + 1 ≤ 9223372036854775807 := by have := HLN.out; omega
      have HKW := Lib.hid hkw
      subst ha
      clear CI hmem hpt hs2 hyb hqb hq3 hq2 hq1 hil hlt hkw hc9
      go_wp2_with fail
      clear e0 e1 e2 e3 e4 e5 e6 e7 e8
      refine HCI.out.mono ?_
      rintro e w2 ⟨g2, rfl, hg2, t2, b2⟩
      have O2 := Lib.hid (O1.out.on b2)
      have B2 := Lib.hid (bel_tr B1.out b2)
      have T2 := Lib.hid t2; have K2 := Lib.hid b2
      have G2 := Lib.hid (show g < g2 by have := hgl.out; omega)
      clear O1 B1 t2 b2 hg2
      go_wp2_with (at_builtin; refine wpList_append_fits _ rfl (.tmp 15) (.tmp 21) 25 rfl g 27 i0 9 Try.underlying25 hi hz1 g k (l + 1) _ rfl (Row9.own (O2.out.on (gr_alloc (Below.refl _ _) _))) ⟨w2.heap.size, 0, none⟩ 1 1 (nine q y2 (.slice (some ⟨g2, 0, none⟩) l2 (l2 + 1))) rfl rfl (nine_new _ _ _ _ _) (nine_cell _ _ _ _ _) (by omega) ?_; intro w4 hown4 hgrow4)
      have hb4 : Below w.heap.size w w4 := (bel_tr B2.out (gr_alloc (Below.refl _ _) _)).grown hgrow4 (by have := B2.out.size; simp; omega) (by have := GR.out; simp; omega)
      have hkeep0 : ∀ (p : Addr) v, g + 1 ≤ p.block → wr.cell? p = some v → w4.cell? p = some v := fun p v hp h =>
        cell_grown hgrow4 (B := g + 1) (by omega) p v hp (cell_on (bel_tr K2.out (gr_alloc (Below.refl _ _) _)) h)
      have hkeep2 : ∀ (p : Addr) v, g + 1 ≤ p.block → w2.cell? p = some v → w4.cell? p = some v := fun p v hp h =>
        cell_grown hgrow4 (B := g + 1) (by omega) p v hp (cell_on (gr_alloc (Below.refl _ _) _) h)
      have hT4 : ∀ j (hj : j < ps.length), j < k + 1 → Elem w4 g (xs ++ nine q y2 (.slice (some ⟨g2, 0, none⟩) l2 (l2 + 1))) j ps[j] := fun j hj hjk => by
        rcases Nat.lt_or_ge j k with h | h
        · exact (T1.out j hj h).more hkeep0
        · obtain rfl : j = k := by omega
          obtain ⟨_, hpt⟩ := HPT.out
          obtain ⟨h1, h2, h3, h4, h5⟩ := HQ.out
          rw [hpt, ← h1, ← h2, ← h3]
          have htw := T2.out.tw
          have hg2 := G2.out
          exact Elem.new X1.out G2.out (by rw [h1]; exact h4) (by rw [h2]; exact h5) (TwLs.keep (by omega) (fun p v hp h => hkeep2 p v (by omega) h) pt.ps (Nat.le_refl _) htw.1) (C9.keep htw.2 fun p v hp h => hkeep2 p v (by omega) h)
      have O4 := Lib.hid (Row9.of hown4)
      have T4 := Lib.hid hT4
      have B4 := Lib.hid hb4
      have X4 := Lib.hid (show (xs ++ nine q y2 (.slice (some ⟨g2, 0, none⟩) l2 (l2 + 1))).length = 9 * (k + 1) by rw [List.length_append, X1.out]; simp [nine]; omega)
      clear hown4 hgrow4 O2 hb4 hkeep0 hkeep2 hT4 B2 T2 K2 hgl T1 X1 G2
      have hkw := HKW.out
      go_wp2
      go_roundw
      case rel =>
        have hlt := HLT.out
        first
          | exact ⟨k + 1, _, by omega, by go_num, rfl, O4.out, X4.out, T4.out, B4.out⟩
          | ((repeat apply Exists.intro); exact ⟨⟨k + 1, _, by omega, by go_num, rfl, O4.out, X4.out, T4.out, B4.out⟩, rfl⟩)
      case measure => (have := HLT.out; simp [intOf]; omega)
    · obtain rfl : k = l := by omega
      have hlt' : ¬ (k : Int) < (k : Int) := by omega
      have hnew : ∀ j u, (nine 77 0 (.slice none 0 0))[j]? = some u → (wr.alloc (.cells #[.int .u64 77, .int .u64 0, .int .u64 0, .int .u64 0, .int .u64 0, .int .u64 0, .int .u64 0, .int .u64 0, .slice none 0 0] 27)).cell? ((⟨wr.heap.size, 0, none⟩ : Addr).add j) = some u := nine_new wr 27 77 0 (.slice none 0 0)
      have HNEW := Lib.hid hnew
      clear hnew hlt
      go_wp2_with (at_builtin; refine wpList_append_fits _ rfl (.tmp 23) (.tmp 26) 25 rfl g 27 i0 9 Try.underlying25 hi hz1 g k (k + 1) _ rfl (Row9.own (O1.out.on (gr_alloc (Below.refl _ _) _))) ⟨wr.heap.size, 0, none⟩ 1 1 (nine 77 0 (.slice none 0 0)) rfl rfl HNEW.out (nine_cell _ _ _ _ _) (by omega) ?_; intro w4 hown4 hgrow4)
      go_ret
      have hkeep0 : ∀ (p : Addr) v, g + 1 ≤ p.block → wr.cell? p = some v → w4.cell? p = some v := fun p v hp h =>
        cell_grown hgrow4 (B := g + 1) (by omega) p v hp (cell_on (gr_alloc (Below.refl _ _) _) h)
      refine ⟨by rw [GR.out]; rfl, ?_, ?_⟩
      · rw [GR.out]
        refine ⟨xs ++ nine 77 0 (.slice none 0 0), by rw [HL.out]; exact Row9.of hown4, fun j hj => (T1.out j hj (by rw [← HL.out]; exact hj)).more hkeep0, fun t ht => ?_⟩
        rw [HL.out, List.getElem?_append_right (by rw [X1.out]; omega), X1.out, Nat.add_sub_cancel_left]
      · exact (bel_tr B1.out (gr_alloc (Below.refl _ _) _)).grown hgrow4 (by have := B1.out.size; simp; omega) (by have := GR.out; simp; omega)
end Go.Proofs.Ytodlpmepoakdlaa
