/-
  Whether two lists of bytes are the same (SameBytes), and two lists of parts (SameRecords).
-/
import Derived.Deep.QuietTactic
import Derived.BigQuiet
import Derived.Test.YtkmjfaaelkmnkaaDoorMConcat
import Derived.Test.YtkmjfaaelkmnkaaDoorMOpenR
namespace Go.Proofs.YtkmjfaaelkmnkaaDoor
open Go.RowKit
set_option linter.unusedSimpArgs false
set_option linter.unusedVariables false
set_option maxRecDepth 100000

def eqL (l m : List Nat) : Bool := decide (l = m)
theorem take_eq (l m : List Nat) (j : Nat) (hl : j < l.length) (hm : j < m.length) (h : l.take j = m.take j) (e : l.getD j 0 = m.getD j 0) : l.take (j + 1) = m.take (j + 1) := by
  rw [List.take_succ_eq_append_getElem hl, List.take_succ_eq_append_getElem hm, h]
  simp [hl, hm] at e
  rw [e]
theorem same_any (A B : Option Addr) (n k c d : Nat) (l m : List Nat) (w : World) (hn : n ≤ 9223372036854775807) (hk : k ≤ 9223372036854775807) (hA : Rd w A n (bs l)) (hB : Rd w B k (bs m)) :
    Calls Tryd.prog 23 #[.slice A n c, .slice B k d] w fun e w' => e = .returned (.bool (eqL l m)) ∧ ∃ k, w' = w.drewN k := by
  have hln : l.length = n := by have := hA.1; rwa [bs_len] at this
  have hlm : m.length = k := by have := hB.1; rwa [bs_len] at this
  have HL := Lib.hid hln
  have HM := Lib.hid hlm
  clear hln hlm
  obtain ⟨bb, hbb⟩ : ∃ b, eqL l m = b := ⟨_, rfl⟩
  have HB := Lib.hid hbb
  rw [hbb]
  clear hbb
  by_cases hnk : n = k
  · subst hnk
    go_enter Tryd.func23, Tryd.ntmps23
    go_wp2
    go_loopw [5] (fun i wr => ∃ j q : Nat, j ≤ n ∧ i = .int .i64 j ∧ wr = w.drewN q ∧ Hid (l.take j = m.take j)) (fun i _ => n - (intOf i).toNat)
    case atStart => exact ⟨0, 0, Nat.zero_le _, rfl, rfl, Lib.hid (by simp)⟩
    case round =>
      obtain ⟨j, q, hj, rfl, rfl, HE⟩ := hrel
      by_cases hlt : j < n
      · obtain ⟨b, off, rfl, hbs, hcell⟩ := hA.spot hlt
        obtain ⟨b', off', rfl, hbs', hcell'⟩ := hB.spot hlt
        have h1 : w.cell? ⟨b, off + j, none⟩ = some (.int .u8 (l.getD j 0 : Nat)) := hcell j _ (bs_at l j (by have := HL.out; omega))
        have h2 : w.cell? ⟨b', off' + j, none⟩ = some (.int .u8 (m.getD j 0 : Nat)) := hcell' j _ (bs_at m j (by have := HM.out; omega))
        have hi1 : (j : Int) < (n : Int) := by omega
        clear hcell hcell' hA hB
        by_cases he : l.getD j 0 = m.getD j 0
        · have HS := Lib.hid (take_eq l m j (by have := HL.out; omega) (by have := HM.out; omega) HE.out he)
          rw [← he] at h2
          generalize l.getD j 0 = x at *
          clear he
          go_wp2
          go_quiet (fail)
          go_wp2
          go_roundw
          case rel => exact ⟨j + 1, q + nq, by omega, by go_num, rfl, HS⟩
          case measure => simp [intOf]; omega
        · have HF : Hid (bb = false) := Lib.hid (by
            rw [← HB.out]
            refine decide_eq_false fun e => he (by rw [e]))
          generalize l.getD j 0 = x at *
          generalize m.getD j 0 = y at *
          have e1 : ((x : Int) == (y : Int)) = false := by simp; omega
          have e2 : ((x : Int) != (y : Int)) = true := by simp; omega
          have e3 : decide ((x : Int) = (y : Int)) = false := by simp; omega
          clear he
          go_wp2
          go_quiet (fail)
          go_wp2
          go_ret
          exact ⟨by rw [HF.out]; rfl, _, World.drewN_drewN _ _ _⟩
      · obtain rfl : j = n := by omega
        have HF : Hid (bb = true) := Lib.hid (by
          rw [← HB.out]
          refine decide_eq_true ?_
          have h := HE.out
          rwa [List.take_of_length_le (by have := HL.out; omega), List.take_of_length_le (by have := HM.out; omega)] at h)
        go_wp2
        go_ret
        exact ⟨by rw [HF.out]; rfl, q, rfl⟩
  · have HF : Hid (bb = false) := Lib.hid (by
      rw [← HB.out]
      refine decide_eq_false fun e => hnk (by have h1 := HL.out; have h2 := HM.out; rw [e] at h1; omega))
    have e1 : ((n : Int) == (k : Int)) = false := by simp; omega
    have e2 : ((n : Int) != (k : Int)) = true := by simp; omega
    clear hnk
    go_enter Tryd.func23, Tryd.ntmps23
    go_wp2
    go_ret
    exact ⟨by rw [HF.out]; rfl, 0, rfl⟩

def eqR (n k : Nat) (RB RC : Nat → List Nat) : Bool := decide (n = k ∧ ∀ j, j < n → RB j = RC j)
theorem sameR_any (A B : Option Addr) (n k c d : Nat) (RA RA' : Nat → Option Addr) (RL RC RL' RC' : Nat → Nat) (RB RB' : Nat → List Nat) (w : World) (hn : n ≤ 9223372036854775807) (hk : k ≤ 9223372036854775807) (hA : Rows2 w A n c RA RL RC RB) (hB : Rows2 w B k d RA' RL' RC' RB') :
    Calls Tryd.prog 22 #[.slice A n c, .slice B k d] w fun e w' => e = .returned (.bool (eqR n k RB RB')) ∧ ∃ q, w' = w.drewN q := by
  have HA := Lib.hid hA
  have HB := Lib.hid hB
  clear hA hB
  obtain ⟨bb, hbb⟩ : ∃ b, eqR n k RB RB' = b := ⟨_, rfl⟩
  have HBB := Lib.hid hbb
  rw [hbb]
  clear hbb
  by_cases hnk : n = k
  · subst hnk
    go_enter Tryd.func22, Tryd.ntmps22
    go_wp2
    go_loopw [5] (fun i wr => ∃ j q : Nat, j ≤ n ∧ i = .int .i64 j ∧ wr = w.drewN q ∧ Hid (∀ i, i < j → RB i = RB' i)) (fun i _ => n - (intOf i).toNat)
    case atStart => exact ⟨0, 0, Nat.zero_le _, rfl, rfl, Lib.hid (fun i hi => absurd hi (Nat.not_lt_zero _))⟩
    case round =>
      obtain ⟨j, q, hj, rfl, rfl, HE⟩ := hrel
      by_cases hlt : j < n
      · obtain ⟨b, off, rfl, hbs, hcell⟩ := HA.out.cell j hlt
        obtain ⟨b', off', rfl, hbs', hcell'⟩ := HB.out.cell j hlt
        have hi1 : (j : Int) < (n : Int) := by omega
        have hr1 := (HA.out.rnc j hlt).2.2
        have hr2 := (HB.out.rnc j hlt).2.2
        have HC := Lib.hid (fun p => (same_any (RA j) (RA' j) (RL j) (RL' j) (RC j) (RC' j) (RB j) (RB' j) (w.drewN (q + p)) (by omega) (by omega) ((HA.out.rd j hlt).drewN _) ((HB.out.rd j hlt).drewN _)).mono (R' := fun e w' => e = .returned (.bool (eqL (RB j) (RB' j))) ∧ ∃ m, w' = w.drewN (q + m)) fun e w' ⟨he, m, hm⟩ => ⟨he, p + m, by rw [hm, World.drewN_drewN, Nat.add_assoc]⟩)
        generalize RA j = ra at *
        generalize RL j = rl at *
        generalize RC j = rc at *
        generalize RA' j = ra' at *
        generalize RL' j = rl' at *
        generalize RC' j = rc' at *
        by_cases he : RB j = RB' j
        · have HS : Hid (∀ i, i < j + 1 → RB i = RB' i) := Lib.hid (fun i hi => by
            by_cases e : i = j
            · rw [e]; exact he
            · exact HE.out i (by omega))
          rw [show eqL (RB j) (RB' j) = true from decide_eq_true he] at HC
          clear he
          go_wp2
          go_quiet ((go_at_call 23; exact HC.out _))
          go_wp2
          go_roundw
          case rel => exact ⟨j + 1, q + nq, by omega, by go_num, by first | rfl | trivial, HS⟩
          case measure => simp [intOf]; omega
        · have HF : Hid (bb = false) := Lib.hid (by
            rw [← HBB.out]
            exact decide_eq_false fun e => he (e.2 j hlt))
          rw [show eqL (RB j) (RB' j) = false from decide_eq_false he] at HC
          clear he
          go_wp2
          go_quiet ((go_at_call 23; exact HC.out _))
          go_wp2
          go_ret
          exact ⟨by rw [HF.out]; rfl, _, by first | rfl | exact World.drewN_drewN _ _ _⟩
      · obtain rfl : j = n := by omega
        have HF : Hid (bb = true) := Lib.hid (by
          rw [← HBB.out]
          exact decide_eq_true ⟨rfl, HE.out⟩)
        go_wp2
        go_ret
        exact ⟨by rw [HF.out]; rfl, q, rfl⟩
  · have HF : Hid (bb = false) := Lib.hid (by
      rw [← HBB.out]
      exact decide_eq_false fun e => hnk e.1)
    have e1 : ((n : Int) == (k : Int)) = false := by simp; omega
    have e2 : ((n : Int) != (k : Int)) = true := by simp; omega
    clear hnk
    go_enter Tryd.func22, Tryd.ntmps22
    go_wp2
    go_ret
    exact ⟨by rw [HF.out]; rfl, 0, rfl⟩

/-- what bytes were put is told, whatever stands behind them -/
theorem be4_inj (x y : Nat) (hx : x < 4294967296) (hy : y < 4294967296) (h : be 4 x = be 4 y) : x = y := by
  have e : ∀ z, be 4 z = [z / 16777216 % 256, z / 65536 % 256, z / 256 % 256, z % 256] := fun z => by simp [be, List.range_succ]
  rw [e, e] at h
  simp only [List.cons.injEq] at h
  omega
theorem putB_app (x y u v : List Nat) (hx : x.length < 4294967296) (hy : y.length < 4294967296) (h : putB x ++ u = putB y ++ v) : x = y ∧ u = v := by
  unfold putB at h
  rw [List.append_assoc, List.append_assoc] at h
  have h1 := List.append_inj h (by rw [be_len, be_len])
  have h2 := be4_inj _ _ hx hy h1.1
  exact List.append_inj h1.2 h2
theorem cat_inj (RB RC : Nat → List Nat) : ∀ n, (∀ j, j < n → (RB j).length < 4294967296) → (∀ j, j < n → (RC j).length < 4294967296) → cat (fun j => putB (RB j)) n = cat (fun j => putB (RC j)) n → ∀ j, j < n → RB j = RC j := by
  have key : ∀ n k, k ≤ n → (∀ j, j < n → (RB j).length < 4294967296) → (∀ j, j < n → (RC j).length < 4294967296) → ∀ u v, cat (fun j => putB (RB j)) k ++ u = cat (fun j => putB (RC j)) k ++ v → (∀ j, j < k → RB j = RC j) ∧ u = v := by
    intro n k
    induction k with
    | zero => intro _ _ _ u v h; exact ⟨fun j hj => absurd hj (Nat.not_lt_zero _), by simpa [cat] using h⟩
    | succ k ih =>
      intro hk hB hC u v h
      simp only [cat, List.append_assoc] at h
      obtain ⟨h1, h2⟩ := ih (by omega) hB hC _ _ h
      obtain ⟨h3, h4⟩ := putB_app _ _ _ _ (hB k (by omega)) (hC k (by omega)) h2
      refine ⟨fun j hj => ?_, h4⟩
      by_cases e : j = k
      · rw [e]; exact h3
      · exact h1 j (by omega)
  intro n hB hC h
  exact (key n n (Nat.le_refl _) hB hC [] [] (by rw [h])).1
theorem hbs_inj (a b : List Nat) (n k : Nat) (RB RC : Nat → List Nat) (ha : a.length < 4294967296) (hb : b.length < 4294967296) (hn : n < 4294967296) (hk : k < 4294967296) (hB : ∀ j, j < n → (RB j).length < 4294967296) (hC : ∀ j, j < k → (RC j).length < 4294967296) :
    hbs a n RB = hbs b k RC ↔ a = b ∧ n = k ∧ ∀ j, j < n → RB j = RC j := by
  constructor
  · intro h
    unfold hbs at h
    obtain ⟨h1, h2⟩ := putB_app _ _ _ _ ha hb h
    have h3 := List.append_inj h2 (by rw [be_len, be_len])
    have h4 := be4_inj _ _ hn hk h3.1
    subst h4
    exact ⟨h1, rfl, cat_inj RB RC n hB hC h3.2⟩
  · rintro ⟨rfl, rfl, h⟩
    unfold hbs
    rw [cat_congr n (fun j hj => by rw [h j hj])]
end Go.Proofs.YtkmjfaaelkmnkaaDoor
