/-
  The walk of NumsOrder: it answers true, and nothing that was there is changed.
-/
import Derived.Test.YtjleelpnkkeakaaJoin
import Derived.Test.YtjleelpnkkeakaaLex
namespace Go.Proofs.Ytjleelpnkkeakaa
open Go.RowKit
attribute [local go_sem ↓] Go.wp_at_zero Go.wp_at_succ

/-- of long numbers, the lowest word first: is the one below the other? -/
def ls (a b : List Nat) : Bool := (a.zip b).foldl (fun p x => if x.1 = x.2 then p else decide (x.1 < x.2)) false

theorem ls_step (a b : List Nat) (j : Nat) (ha : j < a.length) (hb : j < b.length) : ls (a.take (j + 1)) (b.take (j + 1)) = if a.getD j 0 = b.getD j 0 then ls (a.take j) (b.take j) else decide (a.getD j 0 < b.getD j 0) := by
  unfold ls
  rw [List.take_succ_eq_append_getElem ha, List.take_succ_eq_append_getElem hb, List.zip_append (by simp; omega), List.foldl_append]
  simp [ha, hb]

theorem longRow (W : World) (a b p q : Nat) (ha : a < 18446744073709551616) (hb : b < 18446744073709551616) (hp : p < 18446744073709551616) (hq : q < 18446744073709551616) :
    Calls Try.prog 9 #[.slice none 0 0, .agg #[.int .u64 a, .int .u64 b, .int .u64 p, .int .u64 q]] W fun e w' => ∃ g, e = .returned (.slice (some ⟨g, 0, none⟩) 32 32) ∧ Rd w' (some ⟨g, 0, none⟩) 32 (bs (longs a b p q)) ∧ Below W.heap.size W w' :=
  (putLong_any none 0 0 a b p q [] W (by omega) (by omega) (by simp) (Rd.nil W none) ha hb hp hq).mono fun e w' ⟨he, ho, hbb⟩ => ⟨_, he, by have := Rd.own ho; simpa using this, hbb⟩

/-- block N holds the words of xs -/
def Bx (w : World) (N : Nat) (xs : List Nat) : Prop := ∀ i, i < xs.length → w.cell? ⟨N, i, none⟩ = some (.int .u64 (xs.getD i 0 : Nat))
theorem Bx.on {W w : World} {N : Nat} {xs : List Nat} (h : Bx W N xs) (hb : Below W.heap.size W w) : Bx w N xs := fun i hi => cell_on hb (h i hi)
theorem Bx.new (w : World) (t : TypeId) (xs : List Nat) : Bx (w.alloc (.cells (ws xs).toArray t)) w.heap.size xs := fun i hi => by
  rw [box_cell]
  simpa using ws_at xs i hi

theorem ls_four (a0 a1 a2 a3 b0 b1 b2 b3 : Nat)
    (ha0 : a0 < 18446744073709551616) (ha1 : a1 < 18446744073709551616) (ha2 : a2 < 18446744073709551616) (ha3 : a3 < 18446744073709551616)
    (hb0 : b0 < 18446744073709551616) (hb1 : b1 < 18446744073709551616) (hb2 : b2 < 18446744073709551616) (hb3 : b3 < 18446744073709551616) :
    Op.bytesLess (str (longs a0 a1 a2 a3)).toList (str (longs b0 b1 b2 b3)).toList = ls ([a0, a1, a2, a3].take 4) ([b0, b1, b2, b3].take 4) := by
  rw [less_long a0 a1 a2 a3 b0 b1 b2 b3 ha0 ha1 ha2 ha3 hb0 hb1 hb2 hb3]
  simp [ls]

/-- a stronger condition on the worlds of a region may be chosen on the way -/
theorem wpAnyH_more {P : Program} {md : Region.Mode} {ops : Array Oper} {Q : Exit → Act → World → Prop} {S S' : World → Prop} (h : ∀ w, S' w → S w) :
    ∀ (fuel : Nat) (listed : Array Bool) (a : Act) (w : World), wpAnyH P md ops Q S' fuel listed a w → wpAnyH P md ops Q S fuel listed a w
  | 0, _, _, _, hh => hh
  | fuel + 1, _, _, _, hh => ⟨hh.1, fun i hi => wpOp_mono (fun a' w' h' => ⟨h _ h'.1, wpAnyH_more h fuel _ a' w' h'.2⟩) (hh.2 i hi)⟩

/-- what stands while the last statement is reckoned -/
def Hold (w : World) (N g1 g2 a0 a1 a2 a3 b0 b1 b2 b3 : Nat) : Prop :=
  Bx w N [a0, a1, a2, a3, b0, b1, b2, b3] ∧ Rd w (some ⟨g1, 0, none⟩) 32 (bs (longs a0 a1 a2 a3)) ∧ Rd w (some ⟨g2, 0, none⟩) 32 (bs (longs b0 b1 b2 b3))
theorem Hold.on {W w : World} {N g1 g2 a0 a1 a2 a3 b0 b1 b2 b3 : Nat} (h : Hold W N g1 g2 a0 a1 a2 a3 b0 b1 b2 b3) (hb : Below W.heap.size W w) : Hold w N g1 g2 a0 a1 a2 a3 b0 b1 b2 b3 :=
  ⟨h.1.on hb, h.2.1.below hb, h.2.2.below hb⟩
theorem Hold.S {w : World} {N g1 g2 a0 a1 a2 a3 b0 b1 b2 b3 : Nat} (h : Hold w N g1 g2 a0 a1 a2 a3 b0 b1 b2 b3) :
    (w.cell? ⟨N, 0, none⟩ = some (.int .u64 a0) ∧ w.cell? ⟨N, 1, none⟩ = some (.int .u64 a1) ∧ w.cell? ⟨N, 2, none⟩ = some (.int .u64 a2) ∧ w.cell? ⟨N, 3, none⟩ = some (.int .u64 a3) ∧ w.cell? ⟨N, 4, none⟩ = some (.int .u64 b0) ∧ w.cell? ⟨N, 5, none⟩ = some (.int .u64 b1) ∧ w.cell? ⟨N, 6, none⟩ = some (.int .u64 b2) ∧ w.cell? ⟨N, 7, none⟩ = some (.int .u64 b3)) ∧ (convert 27 9 (.slice (some ⟨g1, 0, none⟩) 32 32)).run Try.prog w = .ok (.string (str (longs a0 a1 a2 a3))) w ∧ (convert 27 9 (.slice (some ⟨g2, 0, none⟩) 32 32)).run Try.prog w = .ok (.string (str (longs b0 b1 b2 b3))) w :=
  ⟨⟨h.1 0 (by simp), h.1 1 (by simp), h.1 2 (by simp), h.1 3 (by simp), h.1 4 (by simp), h.1 5 (by simp), h.1 6 (by simp), h.1 7 (by simp)⟩, h.2.1.str_ 32, h.2.2.str_ 32⟩

theorem putWord (x : Nat) (W : World) (hx : x < 18446744073709551616) : Calls Try.prog 8 #[.slice none 0 0, .int .u64 x, .int .i64 8] W fun e w' => ∃ v, e = .returned v ∧ (convert 27 9 v).run Try.prog w' = .ok (.string (str (be 8 x))) w' ∧
      (∀ w'', Below w'.heap.size w' w'' → (convert 27 9 v).run Try.prog w'' = .ok (.string (str (be 8 x))) w'') ∧ Below W.heap.size W w' :=
  (put_any none 0 0 8 x 8 [] W (by omega) (by omega) (by omega) (by simp) (Rd.nil W none) hx).mono fun e w' ⟨he, ho, hb⟩ =>
    ⟨_, he, (Rd.own ho).str_ _, fun w'' hb'' => ((Rd.own ho).below hb'').str_ _, hb⟩

set_option maxRecDepth 100000 in
set_option maxHeartbeats 4000000 in
theorem order_walk (m n a0 a1 a2 a3 b0 b1 b2 b3 : Nat) (w : World) (hm : m < 18446744073709551616) (hn : n < 18446744073709551616)
    (ha0 : a0 < 18446744073709551616) (ha1 : a1 < 18446744073709551616) (ha2 : a2 < 18446744073709551616) (ha3 : a3 < 18446744073709551616)
    (hb0 : b0 < 18446744073709551616) (hb1 : b1 < 18446744073709551616) (hb2 : b2 < 18446744073709551616) (hb3 : b3 < 18446744073709551616) :
    Calls Try.prog 5 #[.int .u64 m, .int .u64 n, .agg #[.int .u64 a0, .int .u64 a1, .int .u64 a2, .int .u64 a3, .int .u64 b0, .int .u64 b1, .int .u64 b2, .int .u64 b3]] w fun e w' => e = .returned (.bool true) ∧ Below w.heap.size w w' := by
  have hbox : Bx (w.alloc (.cells #[.int .u64 a0, .int .u64 a1, .int .u64 a2, .int .u64 a3, .int .u64 b0, .int .u64 b1, .int .u64 b2, .int .u64 b3] 45)) w.heap.size [a0, a1, a2, a3, b0, b1, b2, b3] := Bx.new w 45 [a0, a1, a2, a3, b0, b1, b2, b3]
  have HB := Lib.hid hbox
  have B0 : Below w.heap.size w (w.alloc (.cells #[.int .u64 a0, .int .u64 a1, .int .u64 a2, .int .u64 a3, .int .u64 b0, .int .u64 b1, .int .u64 b2, .int .u64 b3] 45)) := (Below.refl _ _).alloc (Nat.le_refl _) _
  clear hbox
  go_enter Try.func5, Try.ntmps5
  go_wp2_with fail
  refine (longRow _ a0 a1 a2 a3 ha0 ha1 ha2 ha3).mono ?_
  rintro e w1 ⟨g1, rfl, r1, z1⟩
  have HB1 := Lib.hid (HB.out.on z1)
  have k4 : w1.cell? ⟨w.heap.size, 4, none⟩ = some (.int .u64 b0) := HB1.out 4 (by simp)
  have k5 : w1.cell? ⟨w.heap.size, 5, none⟩ = some (.int .u64 b1) := HB1.out 5 (by simp)
  have k6 : w1.cell? ⟨w.heap.size, 6, none⟩ = some (.int .u64 b2) := HB1.out 6 (by simp)
  have k7 : w1.cell? ⟨w.heap.size, 7, none⟩ = some (.int .u64 b3) := HB1.out 7 (by simp)
  have B1 := bel_tr B0 z1
  clear HB B0 z1
  go_wp2_with fail
  refine (longRow _ b0 b1 b2 b3 hb0 hb1 hb2 hb3).mono ?_
  rintro e w2 ⟨g2, rfl, r2, z2⟩
  have HB2 := Lib.hid (HB1.out.on z2)
  have R1 := r1.below z2
  have B2 := bel_tr B1 z2
  clear HB1 B1 z2 k4 k5 k6 k7 r1
  go_wp2_with fail
  go_loopw [9, 10] (fun v i wr => ∃ j k : Nat, j ≤ 4 ∧ i = .int .i64 j ∧ v = .bool (ls ([a0, a1, a2, a3].take j) ([b0, b1, b2, b3].take j)) ∧ wr = w2.drewN k) (fun _ i _ => 4 - (intOf i).toNat)
  case atStart => exact ⟨0, 0, Nat.zero_le _, rfl, rfl, rfl⟩
  case round =>
    obtain ⟨j, k, hj, rfl, rfl, rfl⟩ := hrel
    by_cases hlt : j < 4
    · have hst := ls_step [a0, a1, a2, a3] [b0, b1, b2, b3] j (by simpa using hlt) (by simpa using hlt)
      have q0 : w2.cell? ⟨w.heap.size, j, none⟩ = some (.int .u64 ([a0, a1, a2, a3].getD j 0 : Nat)) := by
        have := HB2.out j (by simp; omega)
        match j, hlt with
        | 0, _ => exact this
        | 1, _ => exact this
        | 2, _ => exact this
        | 3, _ => exact this
      have q1 : w2.cell? ⟨w.heap.size, 4 + j, none⟩ = some (.int .u64 ([b0, b1, b2, b3].getD j 0 : Nat)) := by
        have := HB2.out (4 + j) (by simp; omega)
        match j, hlt with
        | 0, _ => exact this
        | 1, _ => exact this
        | 2, _ => exact this
        | 3, _ => exact this
      obtain ⟨x, hx⟩ : ∃ x, x = [a0, a1, a2, a3].getD j 0 := ⟨_, rfl⟩
      obtain ⟨y, hy⟩ : ∃ y, y = [b0, b1, b2, b3].getD j 0 := ⟨_, rfl⟩
      rw [← hx] at q0 hst
      rw [← hy] at q1 hst
      have HS := Lib.hid hst
      have hj0 : (0 : Int) ≤ (j : Int) := by omega
      have hj4 : (j : Int) < 4 := by omega
      clear hst hx hy
      by_cases hxy : x = y
      · subst hxy
        go_wp2_with fail
        go_quiet (fail)
        go_wp2_with fail
        go_roundw
        case rel => exact ⟨j + 1, k + nq, by omega, by go_num, by rw [HS.out, if_pos trivial], rfl⟩
        case measure => simp [intOf]; omega
      · have hne : ((x : Int) != (y : Int)) = true := by simp; omega
        go_wp2_with fail
        go_quiet (fail)
        go_wp2_with fail
        go_quiet (fail)
        go_wp2_with fail
        go_roundw
        case rel => exact ⟨j + 1, _, by omega, by go_num, by rw [HS.out, if_neg hxy], rfl⟩
        case measure => simp [intOf]; omega
    · obtain rfl : j = 4 := by omega
      have hls := ls_four a0 a1 a2 a3 b0 b1 b2 b3 ha0 ha1 ha2 ha3 hb0 hb1 hb2 hb3
      obtain ⟨p2, hp2⟩ : ∃ p2, p2 = ls ([a0, a1, a2, a3].take 4) ([b0, b1, b2, b3].take 4) := ⟨_, rfl⟩
      rw [← hp2] at hls ⊢
      have hwd := less_word m n hm hn
      obtain ⟨p1, hp1⟩ : ∃ p1, decide (m < n) = p1 := ⟨_, rfl⟩
      rw [hp1] at hwd
      have H0 : Hold (w2.drewN k) w.heap.size g1 g2 a0 a1 a2 a3 b0 b1 b2 b3 := ⟨HB2.out, R1, r2⟩
      have BW : Below w.heap.size w (w2.drewN k) := below_drewN B2 k
      have hsl := same_long a0 a1 a2 a3 b0 b1 b2 b3 ha0 ha1 ha2 ha3 hb0 hb1 hb2 hb3
      obtain ⟨p3, hp3⟩ : ∃ p3, p3 = decide (a0 = b0 ∧ a1 = b1 ∧ a2 = b2 ∧ a3 = b3) := ⟨_, rfl⟩
      have hse : ((str (longs a0 a1 a2 a3)).toList == (str (longs b0 b1 b2 b3)).toList) = p3 := by rw [hp3, Bool.eq_iff_iff]; simpa using hsl
      have heq : ∀ W : World, (Op.equalIn 10000 24 (.agg #[.int .u64 a0, .int .u64 a1, .int .u64 a2, .int .u64 a3]) (.agg #[.int .u64 b0, .int .u64 b1, .int .u64 b2, .int .u64 b3])).run Try.prog W = .ok p3 W := fun W => by
        rw [eq24, hp3]; congr 1; rw [decide_eq_decide]; omega
      clear hp2 HB2 R1 r2 B2 hsl hp3
      generalize w2.drewN k = wd at *
      go_wp2_with fail
      refine wp_region_noPanic ?_
      refine wp_region_held_drew (S := fun w' => (w'.cell? ⟨w.heap.size, 0, none⟩ = some (.int .u64 a0) ∧ w'.cell? ⟨w.heap.size, 1, none⟩ = some (.int .u64 a1) ∧ w'.cell? ⟨w.heap.size, 2, none⟩ = some (.int .u64 a2) ∧ w'.cell? ⟨w.heap.size, 3, none⟩ = some (.int .u64 a3) ∧ w'.cell? ⟨w.heap.size, 4, none⟩ = some (.int .u64 b0) ∧ w'.cell? ⟨w.heap.size, 5, none⟩ = some (.int .u64 b1) ∧ w'.cell? ⟨w.heap.size, 6, none⟩ = some (.int .u64 b2) ∧ w'.cell? ⟨w.heap.size, 7, none⟩ = some (.int .u64 b3)) ∧ (convert 27 9 (.slice (some ⟨g1, 0, none⟩) 32 32)).run Try.prog w' = .ok (.string (str (longs a0 a1 a2 a3))) w' ∧ (convert 27 9 (.slice (some ⟨g2, 0, none⟩) 32 32)).run Try.prog w' = .ok (.string (str (longs b0 b1 b2 b3))) w') (by kernel_rfl) (H0.on (below_drewN (Below.refl _ _) 1)).S (fun hHeld => ?_)
      refine wpAnyH_ready (rs := [0]) (by kernel_rfl) (by simp) ?_
      refine AllReadyH.cons (o := ?_) ?_ ?_ AllReadyH.nil
      rotate_left
      · simp only [List.getElem?_toArray, List.getElem?_cons_succ, List.getElem?_cons_zero]; exact rfl
      intro K hK
      go_simp
      refine (alive_true _).mono ?_
      rintro e w3 ⟨rfl, z3⟩
      have H1 := (H0.on (below_drewN (Below.refl _ _) 1)).on z3
      clear hHeld
      go_wp2_with fail
      refine hK.out _ _ H1.S (fun hHeld => ?_)
      clear hK K
      try simp only [Act.put, List.setIfInBounds_toArray, List.set_cons_zero, List.set_cons_succ]
      refine wpAnyH_take (i := 1) (oi := ?_) (v := ?_) ?_ (by kernel_rfl) (by kernel_rfl) (by kernel_rfl) (fun _ _ _ h => h) ?_ (by assumption) ?_
      rotate_left 2
      · simp only [List.getElem?_toArray, List.getElem?_cons_succ, List.getElem?_cons_zero]; exact rfl
      · refine Or.inl ⟨by rfl, ?_⟩; intro w hSw; (try dsimp only at hSw); go_simp; try with_reducible rfl
      try simp only [Act.put, List.setIfInBounds_toArray, List.set_cons_zero, List.set_cons_succ]
      refine wpAnyH_take (i := 2) (oi := ?_) (v := ?_) ?_ (by kernel_rfl) (by kernel_rfl) (by kernel_rfl) (fun _ _ _ h => h) ?_ (by assumption) ?_
      rotate_left 2
      · simp only [List.getElem?_toArray, List.getElem?_cons_succ, List.getElem?_cons_zero]; exact rfl
      · refine Or.inl ⟨by rfl, ?_⟩; intro w hSw; (try dsimp only at hSw); go_simp; try with_reducible rfl
      try simp only [Act.put, List.setIfInBounds_toArray, List.set_cons_zero, List.set_cons_succ]
      refine wpAnyH_take (i := 5) (oi := ?_) (v := ?_) ?_ (by kernel_rfl) (by kernel_rfl) (by kernel_rfl) (fun _ _ _ h => h) ?_ (by assumption) ?_
      rotate_left 2
      · simp only [List.getElem?_toArray, List.getElem?_cons_succ, List.getElem?_cons_zero]; exact rfl
      · refine Or.inl ⟨by rfl, ?_⟩; intro w hSw; (try dsimp only at hSw); go_simp; try with_reducible rfl
      try simp only [Act.put, List.setIfInBounds_toArray, List.set_cons_zero, List.set_cons_succ]
      refine wpAnyH_take (i := 9) (oi := ?_) (v := ?_) ?_ (by kernel_rfl) (by kernel_rfl) (by kernel_rfl) (fun _ _ _ h => h) ?_ (by assumption) ?_
      rotate_left 2
      · simp only [List.getElem?_toArray, List.getElem?_cons_succ, List.getElem?_cons_zero]; exact rfl
      · refine Or.inl ⟨by rfl, ?_⟩; intro w hSw; (try dsimp only at hSw); go_simp; try with_reducible rfl
      try simp only [Act.put, List.setIfInBounds_toArray, List.set_cons_zero, List.set_cons_succ]
      refine wpAnyH_take (i := 10) (oi := ?_) (v := ?_) ?_ (by kernel_rfl) (by kernel_rfl) (by kernel_rfl) (fun _ _ _ h => h) ?_ (by assumption) ?_
      rotate_left 2
      · simp only [List.getElem?_toArray, List.getElem?_cons_succ, List.getElem?_cons_zero]; exact rfl
      · refine Or.inl ⟨by rfl, ?_⟩; intro w hSw; (try dsimp only at hSw); go_simp; try with_reducible rfl
      try simp only [Act.put, List.setIfInBounds_toArray, List.set_cons_zero, List.set_cons_succ]
      refine wpAnyH_take (i := 11) (oi := ?_) (v := ?_) ?_ (by kernel_rfl) (by kernel_rfl) (by kernel_rfl) (fun _ _ _ h => h) ?_ (by assumption) ?_
      rotate_left 2
      · simp only [List.getElem?_toArray, List.getElem?_cons_succ, List.getElem?_cons_zero]; exact rfl
      · refine Or.inl ⟨by rfl, ?_⟩; intro w hSw; (try dsimp only at hSw); go_simp; try with_reducible rfl
      try simp only [Act.put, List.setIfInBounds_toArray, List.set_cons_zero, List.set_cons_succ]
      refine wpAnyH_ready (rs := [3]) (by kernel_rfl) (by simp) ?_
      refine AllReadyH.cons (o := ?_) ?_ ?_ AllReadyH.nil
      rotate_left
      · simp only [List.getElem?_toArray, List.getElem?_cons_succ, List.getElem?_cons_zero]; exact rfl
      intro K hK
      go_simp
      refine (putWord m _ hm).mono ?_
      rintro e w4 ⟨v4, rfl, s4, t4, z4⟩
      have H2 := H1.on z4
      have T4 := Lib.hid t4
      clear t4
      clear hHeld
      go_wp2_with fail
      refine hK.out _ _ H2.S (fun hHeld => ?_)
      clear hK K
      try simp only [Act.put, List.setIfInBounds_toArray, List.set_cons_zero, List.set_cons_succ]
      refine wpAnyH_more (S' := fun w' => (((w'.cell? ⟨w.heap.size, 0, none⟩ = some (.int .u64 a0) ∧ w'.cell? ⟨w.heap.size, 1, none⟩ = some (.int .u64 a1) ∧ w'.cell? ⟨w.heap.size, 2, none⟩ = some (.int .u64 a2) ∧ w'.cell? ⟨w.heap.size, 3, none⟩ = some (.int .u64 a3) ∧ w'.cell? ⟨w.heap.size, 4, none⟩ = some (.int .u64 b0) ∧ w'.cell? ⟨w.heap.size, 5, none⟩ = some (.int .u64 b1) ∧ w'.cell? ⟨w.heap.size, 6, none⟩ = some (.int .u64 b2) ∧ w'.cell? ⟨w.heap.size, 7, none⟩ = some (.int .u64 b3)) ∧ (convert 27 9 (.slice (some ⟨g1, 0, none⟩) 32 32)).run Try.prog w' = .ok (.string (str (longs a0 a1 a2 a3))) w' ∧ (convert 27 9 (.slice (some ⟨g2, 0, none⟩) 32 32)).run Try.prog w' = .ok (.string (str (longs b0 b1 b2 b3))) w') ∧ (convert 27 9 v4).run Try.prog w' = .ok (.string (str (be 8 m))) w')) (fun _ h => h.1) _ _ _ _ ?_
      have hS2 : (fun w' => (((w'.cell? ⟨w.heap.size, 0, none⟩ = some (.int .u64 a0) ∧ w'.cell? ⟨w.heap.size, 1, none⟩ = some (.int .u64 a1) ∧ w'.cell? ⟨w.heap.size, 2, none⟩ = some (.int .u64 a2) ∧ w'.cell? ⟨w.heap.size, 3, none⟩ = some (.int .u64 a3) ∧ w'.cell? ⟨w.heap.size, 4, none⟩ = some (.int .u64 b0) ∧ w'.cell? ⟨w.heap.size, 5, none⟩ = some (.int .u64 b1) ∧ w'.cell? ⟨w.heap.size, 6, none⟩ = some (.int .u64 b2) ∧ w'.cell? ⟨w.heap.size, 7, none⟩ = some (.int .u64 b3)) ∧ (convert 27 9 (.slice (some ⟨g1, 0, none⟩) 32 32)).run Try.prog w' = .ok (.string (str (longs a0 a1 a2 a3))) w' ∧ (convert 27 9 (.slice (some ⟨g2, 0, none⟩) 32 32)).run Try.prog w' = .ok (.string (str (longs b0 b1 b2 b3))) w') ∧ (convert 27 9 v4).run Try.prog w' = .ok (.string (str (be 8 m))) w')) w4 := ⟨H2.S, s4⟩
      refine wpAnyH_take (i := 4) (oi := ?_) (v := ?_) ?_ (by kernel_rfl) (by kernel_rfl) (by kernel_rfl) (fun _ _ _ h => h) ?_ (by assumption) ?_
      rotate_left 2
      · simp only [List.getElem?_toArray, List.getElem?_cons_succ, List.getElem?_cons_zero]; exact rfl
      · refine Or.inl ⟨by rfl, ?_⟩; intro w hSw; (try dsimp only at hSw); go_simp; try with_reducible rfl
      try simp only [Act.put, List.setIfInBounds_toArray, List.set_cons_zero, List.set_cons_succ]
      refine wpAnyH_ready (rs := [6]) (by kernel_rfl) (by simp) ?_
      refine AllReadyH.cons (o := ?_) ?_ ?_ AllReadyH.nil
      rotate_left
      · simp only [List.getElem?_toArray, List.getElem?_cons_succ, List.getElem?_cons_zero]; exact rfl
      intro K hK
      go_simp
      refine (putWord n _ hn).mono ?_
      rintro e w5 ⟨v5, rfl, s5, t5, z5⟩
      have H3 := H2.on z5
      clear t5 hHeld hS2
      go_wp2_with fail
      refine hK.out _ _ ⟨H3.S, T4.out _ z5⟩ (fun hHeld => ?_)
      clear hK K
      try simp only [Act.put, List.setIfInBounds_toArray, List.set_cons_zero, List.set_cons_succ]
      refine wpAnyH_ready (rs := [7]) (by kernel_rfl) (by simp) ?_
      refine AllReadyH.cons (o := ?_) ?_ ?_ AllReadyH.nil
      rotate_left
      · simp only [List.getElem?_toArray, List.getElem?_cons_succ, List.getElem?_cons_zero]; exact rfl
      intro K hK
      go_simp
      refine hK.out _ _ ⟨H3.S, T4.out _ z5⟩ (fun hHeld => ?_)
      clear hK K
      try simp only [Act.put, List.setIfInBounds_toArray, List.set_cons_zero, List.set_cons_succ]
      refine wpAnyH_take (i := 8) (oi := ?_) (v := ?_) ?_ (by kernel_rfl) (by kernel_rfl) (by kernel_rfl) (fun _ _ _ h => h) ?_ (by assumption) ?_
      rotate_left 2
      · simp only [List.getElem?_toArray, List.getElem?_cons_succ, List.getElem?_cons_zero]; exact rfl
      · refine Or.inl ⟨by rfl, ?_⟩; intro w hSw; (try dsimp only at hSw); go_simp; try with_reducible rfl
      try simp only [Act.put, List.setIfInBounds_toArray, List.set_cons_zero, List.set_cons_succ]
      refine wpAnyH_take (i := 12) (oi := ?_) (v := ?_) ?_ (by kernel_rfl) (by kernel_rfl) (by kernel_rfl) (fun _ _ _ h => h) ?_ (by assumption) ?_
      rotate_left 2
      · simp only [List.getElem?_toArray, List.getElem?_cons_succ, List.getElem?_cons_zero]; exact rfl
      · refine Or.inl ⟨by rfl, ?_⟩; intro w hSw; (try dsimp only at hSw); go_simp; try with_reducible rfl
      try simp only [Act.put, List.setIfInBounds_toArray, List.set_cons_zero, List.set_cons_succ]
      refine wpAnyH_take (i := 13) (oi := ?_) (v := ?_) ?_ (by kernel_rfl) (by kernel_rfl) (by kernel_rfl) (fun _ _ _ h => h) ?_ (by assumption) ?_
      rotate_left 2
      · simp only [List.getElem?_toArray, List.getElem?_cons_succ, List.getElem?_cons_zero]; exact rfl
      · refine Or.inl ⟨by rfl, ?_⟩; intro w hSw; (try dsimp only at hSw); go_simp; try with_reducible rfl
      try simp only [Act.put, List.setIfInBounds_toArray, List.set_cons_zero, List.set_cons_succ]
      refine wpAnyH_take (i := 14) (oi := ?_) (v := ?_) ?_ (by kernel_rfl) (by kernel_rfl) (by kernel_rfl) (fun _ _ _ h => h) ?_ (by assumption) ?_
      rotate_left 2
      · simp only [List.getElem?_toArray, List.getElem?_cons_succ, List.getElem?_cons_zero]; exact rfl
      · refine Or.inl ⟨by rfl, ?_⟩; intro w hSw; (try dsimp only at hSw); go_simp; try with_reducible rfl
      try simp only [Act.put, List.setIfInBounds_toArray, List.set_cons_zero, List.set_cons_succ]
      refine wpAnyH_take (i := 15) (oi := ?_) (v := ?_) ?_ (by kernel_rfl) (by kernel_rfl) (by kernel_rfl) (fun _ _ _ h => h) ?_ (by assumption) ?_
      rotate_left 2
      · simp only [List.getElem?_toArray, List.getElem?_cons_succ, List.getElem?_cons_zero]; exact rfl
      · refine Or.inl ⟨by rfl, ?_⟩; intro w hSw; (try dsimp only at hSw); go_simp; try with_reducible rfl
      try simp only [Act.put, List.setIfInBounds_toArray, List.set_cons_zero, List.set_cons_succ]
      refine wpAnyH_take (i := 16) (oi := ?_) (v := ?_) ?_ (by kernel_rfl) (by kernel_rfl) (by kernel_rfl) (fun _ _ _ h => h) ?_ (by assumption) ?_
      rotate_left 2
      · simp only [List.getElem?_toArray, List.getElem?_cons_succ, List.getElem?_cons_zero]; exact rfl
      · refine Or.inl ⟨by rfl, ?_⟩; intro w hSw; (try dsimp only at hSw); go_simp; try with_reducible rfl
      try simp only [Act.put, List.setIfInBounds_toArray, List.set_cons_zero, List.set_cons_succ]
      refine wpAnyH_take (i := 17) (oi := ?_) (v := ?_) ?_ (by kernel_rfl) (by kernel_rfl) (by kernel_rfl) (fun _ _ _ h => h) ?_ (by assumption) ?_
      rotate_left 2
      · simp only [List.getElem?_toArray, List.getElem?_cons_succ, List.getElem?_cons_zero]; exact rfl
      · refine Or.inl ⟨by rfl, ?_⟩; intro w hSw; (try dsimp only at hSw); go_simp; try with_reducible rfl
      try simp only [Act.put, List.setIfInBounds_toArray, List.set_cons_zero, List.set_cons_succ]
      refine wpAnyH_take (i := 18) (oi := ?_) (v := ?_) ?_ (by kernel_rfl) (by kernel_rfl) (by kernel_rfl) (fun _ _ _ h => h) ?_ (by assumption) ?_
      rotate_left 2
      · simp only [List.getElem?_toArray, List.getElem?_cons_succ, List.getElem?_cons_zero]; exact rfl
      · refine Or.inl ⟨by rfl, ?_⟩; intro w hSw; (try dsimp only at hSw); go_simp; try with_reducible rfl
      try simp only [Act.put, List.setIfInBounds_toArray, List.set_cons_zero, List.set_cons_succ]
      refine wpAnyH_take (i := 19) (oi := ?_) (v := ?_) ?_ (by kernel_rfl) (by kernel_rfl) (by kernel_rfl) (fun _ _ _ h => h) ?_ (by assumption) ?_
      rotate_left 2
      · simp only [List.getElem?_toArray, List.getElem?_cons_succ, List.getElem?_cons_zero]; exact rfl
      · refine Or.inl ⟨by rfl, ?_⟩; intro w hSw; (try dsimp only at hSw); go_simp; try with_reducible rfl
      try simp only [Act.put, List.setIfInBounds_toArray, List.set_cons_zero, List.set_cons_succ]
      refine wpAnyH_take (i := 20) (oi := ?_) (v := ?_) ?_ (by kernel_rfl) (by kernel_rfl) (by kernel_rfl) (fun _ _ _ h => h) ?_ (by assumption) ?_
      rotate_left 2
      · simp only [List.getElem?_toArray, List.getElem?_cons_succ, List.getElem?_cons_zero]; exact rfl
      · refine Or.inl ⟨by rfl, ?_⟩; intro w hSw; (try dsimp only at hSw); go_simp; try with_reducible rfl
      try simp only [Act.put, List.setIfInBounds_toArray, List.set_cons_zero, List.set_cons_succ]
      refine wpAnyH_take (i := 21) (oi := ?_) (v := ?_) ?_ (by kernel_rfl) (by kernel_rfl) (by kernel_rfl) (fun _ _ _ h => h) ?_ (by assumption) ?_
      rotate_left 2
      · simp only [List.getElem?_toArray, List.getElem?_cons_succ, List.getElem?_cons_zero]; exact rfl
      · refine Or.inl ⟨by rfl, ?_⟩; intro w hSw; (try dsimp only at hSw); go_simp; try with_reducible rfl
      try simp only [Act.put, List.setIfInBounds_toArray, List.set_cons_zero, List.set_cons_succ]
      refine wpAnyH_take (i := 22) (oi := ?_) (v := ?_) ?_ (by kernel_rfl) (by kernel_rfl) (by kernel_rfl) (fun _ _ _ h => h) ?_ (by assumption) ?_
      rotate_left 2
      · simp only [List.getElem?_toArray, List.getElem?_cons_succ, List.getElem?_cons_zero]; exact rfl
      · refine Or.inl ⟨by rfl, ?_⟩; intro w hSw; (try dsimp only at hSw); go_simp; try with_reducible rfl
      try simp only [Act.put, List.setIfInBounds_toArray, List.set_cons_zero, List.set_cons_succ]
      refine wpAnyH_take (i := 23) (oi := ?_) (v := ?_) ?_ (by kernel_rfl) (by kernel_rfl) (by kernel_rfl) (fun _ _ _ h => h) ?_ (by assumption) ?_
      rotate_left 2
      · simp only [List.getElem?_toArray, List.getElem?_cons_succ, List.getElem?_cons_zero]; exact rfl
      · refine Or.inl ⟨by rfl, ?_⟩; intro w hSw; (try dsimp only at hSw); go_simp; try with_reducible rfl
      try simp only [Act.put, List.setIfInBounds_toArray, List.set_cons_zero, List.set_cons_succ]
      refine wpAnyH_take (i := 24) (oi := ?_) (v := ?_) ?_ (by kernel_rfl) (by kernel_rfl) (by kernel_rfl) (fun _ _ _ h => h) ?_ (by assumption) ?_
      rotate_left 2
      · simp only [List.getElem?_toArray, List.getElem?_cons_succ, List.getElem?_cons_zero]; exact rfl
      · refine Or.inl ⟨by rfl, ?_⟩; intro w hSw; (try dsimp only at hSw); go_simp; try with_reducible rfl
      try simp only [Act.put, List.setIfInBounds_toArray, List.set_cons_zero, List.set_cons_succ]
      refine wpAnyH_take (i := 25) (oi := ?_) (v := ?_) ?_ (by kernel_rfl) (by kernel_rfl) (by kernel_rfl) (fun _ _ _ h => h) ?_ (by assumption) ?_
      rotate_left 2
      · simp only [List.getElem?_toArray, List.getElem?_cons_succ, List.getElem?_cons_zero]; exact rfl
      · refine Or.inl ⟨by rfl, ?_⟩; intro w hSw; (try dsimp only at hSw); go_simp; try with_reducible rfl
      try simp only [Act.put, List.setIfInBounds_toArray, List.set_cons_zero, List.set_cons_succ]
      refine wpAnyH_take (i := 26) (oi := ?_) (v := ?_) ?_ (by kernel_rfl) (by kernel_rfl) (by kernel_rfl) (fun _ _ _ h => h) ?_ (by assumption) ?_
      rotate_left 2
      · simp only [List.getElem?_toArray, List.getElem?_cons_succ, List.getElem?_cons_zero]; exact rfl
      · refine Or.inl ⟨by rfl, ?_⟩; intro w hSw; (try dsimp only at hSw); go_simp; try with_reducible rfl
      try simp only [Act.put, List.setIfInBounds_toArray, List.set_cons_zero, List.set_cons_succ]
      refine wpAnyH_take (i := 27) (oi := ?_) (v := ?_) ?_ (by kernel_rfl) (by kernel_rfl) (by kernel_rfl) (fun _ _ _ h => h) ?_ (by assumption) ?_
      rotate_left 2
      · simp only [List.getElem?_toArray, List.getElem?_cons_succ, List.getElem?_cons_zero]; exact rfl
      · refine Or.inl ⟨by rfl, ?_⟩; intro w hSw; (try dsimp only at hSw); go_simp; try with_reducible rfl
      try simp only [Act.put, List.setIfInBounds_toArray, List.set_cons_zero, List.set_cons_succ]
      refine wpAnyH_take (i := 28) (oi := ?_) (v := ?_) ?_ (by kernel_rfl) (by kernel_rfl) (by kernel_rfl) (fun _ _ _ h => h) ?_ (by assumption) ?_
      rotate_left 2
      · simp only [List.getElem?_toArray, List.getElem?_cons_succ, List.getElem?_cons_zero]; exact rfl
      · refine Or.inl ⟨by rfl, ?_⟩; intro w hSw; (try dsimp only at hSw); go_simp; try with_reducible rfl
      try simp only [Act.put, List.setIfInBounds_toArray, List.set_cons_zero, List.set_cons_succ]
      refine wpAnyH_take (i := 29) (oi := ?_) (v := ?_) ?_ (by kernel_rfl) (by kernel_rfl) (by kernel_rfl) (fun _ _ _ h => h) ?_ (by assumption) ?_
      rotate_left 2
      · simp only [List.getElem?_toArray, List.getElem?_cons_succ, List.getElem?_cons_zero]; exact rfl
      · refine Or.inl ⟨by rfl, ?_⟩; intro w hSw; (try dsimp only at hSw); go_simp; try with_reducible rfl
      try simp only [Act.put, List.setIfInBounds_toArray, List.set_cons_zero, List.set_cons_succ]
      refine wpAnyH_take (i := 30) (oi := ?_) (v := ?_) ?_ (by kernel_rfl) (by kernel_rfl) (by kernel_rfl) (fun _ _ _ h => h) ?_ (by assumption) ?_
      rotate_left 2
      · simp only [List.getElem?_toArray, List.getElem?_cons_succ, List.getElem?_cons_zero]; exact rfl
      · refine Or.inl ⟨by rfl, ?_⟩; intro w hSw; (try dsimp only at hSw); go_simp; try with_reducible rfl
      try simp only [Act.put, List.setIfInBounds_toArray, List.set_cons_zero, List.set_cons_succ]
      refine wpAnyH_take (i := 31) (oi := ?_) (v := ?_) ?_ (by kernel_rfl) (by kernel_rfl) (by kernel_rfl) (fun _ _ _ h => h) ?_ (by assumption) ?_
      rotate_left 2
      · simp only [List.getElem?_toArray, List.getElem?_cons_succ, List.getElem?_cons_zero]; exact rfl
      · refine Or.inl ⟨by rfl, ?_⟩; intro w hSw; (try dsimp only at hSw); go_simp; try with_reducible rfl
      try simp only [Act.put, List.setIfInBounds_toArray, List.set_cons_zero, List.set_cons_succ]
      refine wpAnyH_take (i := 32) (oi := ?_) (v := ?_) ?_ (by kernel_rfl) (by kernel_rfl) (by kernel_rfl) (fun _ _ _ h => h) ?_ (by assumption) ?_
      rotate_left 2
      · simp only [List.getElem?_toArray, List.getElem?_cons_succ, List.getElem?_cons_zero]; exact rfl
      · refine Or.inl ⟨by rfl, ?_⟩; intro w hSw; (try dsimp only at hSw); go_simp; try with_reducible rfl
      try simp only [Act.put, List.setIfInBounds_toArray, List.set_cons_zero, List.set_cons_succ]
      refine wpAnyH_take (i := 33) (oi := ?_) (v := ?_) ?_ (by kernel_rfl) (by kernel_rfl) (by kernel_rfl) (fun _ _ _ h => h) ?_ (by assumption) ?_
      rotate_left 2
      · simp only [List.getElem?_toArray, List.getElem?_cons_succ, List.getElem?_cons_zero]; exact rfl
      · refine Or.inl ⟨by rfl, ?_⟩; intro w hSw; (try dsimp only at hSw); go_simp; try with_reducible rfl
      try simp only [Act.put, List.setIfInBounds_toArray, List.set_cons_zero, List.set_cons_succ]
      refine wpAnyH_take (i := 34) (oi := ?_) (v := ?_) ?_ (by kernel_rfl) (by kernel_rfl) (by kernel_rfl) (fun _ _ _ h => h) ?_ (by assumption) ?_
      rotate_left 2
      · simp only [List.getElem?_toArray, List.getElem?_cons_succ, List.getElem?_cons_zero]; exact rfl
      · refine Or.inl ⟨by rfl, ?_⟩; intro w hSw; (try dsimp only at hSw); go_simp; try with_reducible rfl
      try simp only [Act.put, List.setIfInBounds_toArray, List.set_cons_zero, List.set_cons_succ]
      refine wpAnyH_take (i := 35) (oi := ?_) (v := ?_) ?_ (by kernel_rfl) (by kernel_rfl) (by kernel_rfl) (fun _ _ _ h => h) ?_ (by assumption) ?_
      rotate_left 2
      · simp only [List.getElem?_toArray, List.getElem?_cons_succ, List.getElem?_cons_zero]; exact rfl
      · refine Or.inl ⟨by rfl, ?_⟩; intro w hSw; (try dsimp only at hSw); go_simp; try with_reducible rfl
      try simp only [Act.put, List.setIfInBounds_toArray, List.set_cons_zero, List.set_cons_succ]
      refine wpAnyH_take (i := 36) (oi := ?_) (v := ?_) ?_ (by kernel_rfl) (by kernel_rfl) (by kernel_rfl) (fun _ _ _ h => h) ?_ (by assumption) ?_
      rotate_left 2
      · simp only [List.getElem?_toArray, List.getElem?_cons_succ, List.getElem?_cons_zero]; exact rfl
      · refine Or.inl ⟨by rfl, ?_⟩; intro w hSw; (try dsimp only at hSw); go_simp; try with_reducible rfl
      try simp only [Act.put, List.setIfInBounds_toArray, List.set_cons_zero, List.set_cons_succ]
      refine wpAnyH_done (by kernel_rfl) ?_ _
      refine NoPanic.normal ?_
      go_wp2_with fail
      go_ret
      exact ⟨rfl, bel_tr BW (bel_tr (below_drewN (Below.refl _ _) 1) (bel_tr z3 (bel_tr z4 z5)))⟩
end Go.Proofs.Ytjleelpnkkeakaa
