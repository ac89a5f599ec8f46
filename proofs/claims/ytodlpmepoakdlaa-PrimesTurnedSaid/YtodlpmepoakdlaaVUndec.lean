/-
  limbs.Bits.
-/
import Derived.Laws.MathBits
import Derived.Test.YtodlpmepoakdlaaVLen
import Derived.Test.YtodlpmepoakdlaaVShift
namespace Go.Proofs.Ytodlpmepoakdlaa
set_option maxRecDepth 100000
open Go.RowKit
set_option linter.unusedSimpArgs false
set_option linter.unusedVariables false
attribute [local go_sem ↓] Go.wp_at_zero Go.wp_at_succ

theorem bitLen_same : ∀ x : Nat, x < 2 ^ 64 → Lib.bitLen x = Go.bitLen x := by
  intro x
  induction x using Nat.strongRecOn with
  | _ x ih =>
    intro hx
    by_cases h0 : x = 0
    · subst h0; decide
    · rw [Lib.bitLen_half x h0 hx, ih (x / 2) (by omega) (by omega)]
      by_cases h1 : x / 2 = 0
      · have : x = 1 := by omega
        subst this; decide
      · have := Go.bitLen_shift x 1 (by simpa using h1)
        simpa using this.symm

theorem bl_word (X j : Nat) (hj : j < 4) (hX : X / 18446744073709551616 ^ (j + 1) = 0) (h : wd X j ≠ 0) : (64 * j + Lib.bitLen (wd X j) : Nat) = Go.bitLen X := by
  have e : wd X j = X / 2 ^ (64 * j) := by
    unfold wd
    rw [B_pow] at *
    refine Nat.mod_eq_of_lt ?_
    have : X / 2 ^ (64 * j) / 18446744073709551616 = 0 := by
      rw [Nat.div_div_eq_div_mul, show (18446744073709551616 : Nat) = 2 ^ 64 by decide, ← Nat.pow_add]
      exact hX
    omega
  rw [bitLen_same _ (by have := wd_lt X j; omega), e, ← Go.bitLen_shift X (64 * j) (by rw [← e]; exact h)]

theorem bits_3 (a0 a1 a2 a3 : Nat) (w : World) (h : a3 ≠ 0) (hl : a3 < 18446744073709551616) :
    Calls Try.prog 43 #[.agg #[.int .u64 a0, .int .u64 a1, .int .u64 a2, .int .u64 a3]] w fun e w' => e = .returned (.int .i64 ((192 + Lib.bitLen a3 : Nat) : Int)) ∧ Below w.heap.size w w' := by
  have C := fun w => len64 (a3 : Int) (by omega) (by omega) w
  simp only [Int.toNat_natCast] at C
  have hne : ((a3 : Int) != 0) = true := by simp; omega
  have hr : Lib.bitLen a3 ≤ 64 := by
    rw [bitLen_same _ (by omega)]
    unfold Go.bitLen
    split
    · omega
    · have := (Nat.log2_lt h).2 (show a3 < 2 ^ 64 by omega); omega
  generalize Lib.bitLen a3 = t at *
  go_enter Try.func43, Try.ntmps43
  go_wp2
  refine wp_loop_rounds 6 ?_
  rw [rounds_succ]
  go_wp2_with (refine (C _).mono ?_; rintro e w1 ⟨rfl, rfl⟩)
  go_ret
  exact ⟨congrArg Ending.returned (congrArg (Value.int IntKind.i64) (by go_num)), by repeat (first | exact Below.refl _ _ | refine gr_alloc ?_ _ | refine Below.drew ?_ | refine gr_drewN ?_ _ | refine bel_tr ?_ (by assumption))⟩

theorem bits_2 (a0 a1 a2 : Nat) (w : World) (h : a2 ≠ 0) (hl : a2 < 18446744073709551616) :
    Calls Try.prog 43 #[.agg #[.int .u64 a0, .int .u64 a1, .int .u64 a2, .int .u64 0]] w fun e w' => e = .returned (.int .i64 ((128 + Lib.bitLen a2 : Nat) : Int)) ∧ Below w.heap.size w w' := by
  have C := fun w => len64 (a2 : Int) (by omega) (by omega) w
  simp only [Int.toNat_natCast] at C
  have hne : ((a2 : Int) != 0) = true := by simp; omega
  have hr : Lib.bitLen a2 ≤ 64 := by
    rw [bitLen_same _ (by omega)]
    unfold Go.bitLen
    split
    · omega
    · have := (Nat.log2_lt h).2 (show a2 < 2 ^ 64 by omega); omega
  generalize Lib.bitLen a2 = t at *
  go_enter Try.func43, Try.ntmps43
  go_wp2
  refine wp_loop_rounds 6 ?_
  rw [rounds_succ]
  go_wp2
  rw [rounds_succ]
  go_wp2_with (refine (C _).mono ?_; rintro e w1 ⟨rfl, rfl⟩)
  go_ret
  exact ⟨congrArg Ending.returned (congrArg (Value.int IntKind.i64) (by go_num)), by repeat (first | exact Below.refl _ _ | refine gr_alloc ?_ _ | refine Below.drew ?_ | refine gr_drewN ?_ _ | refine bel_tr ?_ (by assumption))⟩

theorem bits_1 (a0 a1 : Nat) (w : World) (h : a1 ≠ 0) (hl : a1 < 18446744073709551616) :
    Calls Try.prog 43 #[.agg #[.int .u64 a0, .int .u64 a1, .int .u64 0, .int .u64 0]] w fun e w' => e = .returned (.int .i64 ((64 + Lib.bitLen a1 : Nat) : Int)) ∧ Below w.heap.size w w' := by
  have C := fun w => len64 (a1 : Int) (by omega) (by omega) w
  simp only [Int.toNat_natCast] at C
  have hne : ((a1 : Int) != 0) = true := by simp; omega
  have hr : Lib.bitLen a1 ≤ 64 := by
    rw [bitLen_same _ (by omega)]
    unfold Go.bitLen
    split
    · omega
    · have := (Nat.log2_lt h).2 (show a1 < 2 ^ 64 by omega); omega
  generalize Lib.bitLen a1 = t at *
  go_enter Try.func43, Try.ntmps43
  go_wp2
  refine wp_loop_rounds 6 ?_
  rw [rounds_succ]
  go_wp2
  rw [rounds_succ]
  go_wp2
  rw [rounds_succ]
  go_wp2_with (refine (C _).mono ?_; rintro e w1 ⟨rfl, rfl⟩)
  go_ret
  exact ⟨congrArg Ending.returned (congrArg (Value.int IntKind.i64) (by go_num)), by repeat (first | exact Below.refl _ _ | refine gr_alloc ?_ _ | refine Below.drew ?_ | refine gr_drewN ?_ _ | refine bel_tr ?_ (by assumption))⟩

theorem bits_0 (a0 : Nat) (w : World) (h : a0 ≠ 0) (hl : a0 < 18446744073709551616) :
    Calls Try.prog 43 #[.agg #[.int .u64 a0, .int .u64 0, .int .u64 0, .int .u64 0]] w fun e w' => e = .returned (.int .i64 ((0 + Lib.bitLen a0 : Nat) : Int)) ∧ Below w.heap.size w w' := by
  have C := fun w => len64 (a0 : Int) (by omega) (by omega) w
  simp only [Int.toNat_natCast] at C
  have hne : ((a0 : Int) != 0) = true := by simp; omega
  have hr : Lib.bitLen a0 ≤ 64 := by
    rw [bitLen_same _ (by omega)]
    unfold Go.bitLen
    split
    · omega
    · have := (Nat.log2_lt h).2 (show a0 < 2 ^ 64 by omega); omega
  generalize Lib.bitLen a0 = t at *
  go_enter Try.func43, Try.ntmps43
  go_wp2
  refine wp_loop_rounds 6 ?_
  rw [rounds_succ]
  go_wp2
  rw [rounds_succ]
  go_wp2
  rw [rounds_succ]
  go_wp2
  rw [rounds_succ]
  go_wp2_with (refine (C _).mono ?_; rintro e w1 ⟨rfl, rfl⟩)
  go_ret
  exact ⟨congrArg Ending.returned (congrArg (Value.int IntKind.i64) (by go_num)), by repeat (first | exact Below.refl _ _ | refine gr_alloc ?_ _ | refine Below.drew ?_ | refine gr_drewN ?_ _ | refine bel_tr ?_ (by assumption))⟩

theorem bits_none (w : World) : Calls Try.prog 43 #[.agg #[.int .u64 0, .int .u64 0, .int .u64 0, .int .u64 0]] w fun e w' => e = .returned (.int .i64 0) ∧ Below w.heap.size w w' := by
  go_enter Try.func43, Try.ntmps43
  go_wp2
  refine wp_loop_rounds 6 ?_
  rw [rounds_succ]
  go_wp2
  rw [rounds_succ]
  go_wp2
  rw [rounds_succ]
  go_wp2
  rw [rounds_succ]
  go_wp2
  rw [rounds_succ]
  go_wp2
  go_ret
  exact ⟨rfl, by repeat (first | exact Below.refl _ _ | refine gr_alloc ?_ _ | refine Below.drew ?_ | refine gr_drewN ?_ _ | refine bel_tr ?_ (by assumption))⟩

/-- limbs.Bits -/
theorem bits_any (X : Nat) (hX : X < 2 ^ 256) (w : World) : Calls Try.prog 43 #[num X] w fun e w' => e = .returned (.int .i64 (Go.bitLen X : Nat)) ∧ Below w.heap.size w w' := by
  have hs := wd_sum X hX
  unfold num
  by_cases h3 : wd X 3 = 0
  · rw [h3]
    by_cases h2 : wd X 2 = 0
    · rw [h2]
      by_cases h1 : wd X 1 = 0
      · rw [h1]
        by_cases h0 : wd X 0 = 0
        · rw [h0]
          have : X = 0 := by omega
          subst this
          exact bits_none w
        · rw [← bl_word X 0 (by omega) (Nat.div_eq_of_lt (by have := wd_lt X 0; omega)) h0]
          exact bits_0 _ w h0 (wd_lt _ _)
      · rw [← bl_word X 1 (by omega) (Nat.div_eq_of_lt (by have := wd_lt X 0; have := wd_lt X 1; omega)) h1]
        exact bits_1 _ _ w h1 (wd_lt _ _)
    · rw [← bl_word X 2 (by omega) (Nat.div_eq_of_lt (by have := wd_lt X 0; have := wd_lt X 1; have := wd_lt X 2; omega)) h2]
      exact bits_2 _ _ _ w h2 (wd_lt _ _)
  · rw [← bl_word X 3 (by omega) (Nat.div_eq_of_lt (by omega)) h3]
    exact bits_3 _ _ _ _ w h3 (wd_lt _ _)
end Go.Proofs.Ytodlpmepoakdlaa

/-
  divides.undecided: how many bits are gone through.
-/
namespace Go.Proofs.Ytodlpmepoakdlaa
set_option maxRecDepth 100000
open Go.RowKit
set_option linter.unusedSimpArgs false
set_option linter.unusedVariables false
attribute [local go_sem ↓] Go.wp_at_zero Go.wp_at_succ

theorem bl_le' (X : Nat) (hX : X < 2 ^ 256) : Go.bitLen X ≤ 256 := by
  have h := Go.bitLen_spec X
  by_cases h0 : X = 0
  · subst h0; decide
  · have h2 := h.2 h0
    by_cases hc : Go.bitLen X ≤ 256
    · exact hc
    · exfalso
      have : 2 ^ 256 ≤ 2 ^ (Go.bitLen X - 1) := Nat.pow_le_pow_right (by decide) (by omega)
      omega
theorem bl_pos (X : Nat) (h : X ≠ 0) : 0 < Go.bitLen X := by
  have h1 := (Go.bitLen_spec X).1
  rcases Nat.eq_zero_or_pos (Go.bitLen X) with e | e
  · rw [e] at h1; omega
  · exact e

set_option maxRecDepth 20000 in
set_option maxHeartbeats 1000000 in
theorem und_words (R A B la lr lb al k mm : Nat) (hla : la ≤ 256) (hlr : lr ≤ 256) (hlb : lb ≤ 256) (hal : lr = 0 ∧ al = la ∨ 0 < lr ∧ al = 256 + lr)
    (hmm : mm = al + 1 - lb) (hk : k = min mm 256)
    (CA : ∀ w, Calls Try.prog 43 #[num A] w fun e w' => e = .returned (.int .i64 (la : Nat)) ∧ Below w.heap.size w w')
    (CL : ∀ w, Calls Try.prog 43 #[num R] w fun e w' => e = .returned (.int .i64 (lr : Nat)) ∧ Below w.heap.size w w')
    (CB : ∀ w, Calls Try.prog 43 #[num B] w fun e w' => e = .returned (.int .i64 (lb : Nat)) ∧ Below w.heap.size w w') (w : World) :
    Calls Try.prog 90 #[num R, num A, num B] w fun e w' => e = .returned (.int .i64 (k : Nat)) ∧ Below w.heap.size w w' := by
  have HA := Lib.hid CA; have HL := Lib.hid CL; have HB := Lib.hid CB
  clear CA CL CB
  rcases hal with ⟨rfl, rfl⟩ | ⟨h0, hx⟩
  · have e1 : (if ((al : Int) - lb + 1) < 0 then 0 else ((al : Int) - lb + 1)) = (mm : Nat) := by split <;> omega
    have HM := Lib.hid hmm; have HK := Lib.hid hk
    clear hmm hk
    go_enter Try.func90, Try.ntmps90
    go_wp2_with fail
    have BW := Lib.hid (Below.refl w.heap.size w)
    have Nl : At (((w.alloc (.cells #[.int .u64 (wd R 0 : Nat), .int .u64 (wd R 1 : Nat), .int .u64 (wd R 2 : Nat), .int .u64 (wd R 3 : Nat)] 24)).alloc (.cells #[.int .u64 (wd A 0 : Nat), .int .u64 (wd A 1 : Nat), .int .u64 (wd A 2 : Nat), .int .u64 (wd A 3 : Nat)] 24)).alloc (.cells #[.int .u64 (wd B 0 : Nat), .int .u64 (wd B 1 : Nat), .int .u64 (wd B 2 : Nat), .int .u64 (wd B 3 : Nat)] 24)) (w.heap.size) 24 #[.int .u64 (wd R 0 : Nat), .int .u64 (wd R 1 : Nat), .int .u64 (wd R 2 : Nat), .int .u64 (wd R 3 : Nat)] := ((At.at_ _ _ _ _ (by simp)).alloc _).alloc _
    have Na : At (((w.alloc (.cells #[.int .u64 (wd R 0 : Nat), .int .u64 (wd R 1 : Nat), .int .u64 (wd R 2 : Nat), .int .u64 (wd R 3 : Nat)] 24)).alloc (.cells #[.int .u64 (wd A 0 : Nat), .int .u64 (wd A 1 : Nat), .int .u64 (wd A 2 : Nat), .int .u64 (wd A 3 : Nat)] 24)).alloc (.cells #[.int .u64 (wd B 0 : Nat), .int .u64 (wd B 1 : Nat), .int .u64 (wd B 2 : Nat), .int .u64 (wd B 3 : Nat)] 24)) (w.heap.size + 1) 24 #[.int .u64 (wd A 0 : Nat), .int .u64 (wd A 1 : Nat), .int .u64 (wd A 2 : Nat), .int .u64 (wd A 3 : Nat)] := (At.at_ _ _ _ _ (by simp)).alloc _
    have Nb : At (((w.alloc (.cells #[.int .u64 (wd R 0 : Nat), .int .u64 (wd R 1 : Nat), .int .u64 (wd R 2 : Nat), .int .u64 (wd R 3 : Nat)] 24)).alloc (.cells #[.int .u64 (wd A 0 : Nat), .int .u64 (wd A 1 : Nat), .int .u64 (wd A 2 : Nat), .int .u64 (wd A 3 : Nat)] 24)).alloc (.cells #[.int .u64 (wd B 0 : Nat), .int .u64 (wd B 1 : Nat), .int .u64 (wd B 2 : Nat), .int .u64 (wd B 3 : Nat)] 24)) (w.heap.size + 1 + 1) 24 #[.int .u64 (wd B 0 : Nat), .int .u64 (wd B 1 : Nat), .int .u64 (wd B 2 : Nat), .int .u64 (wd B 3 : Nat)] := At.at_ _ _ _ _ (by simp)
    have NB : Below w.heap.size w (((w.alloc (.cells #[.int .u64 (wd R 0 : Nat), .int .u64 (wd R 1 : Nat), .int .u64 (wd R 2 : Nat), .int .u64 (wd R 3 : Nat)] 24)).alloc (.cells #[.int .u64 (wd A 0 : Nat), .int .u64 (wd A 1 : Nat), .int .u64 (wd A 2 : Nat), .int .u64 (wd A 3 : Nat)] 24)).alloc (.cells #[.int .u64 (wd B 0 : Nat), .int .u64 (wd B 1 : Nat), .int .u64 (wd B 2 : Nat), .int .u64 (wd B 3 : Nat)] 24)) := gr_alloc (gr_alloc (gr_alloc BW.out _) _) _
    clear BW 
    generalize (((w.alloc (.cells #[.int .u64 (wd R 0 : Nat), .int .u64 (wd R 1 : Nat), .int .u64 (wd R 2 : Nat), .int .u64 (wd R 3 : Nat)] 24)).alloc (.cells #[.int .u64 (wd A 0 : Nat), .int .u64 (wd A 1 : Nat), .int .u64 (wd A 2 : Nat), .int .u64 (wd A 3 : Nat)] 24)).alloc (.cells #[.int .u64 (wd B 0 : Nat), .int .u64 (wd B 1 : Nat), .int .u64 (wd B 2 : Nat), .int .u64 (wd B 3 : Nat)] 24)) = W1 at *
    generalize w.heap.size + 1 + 1 = gb at *
    generalize w.heap.size + 1 = ga at *
    obtain ⟨gl, hg0⟩ : ∃ g, g = w.heap.size := ⟨_, rfl⟩
    rw [← hg0] at Nl ⊢
    clear hg0
    have Fl := Lib.hid Nl
    have Fa := Lib.hid Na
    have Fb := Lib.hid Nb
    have BW := Lib.hid NB
    clear NB Nl Na Nb
    refine (HA.out _).mono ?_
    rintro e v2 ⟨rfl, z2⟩
    have Nl := Lib.hid (Fl.out.on z2)
    have Na := Lib.hid (Fa.out.on z2)
    have Nb := Lib.hid (Fb.out.on z2)
    have NB := Lib.hid (bel_tr BW.out z2)
    clear BW z2 Fl Fa Fb
    have Fl := Nl
    have Fa := Na
    have Fb := Nb
    have BW := NB
    clear NB Nl Na Nb
    have Ll := Fl.out.lt
    have cl0 : v2.cell? ⟨gl, 0, none⟩ = some (.int .u64 (wd R 0 : Nat)) := Fl.out.cell 0
    have cl1 : v2.cell? ⟨gl, 1, none⟩ = some (.int .u64 (wd R 1 : Nat)) := Fl.out.cell 1
    have cl2 : v2.cell? ⟨gl, 2, none⟩ = some (.int .u64 (wd R 2 : Nat)) := Fl.out.cell 2
    have cl3 : v2.cell? ⟨gl, 3, none⟩ = some (.int .u64 (wd R 3 : Nat)) := Fl.out.cell 3
    go_wp2_with fail
    clear Ll cl0 cl1 cl2 cl3
    refine (HL.out _).mono ?_
    rintro e v3 ⟨rfl, z3⟩
    have Nl := Lib.hid (Fl.out.on z3)
    have Na := Lib.hid (Fa.out.on z3)
    have Nb := Lib.hid (Fb.out.on z3)
    have NB := Lib.hid (bel_tr BW.out z3)
    clear BW z3 Fl Fa Fb
    have Fl := Nl
    have Fa := Na
    have Fb := Nb
    have BW := NB
    clear NB Nl Na Nb
    have Lb := Fb.out.lt
    have cb0 : v3.cell? ⟨gb, 0, none⟩ = some (.int .u64 (wd B 0 : Nat)) := Fb.out.cell 0
    have cb1 : v3.cell? ⟨gb, 1, none⟩ = some (.int .u64 (wd B 1 : Nat)) := Fb.out.cell 1
    have cb2 : v3.cell? ⟨gb, 2, none⟩ = some (.int .u64 (wd B 2 : Nat)) := Fb.out.cell 2
    have cb3 : v3.cell? ⟨gb, 3, none⟩ = some (.int .u64 (wd B 3 : Nat)) := Fb.out.cell 3
    go_wp2_with fail
    clear Lb cb0 cb1 cb2 cb3
    refine (HB.out _).mono ?_
    rintro e v4 ⟨rfl, z4⟩
    have Nl := Lib.hid (Fl.out.on z4)
    have Na := Lib.hid (Fa.out.on z4)
    have Nb := Lib.hid (Fb.out.on z4)
    have NB := Lib.hid (bel_tr BW.out z4)
    clear BW z4 Fl Fa Fb
    have Fl := Nl
    have Fa := Na
    have Fb := Nb
    have BW := NB
    clear NB Nl Na Nb
    go_wp2_with fail
    all_goals
      go_ret
      refine ⟨?_, BW.out⟩
      have q1 := HM.out; have q2 := HK.out
      refine congrArg Ending.returned (show _ = Value.int IntKind.i64 (k : Nat) from congrArg (Value.int IntKind.i64) ?_)
      omega
  · have h0' : (0 : Int) < (lr : Int) := by omega
    have hal' : al ≤ 512 := by omega
    have gx : (256 : Int) + (lr : Int) = (al : Nat) := by omega
    have HM := Lib.hid hmm; have HK := Lib.hid hk
    clear hx
    have HM := Lib.hid hmm; have HK := Lib.hid hk
    clear hmm hk
    go_enter Try.func90, Try.ntmps90
    go_wp2_with fail
    have BW := Lib.hid (Below.refl w.heap.size w)
    have Nl : At (((w.alloc (.cells #[.int .u64 (wd R 0 : Nat), .int .u64 (wd R 1 : Nat), .int .u64 (wd R 2 : Nat), .int .u64 (wd R 3 : Nat)] 24)).alloc (.cells #[.int .u64 (wd A 0 : Nat), .int .u64 (wd A 1 : Nat), .int .u64 (wd A 2 : Nat), .int .u64 (wd A 3 : Nat)] 24)).alloc (.cells #[.int .u64 (wd B 0 : Nat), .int .u64 (wd B 1 : Nat), .int .u64 (wd B 2 : Nat), .int .u64 (wd B 3 : Nat)] 24)) (w.heap.size) 24 #[.int .u64 (wd R 0 : Nat), .int .u64 (wd R 1 : Nat), .int .u64 (wd R 2 : Nat), .int .u64 (wd R 3 : Nat)] := ((At.at_ _ _ _ _ (by simp)).alloc _).alloc _
    have Na : At (((w.alloc (.cells #[.int .u64 (wd R 0 : Nat), .int .u64 (wd R 1 : Nat), .int .u64 (wd R 2 : Nat), .int .u64 (wd R 3 : Nat)] 24)).alloc (.cells #[.int .u64 (wd A 0 : Nat), .int .u64 (wd A 1 : Nat), .int .u64 (wd A 2 : Nat), .int .u64 (wd A 3 : Nat)] 24)).alloc (.cells #[.int .u64 (wd B 0 : Nat), .int .u64 (wd B 1 : Nat), .int .u64 (wd B 2 : Nat), .int .u64 (wd B 3 : Nat)] 24)) (w.heap.size + 1) 24 #[.int .u64 (wd A 0 : Nat), .int .u64 (wd A 1 : Nat), .int .u64 (wd A 2 : Nat), .int .u64 (wd A 3 : Nat)] := (At.at_ _ _ _ _ (by simp)).alloc _
    have Nb : At (((w.alloc (.cells #[.int .u64 (wd R 0 : Nat), .int .u64 (wd R 1 : Nat), .int .u64 (wd R 2 : Nat), .int .u64 (wd R 3 : Nat)] 24)).alloc (.cells #[.int .u64 (wd A 0 : Nat), .int .u64 (wd A 1 : Nat), .int .u64 (wd A 2 : Nat), .int .u64 (wd A 3 : Nat)] 24)).alloc (.cells #[.int .u64 (wd B 0 : Nat), .int .u64 (wd B 1 : Nat), .int .u64 (wd B 2 : Nat), .int .u64 (wd B 3 : Nat)] 24)) (w.heap.size + 1 + 1) 24 #[.int .u64 (wd B 0 : Nat), .int .u64 (wd B 1 : Nat), .int .u64 (wd B 2 : Nat), .int .u64 (wd B 3 : Nat)] := At.at_ _ _ _ _ (by simp)
    have NB : Below w.heap.size w (((w.alloc (.cells #[.int .u64 (wd R 0 : Nat), .int .u64 (wd R 1 : Nat), .int .u64 (wd R 2 : Nat), .int .u64 (wd R 3 : Nat)] 24)).alloc (.cells #[.int .u64 (wd A 0 : Nat), .int .u64 (wd A 1 : Nat), .int .u64 (wd A 2 : Nat), .int .u64 (wd A 3 : Nat)] 24)).alloc (.cells #[.int .u64 (wd B 0 : Nat), .int .u64 (wd B 1 : Nat), .int .u64 (wd B 2 : Nat), .int .u64 (wd B 3 : Nat)] 24)) := gr_alloc (gr_alloc (gr_alloc BW.out _) _) _
    clear BW 
    generalize (((w.alloc (.cells #[.int .u64 (wd R 0 : Nat), .int .u64 (wd R 1 : Nat), .int .u64 (wd R 2 : Nat), .int .u64 (wd R 3 : Nat)] 24)).alloc (.cells #[.int .u64 (wd A 0 : Nat), .int .u64 (wd A 1 : Nat), .int .u64 (wd A 2 : Nat), .int .u64 (wd A 3 : Nat)] 24)).alloc (.cells #[.int .u64 (wd B 0 : Nat), .int .u64 (wd B 1 : Nat), .int .u64 (wd B 2 : Nat), .int .u64 (wd B 3 : Nat)] 24)) = W1 at *
    generalize w.heap.size + 1 + 1 = gb at *
    generalize w.heap.size + 1 = ga at *
    obtain ⟨gl, hg0⟩ : ∃ g, g = w.heap.size := ⟨_, rfl⟩
    rw [← hg0] at Nl ⊢
    clear hg0
    have Fl := Lib.hid Nl
    have Fa := Lib.hid Na
    have Fb := Lib.hid Nb
    have BW := Lib.hid NB
    clear NB Nl Na Nb
    refine (HA.out _).mono ?_
    rintro e v2 ⟨rfl, z2⟩
    have Nl := Lib.hid (Fl.out.on z2)
    have Na := Lib.hid (Fa.out.on z2)
    have Nb := Lib.hid (Fb.out.on z2)
    have NB := Lib.hid (bel_tr BW.out z2)
    clear BW z2 Fl Fa Fb
    have Fl := Nl
    have Fa := Na
    have Fb := Nb
    have BW := NB
    clear NB Nl Na Nb
    have Ll := Fl.out.lt
    have cl0 : v2.cell? ⟨gl, 0, none⟩ = some (.int .u64 (wd R 0 : Nat)) := Fl.out.cell 0
    have cl1 : v2.cell? ⟨gl, 1, none⟩ = some (.int .u64 (wd R 1 : Nat)) := Fl.out.cell 1
    have cl2 : v2.cell? ⟨gl, 2, none⟩ = some (.int .u64 (wd R 2 : Nat)) := Fl.out.cell 2
    have cl3 : v2.cell? ⟨gl, 3, none⟩ = some (.int .u64 (wd R 3 : Nat)) := Fl.out.cell 3
    go_wp2_with fail
    clear Ll cl0 cl1 cl2 cl3
    refine (HL.out _).mono ?_
    rintro e v3 ⟨rfl, z3⟩
    have Nl := Lib.hid (Fl.out.on z3)
    have Na := Lib.hid (Fa.out.on z3)
    have Nb := Lib.hid (Fb.out.on z3)
    have NB := Lib.hid (bel_tr BW.out z3)
    clear BW z3 Fl Fa Fb
    have Fl := Nl
    have Fa := Na
    have Fb := Nb
    have BW := NB
    clear NB Nl Na Nb
    have Lb := Fb.out.lt
    have cb0 : v3.cell? ⟨gb, 0, none⟩ = some (.int .u64 (wd B 0 : Nat)) := Fb.out.cell 0
    have cb1 : v3.cell? ⟨gb, 1, none⟩ = some (.int .u64 (wd B 1 : Nat)) := Fb.out.cell 1
    have cb2 : v3.cell? ⟨gb, 2, none⟩ = some (.int .u64 (wd B 2 : Nat)) := Fb.out.cell 2
    have cb3 : v3.cell? ⟨gb, 3, none⟩ = some (.int .u64 (wd B 3 : Nat)) := Fb.out.cell 3
    go_wp2_with fail
    clear Lb cb0 cb1 cb2 cb3
    refine (HB.out _).mono ?_
    rintro e v4 ⟨rfl, z4⟩
    have Nl := Lib.hid (Fl.out.on z4)
    have Na := Lib.hid (Fa.out.on z4)
    have Nb := Lib.hid (Fb.out.on z4)
    have NB := Lib.hid (bel_tr BW.out z4)
    clear BW z4 Fl Fa Fb
    have Fl := Nl
    have Fa := Na
    have Fb := Nb
    have BW := NB
    clear NB Nl Na Nb
    go_wp2_with fail
    all_goals
      go_ret
      refine ⟨?_, BW.out⟩
      have q1 := HM.out; have q2 := HK.out
      refine congrArg Ending.returned (show _ = Value.int IntKind.i64 (k : Nat) from congrArg (Value.int IntKind.i64) ?_)
      omega

/-- how many bits are gone through -/
def undN (R A B : Nat) : Nat := min ((if R = 0 then Go.bitLen A else 256 + Go.bitLen R) + 1 - Go.bitLen B) 256
theorem und_any (R A B : Nat) (hR : R < 2 ^ 256) (hA : A < 2 ^ 256) (hB : B < 2 ^ 256) (w : World) :
    Calls Try.prog 90 #[num R, num A, num B] w fun e w' => e = .returned (.int .i64 (undN R A B : Nat)) ∧ Below w.heap.size w w' := by
  refine und_words R A B (Go.bitLen A) (Go.bitLen R) (Go.bitLen B) (if R = 0 then Go.bitLen A else 256 + Go.bitLen R) _ _ (bl_le' A hA) (bl_le' R hR) (bl_le' B hB) ?_ rfl rfl (bits_any A hA) (bits_any R hR) (bits_any B hB) w
  by_cases h : R = 0
  · rw [if_pos h]; exact Or.inl ⟨by rw [h]; decide, rfl⟩
  · rw [if_neg h]; exact Or.inr ⟨bl_pos R h, rfl⟩
end Go.Proofs.Ytodlpmepoakdlaa
