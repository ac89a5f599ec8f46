/-
  divides.undecided: how many bits are gone through.
-/
import Derived.Test.YtodlpmepoakdlaaWBitsN
import Derived.Test.YtodlpmepoakdlaaWPut
namespace Go.Proofs.Ytodlpmepoakdlaa
set_option maxRecDepth 100000
open Go.RowKit
set_option linter.unusedSimpArgs false
set_option linter.unusedVariables false
attribute [local go_sem ↓] Go.wp_at_zero Go.wp_at_succ

theorem bl_le' (X : Nat) (hX : X < 2 ^ 256) : Go.bitLen X ≤ 256 := by
  have h := Go.bitLen_spec X
  by_cases h0 : X = 0
  · subst h0; decide
  · have h2 := h.2 h0
    by_cases hc : Go.bitLen X ≤ 256
    · exact hc
    · exfalso
      have : 2 ^ 256 ≤ 2 ^ (Go.bitLen X - 1) := Nat.pow_le_pow_right (by decide) (by omega)
      omega
theorem bl_pos (X : Nat) (h : X ≠ 0) : 0 < Go.bitLen X := by
  have h1 := (Go.bitLen_spec X).1
  rcases Nat.eq_zero_or_pos (Go.bitLen X) with e | e
  · rw [e] at h1; omega
  · exact e

set_option maxRecDepth 20000 in
set_option maxHeartbeats 1000000 in
theorem und_words (R A B la lr lb al k mm : Nat) (hla : la ≤ 256) (hlr : lr ≤ 256) (hlb : lb ≤ 256) (hal : lr = 0 ∧ al = la ∨ 0 < lr ∧ al = 256 + lr)
    (hmm : mm = al + 1 - lb) (hk : k = min mm 256)
    (CA : ∀ w, Calls Try.prog 43 #[num A] w fun e w' => e = .returned (.int .i64 (la : Nat)) ∧ Below w.heap.size w w')
    (CL : ∀ w, Calls Try.prog 43 #[num R] w fun e w' => e = .returned (.int .i64 (lr : Nat)) ∧ Below w.heap.size w w')
    (CB : ∀ w, Calls Try.prog 43 #[num B] w fun e w' => e = .returned (.int .i64 (lb : Nat)) ∧ Below w.heap.size w w') (w : World) :
    Calls Try.prog 90 #[num R, num A, num B] w fun e w' => e = .returned (.int .i64 (k : Nat)) ∧ Below w.heap.size w w' := by
  have HA := Lib.hid CA; have HL := Lib.hid CL; have HB := Lib.hid CB
  clear CA CL CB
  rcases hal with ⟨rfl, rfl⟩ | ⟨h0, hx⟩
  · have e1 : (if ((al : Int) - lb + 1) < 0 then 0 else ((al : Int) - lb + 1)) = (mm : Nat) := by split <;> omega
    have HM := Lib.hid hmm; have HK := Lib.hid hk
    clear hmm hk
    go_enter Try.func90, Try.ntmps90
    go_wp2_with fail
    have BW := Lib.hid (Below.refl w.heap.size w)
    have Nl : At (((w.alloc (.cells #[.int .u64 (wd R 0 : Nat), .int .u64 (wd R 1 : Nat), .int .u64 (wd R 2 : Nat), .int .u64 (wd R 3 : Nat)] 24)).alloc (.cells #[.int .u64 (wd A 0 : Nat), .int .u64 (wd A 1 : Nat), .int .u64 (wd A 2 : Nat), .int .u64 (wd A 3 : Nat)] 24)).alloc (.cells #[.int .u64 (wd B 0 : Nat), .int .u64 (wd B 1 : Nat), .int .u64 (wd B 2 : Nat), .int .u64 (wd B 3 : Nat)] 24)) (w.heap.size) 24 #[.int .u64 (wd R 0 : Nat), .int .u64 (wd R 1 : Nat), .int .u64 (wd R 2 : Nat), .int .u64 (wd R 3 : Nat)] := ((At.at_ _ _ _ _ (by simp)).alloc _).alloc _
    have Na : At (((w.alloc (.cells #[.int .u64 (wd R 0 : Nat), .int .u64 (wd R 1 : Nat), .int .u64 (wd R 2 : Nat), .int .u64 (wd R 3 : Nat)] 24)).alloc (.cells #[.int .u64 (wd A 0 : Nat), .int .u64 (wd A 1 : Nat), .int .u64 (wd A 2 : Nat), .int .u64 (wd A 3 : Nat)] 24)).alloc (.cells #[.int .u64 (wd B 0 : Nat), .int .u64 (wd B 1 : Nat), .int .u64 (wd B 2 : Nat), .int .u64 (wd B 3 : Nat)] 24)) (w.heap.size + 1) 24 #[.int .u64 (wd A 0 : Nat), .int .u64 (wd A 1 : Nat), .int .u64 (wd A 2 : Nat), .int .u64 (wd A 3 : Nat)] := (At.at_ _ _ _ _ (by simp)).alloc _
    have Nb : At (((w.alloc (.cells #[.int .u64 (wd R 0 : Nat), .int .u64 (wd R 1 : Nat), .int .u64 (wd R 2 : Nat), .int .u64 (wd R 3 : Nat)] 24)).alloc (.cells #[.int .u64 (wd A 0 : Nat), .int .u64 (wd A 1 : Nat), .int .u64 (wd A 2 : Nat), .int .u64 (wd A 3 : Nat)] 24)).alloc (.cells #[.int .u64 (wd B 0 : Nat), .int .u64 (wd B 1 : Nat), .int .u64 (wd B 2 : Nat), .int .u64 (wd B 3 : Nat)] 24)) (w.heap.size + 1 + 1) 24 #[.int .u64 (wd B 0 : Nat), .int .u64 (wd B 1 : Nat), .int .u64 (wd B 2 : Nat), .int .u64 (wd B 3 : Nat)] := At.at_ _ _ _ _ (by simp)
    have NB : Below w.heap.size w (((w.alloc (.cells #[.int .u64 (wd R 0 : Nat), .int .u64 (wd R 1 : Nat), .int .u64 (wd R 2 : Nat), .int .u64 (wd R 3 : Nat)] 24)).alloc (.cells #[.int .u64 (wd A 0 : Nat), .int .u64 (wd A 1 : Nat), .int .u64 (wd A 2 : Nat), .int .u64 (wd A 3 : Nat)] 24)).alloc (.cells #[.int .u64 (wd B 0 : Nat), .int .u64 (wd B 1 : Nat), .int .u64 (wd B 2 : Nat), .int .u64 (wd B 3 : Nat)] 24)) := gr_alloc (gr_alloc (gr_alloc BW.out _) _) _
    clear BW 
    generalize (((w.alloc (.cells #[.int .u64 (wd R 0 : Nat), .int .u64 (wd R 1 : Nat), .int .u64 (wd R 2 : Nat), .int .u64 (wd R 3 : Nat)] 24)).alloc (.cells #[.int .u64 (wd A 0 : Nat), .int .u64 (wd A 1 : Nat), .int .u64 (wd A 2 : Nat), .int .u64 (wd A 3 : Nat)] 24)).alloc (.cells #[.int .u64 (wd B 0 : Nat), .int .u64 (wd B 1 : Nat), .int .u64 (wd B 2 : Nat), .int .u64 (wd B 3 : Nat)] 24)) = W1 at *
    generalize w.heap.size + 1 + 1 = gb at *
    generalize w.heap.size + 1 = ga at *
    obtain ⟨gl, hg0⟩ : ∃ g, g = w.heap.size := ⟨_, rfl⟩
    rw [← hg0] at Nl ⊢
    clear hg0
    have Fl := Lib.hid Nl
    have Fa := Lib.hid Na
    have Fb := Lib.hid Nb
    have BW := Lib.hid NB
    clear NB Nl Na Nb
    refine (HA.out _).mono ?_
    rintro e v2 ⟨rfl, z2⟩
    have Nl := Lib.hid (Fl.out.on z2)
    have Na := Lib.hid (Fa.out.on z2)
    have Nb := Lib.hid (Fb.out.on z2)
    have NB := Lib.hid (bel_tr BW.out z2)
    clear BW z2 Fl Fa Fb
    have Fl := Nl
    have Fa := Na
    have Fb := Nb
    have BW := NB
    clear NB Nl Na Nb
    have Ll := Fl.out.lt
    have cl0 : v2.cell? ⟨gl, 0, none⟩ = some (.int .u64 (wd R 0 : Nat)) := Fl.out.cell 0
    have cl1 : v2.cell? ⟨gl, 1, none⟩ = some (.int .u64 (wd R 1 : Nat)) := Fl.out.cell 1
    have cl2 : v2.cell? ⟨gl, 2, none⟩ = some (.int .u64 (wd R 2 : Nat)) := Fl.out.cell 2
    have cl3 : v2.cell? ⟨gl, 3, none⟩ = some (.int .u64 (wd R 3 : Nat)) := Fl.out.cell 3
    go_wp2_with fail
    clear Ll cl0 cl1 cl2 cl3
    refine (HL.out _).mono ?_
    rintro e v3 ⟨rfl, z3⟩
    have Nl := Lib.hid (Fl.out.on z3)
    have Na := Lib.hid (Fa.out.on z3)
    have Nb := Lib.hid (Fb.out.on z3)
    have NB := Lib.hid (bel_tr BW.out z3)
    clear BW z3 Fl Fa Fb
    have Fl := Nl
    have Fa := Na
    have Fb := Nb
    have BW := NB
    clear NB Nl Na Nb
    have Lb := Fb.out.lt
    have cb0 : v3.cell? ⟨gb, 0, none⟩ = some (.int .u64 (wd B 0 : Nat)) := Fb.out.cell 0
    have cb1 : v3.cell? ⟨gb, 1, none⟩ = some (.int .u64 (wd B 1 : Nat)) := Fb.out.cell 1
    have cb2 : v3.cell? ⟨gb, 2, none⟩ = some (.int .u64 (wd B 2 : Nat)) := Fb.out.cell 2
    have cb3 : v3.cell? ⟨gb, 3, none⟩ = some (.int .u64 (wd B 3 : Nat)) := Fb.out.cell 3
    go_wp2_with fail
    clear Lb cb0 cb1 cb2 cb3
    refine (HB.out _).mono ?_
    rintro e v4 ⟨rfl, z4⟩
    have Nl := Lib.hid (Fl.out.on z4)
    have Na := Lib.hid (Fa.out.on z4)
    have Nb := Lib.hid (Fb.out.on z4)
    have NB := Lib.hid (bel_tr BW.out z4)
    clear BW z4 Fl Fa Fb
    have Fl := Nl
    have Fa := Na
    have Fb := Nb
    have BW := NB
    clear NB Nl Na Nb
    go_wp2_with fail
    all_goals
      go_ret
      refine ⟨?_, BW.out⟩
      have q1 := HM.out; have q2 := HK.out
      refine congrArg Ending.returned (show _ = Value.int IntKind.i64 (k : Nat) from congrArg (Value.int IntKind.i64) ?_)
      omega
  · have h0' : (0 : Int) < (lr : Int) := by omega
    have hal' : al ≤ 512 := by omega
    have gx : (256 : Int) + (lr : Int) = (al : Nat) := by omega
    have HM := Lib.hid hmm; have HK := Lib.hid hk
    clear hx
    have HM := Lib.hid hmm; have HK := Lib.hid hk
    clear hmm hk
    go_enter Try.func90, Try.ntmps90
    go_wp2_with fail
    have BW := Lib.hid (Below.refl w.heap.size w)
    have Nl : At (((w.alloc (.cells #[.int .u64 (wd R 0 : Nat), .int .u64 (wd R 1 : Nat), .int .u64 (wd R 2 : Nat), .int .u64 (wd R 3 : Nat)] 24)).alloc (.cells #[.int .u64 (wd A 0 : Nat), .int .u64 (wd A 1 : Nat), .int .u64 (wd A 2 : Nat), .int .u64 (wd A 3 : Nat)] 24)).alloc (.cells #[.int .u64 (wd B 0 : Nat), .int .u64 (wd B 1 : Nat), .int .u64 (wd B 2 : Nat), .int .u64 (wd B 3 : Nat)] 24)) (w.heap.size) 24 #[.int .u64 (wd R 0 : Nat), .int .u64 (wd R 1 : Nat), .int .u64 (wd R 2 : Nat), .int .u64 (wd R 3 : Nat)] := ((At.at_ _ _ _ _ (by simp)).alloc _).alloc _
    have Na : At (((w.alloc (.cells #[.int .u64 (wd R 0 : Nat), .int .u64 (wd R 1 : Nat), .int .u64 (wd R 2 : Nat), .int .u64 (wd R 3 : Nat)] 24)).alloc (.cells #[.int .u64 (wd A 0 : Nat), .int .u64 (wd A 1 : Nat), .int .u64 (wd A 2 : Nat), .int .u64 (wd A 3 : Nat)] 24)).alloc (.cells #[.int .u64 (wd B 0 : Nat), .int .u64 (wd B 1 : Nat), .int .u64 (wd B 2 : Nat), .int .u64 (wd B 3 : Nat)] 24)) (w.heap.size + 1) 24 #[.int .u64 (wd A 0 : Nat), .int .u64 (wd A 1 : Nat), .int .u64 (wd A 2 : Nat), .int .u64 (wd A 3 : Nat)] := (At.at_ _ _ _ _ (by simp)).alloc _
    have Nb : At (((w.alloc (.cells #[.int .u64 (wd R 0 : Nat), .int .u64 (wd R 1 : Nat), .int .u64 (wd R 2 : Nat), .int .u64 (wd R 3 : Nat)] 24)).alloc (.cells #[.int .u64 (wd A 0 : Nat), .int .u64 (wd A 1 : Nat), .int .u64 (wd A 2 : Nat), .int .u64 (wd A 3 : Nat)] 24)).alloc (.cells #[.int .u64 (wd B 0 : Nat), .int .u64 (wd B 1 : Nat), .int .u64 (wd B 2 : Nat), .int .u64 (wd B 3 : Nat)] 24)) (w.heap.size + 1 + 1) 24 #[.int .u64 (wd B 0 : Nat), .int .u64 (wd B 1 : Nat), .int .u64 (wd B 2 : Nat), .int .u64 (wd B 3 : Nat)] := At.at_ _ _ _ _ (by simp)
    have NB : Below w.heap.size w (((w.alloc (.cells #[.int .u64 (wd R 0 : Nat), .int .u64 (wd R 1 : Nat), .int .u64 (wd R 2 : Nat), .int .u64 (wd R 3 : Nat)] 24)).alloc (.cells #[.int .u64 (wd A 0 : Nat), .int .u64 (wd A 1 : Nat), .int .u64 (wd A 2 : Nat), .int .u64 (wd A 3 : Nat)] 24)).alloc (.cells #[.int .u64 (wd B 0 : Nat), .int .u64 (wd B 1 : Nat), .int .u64 (wd B 2 : Nat), .int .u64 (wd B 3 : Nat)] 24)) := gr_alloc (gr_alloc (gr_alloc BW.out _) _) _
    clear BW 
    generalize (((w.alloc (.cells #[.int .u64 (wd R 0 : Nat), .int .u64 (wd R 1 : Nat), .int .u64 (wd R 2 : Nat), .int .u64 (wd R 3 : Nat)] 24)).alloc (.cells #[.int .u64 (wd A 0 : Nat), .int .u64 (wd A 1 : Nat), .int .u64 (wd A 2 : Nat), .int .u64 (wd A 3 : Nat)] 24)).alloc (.cells #[.int .u64 (wd B 0 : Nat), .int .u64 (wd B 1 : Nat), .int .u64 (wd B 2 : Nat), .int .u64 (wd B 3 : Nat)] 24)) = W1 at *
    generalize w.heap.size + 1 + 1 = gb at *
    generalize w.heap.size + 1 = ga at *
    obtain ⟨gl, hg0⟩ : ∃ g, g = w.heap.size := ⟨_, rfl⟩
    rw [← hg0] at Nl ⊢
    clear hg0
    have Fl := Lib.hid Nl
    have Fa := Lib.hid Na
    have Fb := Lib.hid Nb
    have BW := Lib.hid NB
    clear NB Nl Na Nb
    refine (HA.out _).mono ?_
    rintro e v2 ⟨rfl, z2⟩
    have Nl := Lib.hid (Fl.out.on z2)
    have Na := Lib.hid (Fa.out.on z2)
    have Nb := Lib.hid (Fb.out.on z2)
    have NB := Lib.hid (bel_tr BW.out z2)
    clear BW z2 Fl Fa Fb
    have Fl := Nl
    have Fa := Na
    have Fb := Nb
    have BW := NB
    clear NB Nl Na Nb
    have Ll := Fl.out.lt
    have cl0 : v2.cell? ⟨gl, 0, none⟩ = some (.int .u64 (wd R 0 : Nat)) := Fl.out.cell 0
    have cl1 : v2.cell? ⟨gl, 1, none⟩ = some (.int .u64 (wd R 1 : Nat)) := Fl.out.cell 1
    have cl2 : v2.cell? ⟨gl, 2, none⟩ = some (.int .u64 (wd R 2 : Nat)) := Fl.out.cell 2
    have cl3 : v2.cell? ⟨gl, 3, none⟩ = some (.int .u64 (wd R 3 : Nat)) := Fl.out.cell 3
    go_wp2_with fail
    clear Ll cl0 cl1 cl2 cl3
    refine (HL.out _).mono ?_
    rintro e v3 ⟨rfl, z3⟩
    have Nl := Lib.hid (Fl.out.on z3)
    have Na := Lib.hid (Fa.out.on z3)
    have Nb := Lib.hid (Fb.out.on z3)
    have NB := Lib.hid (bel_tr BW.out z3)
    clear BW z3 Fl Fa Fb
    have Fl := Nl
    have Fa := Na
    have Fb := Nb
    have BW := NB
    clear NB Nl Na Nb
    have Lb := Fb.out.lt
    have cb0 : v3.cell? ⟨gb, 0, none⟩ = some (.int .u64 (wd B 0 : Nat)) := Fb.out.cell 0
    have cb1 : v3.cell? ⟨gb, 1, none⟩ = some (.int .u64 (wd B 1 : Nat)) := Fb.out.cell 1
    have cb2 : v3.cell? ⟨gb, 2, none⟩ = some (.int .u64 (wd B 2 : Nat)) := Fb.out.cell 2
    have cb3 : v3.cell? ⟨gb, 3, none⟩ = some (.int .u64 (wd B 3 : Nat)) := Fb.out.cell 3
    go_wp2_with fail
    clear Lb cb0 cb1 cb2 cb3
    refine (HB.out _).mono ?_
    rintro e v4 ⟨rfl, z4⟩
    have Nl := Lib.hid (Fl.out.on z4)
    have Na := Lib.hid (Fa.out.on z4)
    have Nb := Lib.hid (Fb.out.on z4)
    have NB := Lib.hid (bel_tr BW.out z4)
    clear BW z4 Fl Fa Fb
    have Fl := Nl
    have Fa := Na
    have Fb := Nb
    have BW := NB
    clear NB Nl Na Nb
    go_wp2_with fail
    all_goals
      go_ret
      refine ⟨?_, BW.out⟩
      have q1 := HM.out; have q2 := HK.out
      refine congrArg Ending.returned (show _ = Value.int IntKind.i64 (k : Nat) from congrArg (Value.int IntKind.i64) ?_)
      omega

/-- how many bits are gone through -/
def undN (R A B : Nat) : Nat := min ((if R = 0 then Go.bitLen A else 256 + Go.bitLen R) + 1 - Go.bitLen B) 256
theorem und_any (R A B : Nat) (hR : R < 2 ^ 256) (hA : A < 2 ^ 256) (hB : B < 2 ^ 256) (w : World) :
    Calls Try.prog 90 #[num R, num A, num B] w fun e w' => e = .returned (.int .i64 (undN R A B : Nat)) ∧ Below w.heap.size w w' := by
  refine und_words R A B (Go.bitLen A) (Go.bitLen R) (Go.bitLen B) (if R = 0 then Go.bitLen A else 256 + Go.bitLen R) _ _ (bl_le' A hA) (bl_le' R hR) (bl_le' B hB) ?_ rfl rfl (bits_any A hA) (bits_any R hR) (bits_any B hB) w
  by_cases h : R = 0
  · rw [if_pos h]; exact Or.inl ⟨by rw [h]; decide, rfl⟩
  · rw [if_neg h]; exact Or.inr ⟨bl_pos R h, rfl⟩
end Go.Proofs.Ytodlpmepoakdlaa
