/-
  NumsBack, for every input: it answers true, and its arguments read as they did. No condition.
-/
import Derived.Test.YtjleelpnkkeakaaOrderProof
import Derived.Test.YtjleelpnkkeakaaBack
namespace Go.Proofs.Ytjleelpnkkeakaa
open Go.ChangeShapes Go.WideShapes Go.ChangeAt Go.RowKit

theorem Try.cells26 : Try.prog.cellsOf 26 = 6 := by kernel_rfl
theorem Try.cells3 : Try.prog.cellsOf 3 = 1 := by kernel_rfl

section
variable {H : Type} {enc : TypeId × Value → H} {w : World} {held : Bool}

/-- a number, in how many bytes, and a long one -/
theorem open_given {base : Nat} {v : Value} {d : DataW H} {pl : List MemPlace} (hv : Value.okWide Try.prog w .any base 26 v) (h : DataW.Trod enc Try.prog w 0 (fun _ => true) held 26 v d pl) :
    ∃ (x : Nat) (kk : Int) (a b p q : Nat), v = .agg #[.int .u64 x, .int .i64 kk, .int .u64 a, .int .u64 b, .int .u64 p, .int .u64 q] ∧ x < 18446744073709551616 ∧
      (-9223372036854775808 ≤ kk ∧ kk ≤ 9223372036854775807) ∧ a < 18446744073709551616 ∧ b < 18446744073709551616 ∧ p < 18446744073709551616 ∧ q < 18446744073709551616 := by
  obtain ⟨cs, rfl, hsz⟩ := okWide_struct Try.underlying26 hv
  obtain ⟨fuel, hf⟩ := h
  obtain ⟨xs, m, rfl, hx, hl, hn, he⟩ := DataW.trod_struct Try.underlying26 hf
  rw [Try.cells26] at hsz
  match xs, hn with
  | [x0, x1, x2], _ =>
    have e0 := he 0 _ rfl
    have e1 := he 1 _ rfl
    have e2 := he 2 _ rfl
    obtain ⟨cs⟩ := cs
    match cs, hsz with
    | [c0, c1, c2, c3, c4, c5], _ =>
      simp [Value.cells, Try.cells22, Try.cells3, Try.cells24] at e0 e1 e2
      obtain ⟨x, rfl, wx⟩ := open_word e0
      obtain ⟨kk, hk, _, wk⟩ := DataW.trod_int Try.underlying3 e1
      obtain ⟨a, b, p, q, rfl, rfl, rfl, rfl, wa⟩ := open_four e2
      simp at hk
      subst hk
      exact ⟨x, kk, a, b, p, q, rfl, wx, bounds_i64 wk, wa.1, wa.2.1, wa.2.2.1, wa.2.2.2⟩
end

set_option maxRecDepth 100000 in
theorem back_lifted (os : Os) (started : os.Started) (H : Type) (enc : TypeId × Value → H) :
    ReturnsInHanded {} Try.checked os 3 .any (Rows.numsBackSpec.pre6 enc Try.prog Try.f3 Rows.numsBackRow.domain false) (Rows.numsBackSpec.post enc Try.prog Try.f3 false true false false) := by
  refine returnsInHanded_of_change_sized (C := Try.checked) own started (by kernel_rfl) Try.func3
    (ChangeSpec.witness6 (enc := enc) (C := Try.checked) false ⟨#[], #[.agg #[.int .u64 0, .int .i64 0, .int .u64 0, .int .u64 0, .int .u64 0, .int .u64 0], .agg #[.slice none 0 0, .slice none 0 0]], []⟩ 8 (by kernel_rfl) (by kernel_rfl) (by kernel_rfl) (by kernel_rfl)) ?_
  intro W base args ds gs before hval0 hW hcnd hsz0 _
  have hval : ∀ (j : Nat) t v, Try.f3.params[j]? = some t → args[j]? = some v → Value.okWide Try.prog W .any base t v := hval0
  have hsz : (DataW.weightsEach Try.prog (Try.f3.params.toList ++ Rows.numsBackSpec.plain.varTypes Try.prog) (ds ++ gs)).all (· ≤ reachBytes) = true := hsz0
  have hW' := hW
  obtain ⟨p, q, hA0, hV, rfl, hfz, hnd⟩ := hW
  have hA : DataW.TrodAll enc Try.prog W 0 (fun _ => true) true Try.f3.params.toList args.toList ds p := hA0
  rw [Try.params3] at hA hval hsz
  obtain ⟨v0, v1, d0, d1, p0, p1, rfl, rfl, rfl, h0, h1⟩ := trodAll_two hA
  obtain ⟨rfl, rfl⟩ := trodVars_none hV
  have t0 := h0
  have t1 := h1
  have lt0 : ∀ x ∈ p0, x.block < W.heap.size := by obtain ⟨m, hm⟩ := t0; exact DataW.trod_lt m _ _ _ hm
  have lt1 : ∀ x ∈ p1, x.block < W.heap.size := by obtain ⟨m, hm⟩ := t1; exact DataW.trod_lt m _ _ _ hm
  obtain ⟨x, kk, a, b, pp, qq, rfl, wx, wk, wa, wb, wp, wq⟩ := open_given (hval 0 26 v0 rfl rfl) h0
  obtain ⟨A0, n0, c0, l0, A1, n1, c1, l1, rfl, i0, i1, hwt⟩ := open_two (hval 1 28 v1 rfl rfl) h1
  obtain ⟨s0, s1⟩ := hwt (weigh hsz (j := 1) rfl rfl)
  obtain ⟨k, hk⟩ : ∃ k : Nat, (kk < 0 ∧ k = 0) ∨ (0 ≤ kk ∧ kk ≤ 8 ∧ kk = k) ∨ (8 < kk ∧ k = 8) := by
    rcases Int.lt_or_le kk 0 with h | h
    · exact ⟨0, .inl ⟨h, rfl⟩⟩
    · rcases Int.lt_or_le 8 kk with h2 | h2
      · exact ⟨8, .inr (.inr ⟨h2, rfl⟩)⟩
      · exact ⟨kk.toNat, .inr (.inl ⟨h, h2, by omega⟩)⟩
  clear hA0 hval0 hsz0
  refine (back_walk x kk k a b pp qq A0 A1 n0 c0 n1 c1 l0 l1 W hk wx wa wb wp wq (by omega) (by omega) i0.1 i1.1 i0.2.1 i1.2.1 i0.2.2.1 i1.2.2.1 i0.2.2.2.1 i1.2.2.2.1 i0.2.2.2.2 i1.2.2.2.2).mono fun e W' ⟨he, bel⟩ => ?_
  subst he
  exact ⟨_, rfl, _, _, _, [], _, [], hW', trodAll_mk1 (shut_bool Try.underlying4 _), (trodAll_cons_mk (Below.trod laidOut (by kernel_rfl) (of_decide_eq_true (by kernel_rfl)) t0 bel lt0) (trodAll_cons_mk (Below.trod laidOut (by kernel_rfl) (of_decide_eq_true (by kernel_rfl)) t1 bel lt1) trodAll_mk0)), rfl, bel.frame _, fun h => by cases h⟩

theorem numsBack_holds : Rows.NumsBackSaid :=
  OpenClaim.holds_of_wide 3 Try.f3 rfl rfl rfl rfl rfl rfl rfl ⟨rfl, rfl, rfl, rfl, rfl⟩ rfl rfl rfl rfl rfl (by kernel_rfl) Try.func3 (by kernel_rfl)
    (of_decide_eq_true (by kernel_rfl)) (by unfold Func.isWrapper; first | (rw [if_pos (by decide +kernel)]; kernel_rfl) | (rw [if_neg (by decide +kernel)]; exact ⟨rfl, rfl⟩))
    (fun os started H enc _ => back_lifted os started H enc)
#print axioms numsBack_holds
end Go.Proofs.Ytjleelpnkkeakaa
