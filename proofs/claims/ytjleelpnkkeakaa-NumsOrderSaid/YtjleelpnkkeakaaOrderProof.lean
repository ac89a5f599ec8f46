/-
  NumsOrder, for every input: it answers true, and its arguments read as they did. No condition.
-/
import Derived.Test.YtjleelpnkkeakaaOpen
import Derived.Test.YtjleelpnkkeakaaOrder
namespace Go.Proofs.Ytjleelpnkkeakaa
open Go.ChangeShapes Go.WideShapes Go.ChangeAt Go.RowKit

theorem Try.cells45 : Try.prog.cellsOf 45 = 8 := by kernel_rfl
theorem Try.cells24 : Try.prog.cellsOf 24 = 4 := by kernel_rfl
theorem Try.cells22 : Try.prog.cellsOf 22 = 1 := by kernel_rfl

section
variable {H : Type} {enc : TypeId × Value → H} {w : World} {held : Bool}

theorem open_word {fuel : Nat} {c : Value} {x : DataW H × List MemPlace} (h : DataW.trod enc Try.prog w 0 (fun _ => true) held fuel 22 [c] = some x) :
    ∃ n : Nat, c = .int .u64 (n : Int) ∧ n < 18446744073709551616 := by
  obtain ⟨n, e, _, hw⟩ := DataW.trod_int Try.underlying22 h
  have bd := bounds_u64 hw
  simp at e
  exact ⟨n.toNat, by rw [e, Int.toNat_of_nonneg bd.1], by omega⟩

theorem open_four {fuel : Nat} {c0 c1 c2 c3 : Value} {x : DataW H × List MemPlace} (h : DataW.trod enc Try.prog w 0 (fun _ => true) held fuel 24 [c0, c1, c2, c3] = some x) :
    ∃ a b p q : Nat, c0 = .int .u64 (a : Int) ∧ c1 = .int .u64 (b : Int) ∧ c2 = .int .u64 (p : Int) ∧ c3 = .int .u64 (q : Int) ∧
      a < 18446744073709551616 ∧ b < 18446744073709551616 ∧ p < 18446744073709551616 ∧ q < 18446744073709551616 := by
  obtain ⟨xs, m, rfl, hx, hl, hn, he⟩ := DataW.trod_array Try.underlying24 h
  rw [Try.cells22] at he
  match xs, hn with
  | [x0, x1, x2, x3], _ =>
    have e0 := he 0 (by omega)
    have e1 := he 1 (by omega)
    have e2 := he 2 (by omega)
    have e3 := he 3 (by omega)
    simp at e0 e1 e2 e3
    obtain ⟨a, ha, wa⟩ := open_word e0
    obtain ⟨b, hb, wb⟩ := open_word e1
    obtain ⟨p, hp, wp⟩ := open_word e2
    obtain ⟨q, hq, wq⟩ := open_word e3
    exact ⟨a, b, p, q, ha, hb, hp, hq, wa, wb, wp, wq⟩

theorem open_pair {base : Nat} {v : Value} {d : DataW H} {p : List MemPlace} (hv : Value.okWide Try.prog w .any base 45 v) (h : DataW.Trod enc Try.prog w 0 (fun _ => true) held 45 v d p) :
    ∃ a0 a1 a2 a3 b0 b1 b2 b3 : Nat, v = .agg #[.int .u64 a0, .int .u64 a1, .int .u64 a2, .int .u64 a3, .int .u64 b0, .int .u64 b1, .int .u64 b2, .int .u64 b3] ∧
      (a0 < 18446744073709551616 ∧ a1 < 18446744073709551616 ∧ a2 < 18446744073709551616 ∧ a3 < 18446744073709551616) ∧
      (b0 < 18446744073709551616 ∧ b1 < 18446744073709551616 ∧ b2 < 18446744073709551616 ∧ b3 < 18446744073709551616) := by
  obtain ⟨cs, rfl, hsz⟩ := okWide_arr Try.underlying45 hv
  obtain ⟨fuel, hf⟩ := h
  obtain ⟨xs, m, rfl, hx, hl, hn, he⟩ := DataW.trod_array Try.underlying45 hf
  rw [Try.cells45] at hsz
  rw [Try.cells24] at he
  match xs, hn with
  | [x0, x1], _ =>
    have e0 := he 0 (by omega)
    have e1 := he 1 (by omega)
    obtain ⟨cs⟩ := cs
    match cs, hsz with
    | [c0, c1, c2, c3, c4, c5, c6, c7], _ =>
      simp [Value.cells] at e0 e1
      obtain ⟨a0, a1, a2, a3, rfl, rfl, rfl, rfl, wa⟩ := open_four e0
      obtain ⟨b0, b1, b2, b3, rfl, rfl, rfl, rfl, wb⟩ := open_four e1
      exact ⟨a0, a1, a2, a3, b0, b1, b2, b3, rfl, wa, wb⟩
end

set_option maxRecDepth 100000 in
theorem order_lifted (os : Os) (started : os.Started) (H : Type) (enc : TypeId × Value → H) :
    ReturnsInHanded {} Try.checked os 5 .any (Rows.numsOrderSpec.pre6 enc Try.prog Try.f5 Rows.numsOrderRow.domain false) (Rows.numsOrderSpec.post enc Try.prog Try.f5 false true false false) := by
  refine returnsInHanded_of_change (C := Try.checked) own started (by kernel_rfl) Try.func5
    (ChangeSpec.witness6 (enc := enc) (C := Try.checked) false ⟨#[], #[.int .u64 0, .int .u64 0, .agg #[.int .u64 0, .int .u64 0, .int .u64 0, .int .u64 0, .int .u64 0, .int .u64 0, .int .u64 0, .int .u64 0]], []⟩ 8 (by kernel_rfl) (by kernel_rfl) (by kernel_rfl) (by kernel_rfl)) ?_
  intro W base args ds gs before hval0 hW hcnd _
  have hval : ∀ (j : Nat) t v, Try.f5.params[j]? = some t → args[j]? = some v → Value.okWide Try.prog W .any base t v := hval0
  have hW' := hW
  obtain ⟨p, q, hA0, hV, rfl, hfz, hnd⟩ := hW
  have hA : DataW.TrodAll enc Try.prog W 0 (fun _ => true) true Try.f5.params.toList args.toList ds p := hA0
  rw [Try.params5] at hA hval
  obtain ⟨v0, v1, v2, d0, d1, d2, p0, p1, p2, rfl, rfl, rfl, h0, h1, h2⟩ := trodAll_three hA
  obtain ⟨rfl, rfl⟩ := trodVars_none hV
  have t2 := h2
  have lt2 : ∀ x ∈ p2, x.block < W.heap.size := by obtain ⟨m, hm⟩ := t2; exact DataW.trod_lt m _ _ _ hm
  obtain ⟨a0, a1, a2, a3, b0, b1, b2, b3, rfl, wa, wb⟩ := open_pair (hval 2 45 v2 rfl rfl) h2
  obtain ⟨m0, rfl, rfl, rfl, w0⟩ := open_int Try.underlying22 (hval 0 22 v0 rfl rfl) h0
  obtain ⟨m1, rfl, rfl, rfl, w1⟩ := open_int Try.underlying22 (hval 1 22 v1 rfl rfl) h1
  have bd0 := bounds_u64 w0
  have bd1 := bounds_u64 w1
  obtain ⟨m, rfl⟩ : ∃ m : Nat, m0 = m := ⟨m0.toNat, by omega⟩
  obtain ⟨n, rfl⟩ : ∃ n : Nat, m1 = n := ⟨m1.toNat, by omega⟩
  clear hA0 hval0
  refine (order_walk m n a0 a1 a2 a3 b0 b1 b2 b3 W (by omega) (by omega) wa.1 wa.2.1 wa.2.2.1 wa.2.2.2 wb.1 wb.2.1 wb.2.2.1 wb.2.2.2).mono fun e W' ⟨he, bel⟩ => ?_
  subst he
  exact ⟨_, rfl, _, _, _, [], _, [], hW', trodAll_mk1 (shut_bool Try.underlying4 _), (trodAll_cons_mk (shut_int Try.underlying22 w0) (trodAll_cons_mk (shut_int Try.underlying22 w1) (trodAll_cons_mk (Below.trod laidOut (by kernel_rfl) (of_decide_eq_true (by kernel_rfl)) t2 bel lt2) trodAll_mk0))), rfl, bel.frame _, fun h => by cases h⟩

theorem numsOrder_holds : Rows.NumsOrderSaid :=
  OpenClaim.holds_of_wide 5 Try.f5 rfl rfl rfl rfl rfl rfl rfl ⟨rfl, rfl, rfl, rfl, rfl⟩ rfl rfl rfl rfl rfl (by kernel_rfl) Try.func5 (by kernel_rfl)
    (of_decide_eq_true (by kernel_rfl)) (by unfold Func.isWrapper; first | (rw [if_pos (by decide +kernel)]; kernel_rfl) | (rw [if_neg (by decide +kernel)]; exact ⟨rfl, rfl⟩))
    (fun os started H enc _ => order_lifted os started H enc)
#print axioms numsOrder_holds
end Go.Proofs.Ytjleelpnkkeakaa
