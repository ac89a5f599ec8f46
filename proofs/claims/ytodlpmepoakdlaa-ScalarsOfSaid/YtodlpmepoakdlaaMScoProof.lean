/-
 How an argument api.Group is opened.
-/
import Derived.Test.YtodlpmepoakdlaaMAdd
import Derived.Test.YtodlpmepoakdlaaMSc
import Derived.Test.YtodlpmepoakdlaaMSco
import Derived.Test.YtodlpmepoakdlaaMSx
import Derived.Test.YtodlpmepoakdlaaMTree
namespace Go.Proofs.Ytodlpmepoakdlaa
set_option maxRecDepth 100000
set_option linter.unusedSimpArgs false
set_option linter.unusedVariables false
open Go.RowKit Go.WideShapes Go.ChangeShapes Go.ChangeAt

theorem Try.cellsArr2 : Try.prog.cellsOf 36 = 8 := by kernel_rfl
theorem Try.cellsG : Try.prog.cellsOf 35 = 16 := by kernel_rfl
section
variable {H : Type} {enc : TypeId × Value → H} {w : World} {held : Bool}
/-- a group -/
theorem open_group {base : Nat} {v : Value} {d : DataW H} {p : List MemPlace} (hv : Value.okWide Try.prog w .any base 35 v) (h : DataW.Trod enc Try.prog w 0 (fun _ => true) held 35 v d p) :
  ∃ P Q G H' : Nat, v = grp P Q G H' ∧ P < 2 ^ 256 ∧ Q < 2 ^ 256 ∧ G < 2 ^ 256 ∧ H' < 2 ^ 256 := by
 obtain ⟨cs, rfl, hsz⟩ : ∃ cs, v = .agg cs ∧ cs.size = Try.prog.cellsOf 35 := by
  simp only [Value.okWide, Try.underlying35] at hv
  obtain ⟨cs, h1, h2, _⟩ := hv
  exact ⟨cs, h1, h2⟩
 obtain ⟨fuel, hf⟩ := h
 obtain ⟨xs, m, hm, _, hl, hlen, hf⟩ := DataW.trod_struct Try.underlying35 hf
 rw [Try.cellsG] at hsz
 obtain ⟨cs⟩ := cs
 match cs, hsz with
 | [c0, c1, c2, c3, c4, c5, c6, c7, c8, c9, c10, c11, c12, c13, c14, c15], _ =>
  match xs, hlen with
  | [y0, y1, y2, y3], _ =>
   simp only [Value.cells] at hf
   have h0 : DataW.trod enc Try.prog w 0 (fun _ => true) held m 24 [c0, c1, c2, c3] = some y0 := by simpa [Try.cells24] using hf 0 _ rfl
   have h1 : DataW.trod enc Try.prog w 0 (fun _ => true) held m 24 [c4, c5, c6, c7] = some y1 := by simpa [Try.cells24] using hf 1 _ rfl
   have h2 : DataW.trod enc Try.prog w 0 (fun _ => true) held m 24 [c8, c9, c10, c11] = some y2 := by simpa [Try.cells24] using hf 2 _ rfl
   have h3 : DataW.trod enc Try.prog w 0 (fun _ => true) held m 24 [c12, c13, c14, c15] = some y3 := by simpa [Try.cells24] using hf 3 _ rfl
   obtain ⟨P, hP, rfl, rfl, rfl, rfl⟩ := open_four h0
   obtain ⟨Q, hQ, rfl, rfl, rfl, rfl⟩ := open_four h1
   obtain ⟨G, hG, rfl, rfl, rfl, rfl⟩ := open_four h2
   obtain ⟨K, hK, rfl, rfl, rfl, rfl⟩ := open_four h3
   exact ⟨P, Q, G, K, rfl, hP, hQ, hG, hK⟩
theorem open_arr2 {base : Nat} {v : Value} {d : DataW H} {p : List MemPlace} (hv : Value.okWide Try.prog w .any base 36 v) (h : DataW.Trod enc Try.prog w 0 (fun _ => true) held 36 v d p) :
  ∃ X Y : Nat, X < 2 ^ 256 ∧ Y < 2 ^ 256 ∧ v = .agg #[.int .u64 (wd X 0 : Nat), .int .u64 (wd X 1 : Nat), .int .u64 (wd X 2 : Nat), .int .u64 (wd X 3 : Nat), .int .u64 (wd Y 0 : Nat), .int .u64 (wd Y 1 : Nat), .int .u64 (wd Y 2 : Nat), .int .u64 (wd Y 3 : Nat)] := by
 obtain ⟨cs, rfl, hsz⟩ := okWide_arr Try.underlying36 hv
 obtain ⟨fuel, hf⟩ := h
 obtain ⟨xs, m, rfl, hx, hl, hn, he⟩ := DataW.trod_array Try.underlying36 hf
 rw [Try.cellsArr2] at hsz
 rw [Try.cells24] at he
 match xs, hn with
 | [x0, x1], _ =>
  have e0 := he 0 (by omega)
  have e1 := he 1 (by omega)
  obtain ⟨cs⟩ := cs
  match cs, hsz with
  | [c0, c1, c2, c3, c4, c5, c6, c7], _ =>
   simp [Value.cells] at e0 e1
   obtain ⟨X, hX, rfl, rfl, rfl, rfl⟩ := open_four e0
   obtain ⟨Y, hY, rfl, rfl, rfl, rfl⟩ := open_four e1
   exact ⟨X, Y, hX, hY, rfl⟩
end
end Go.Proofs.Ytodlpmepoakdlaa

/-
 How an argument [4]api.Num is opened; whole numbers.
-/
namespace Go.Proofs.Ytodlpmepoakdlaa
set_option maxRecDepth 100000
set_option linter.unusedSimpArgs false
set_option linter.unusedVariables false
open Go.RowKit Go.WideShapes Go.ChangeShapes Go.ChangeAt

section
variable {H : Type} {enc : TypeId × Value → H} {w : World} {held : Bool}
end
end Go.Proofs.Ytodlpmepoakdlaa

/-
 ScalarsOf, for every input: it answers true, and its arguments read as they did. No condition.
-/
namespace Go.Proofs.Ytodlpmepoakdlaa
set_option maxRecDepth 100000
set_option linter.unusedSimpArgs false
set_option linter.unusedVariables false
open Go.ChangeShapes Go.WideShapes Go.ChangeAt Go.RowKit

theorem scalarsOf_lifted (os : Os) (started : os.Started) (H : Type) (enc : TypeId × Value → H) :
  ReturnsInHanded {} Try.checked os 4 .any (Rows.scalarsOfSpec.pre6 enc Try.prog Try.f4 Rows.scalarsOfRow.domain false) (Rows.scalarsOfSpec.post enc Try.prog Try.f4 false true false false) := by
 refine returnsInHanded_of_change (C := Try.checked) own started (by kernel_rfl) Try.func4
  (ChangeSpec.witness6 (enc := enc) (C := Try.checked) false ⟨#[], #[.agg #[.int .u64 0, .int .u64 0, .int .u64 0, .int .u64 0, .int .u64 0, .int .u64 0, .int .u64 0, .int .u64 0, .int .u64 0, .int .u64 0, .int .u64 0, .int .u64 0, .int .u64 0, .int .u64 0, .int .u64 0, .int .u64 0], .agg #[.int .u64 0, .int .u64 0, .int .u64 0, .int .u64 0, .int .u64 0, .int .u64 0, .int .u64 0, .int .u64 0], .int .i64 0], []⟩ 8 (by kernel_rfl) (by kernel_rfl) (by kernel_rfl) (by kernel_rfl)) ?_
 intro W base args ds gs before hval0 hW hcnd _
 have hval : ∀ (j : Nat) t v, Try.f4.params[j]? = some t → args[j]? = some v → Value.okWide Try.prog W .any base t v := hval0
 have hW' := hW
 obtain ⟨p, q, hA0, hV, rfl, hfz, hnd⟩ := hW
 have hA : DataW.TrodAll enc Try.prog W 0 (fun _ => true) true Try.f4.params.toList args.toList ds p := hA0
 rw [Try.params4] at hA hval
 obtain ⟨v0, v1, v2, d0, d1, d2, p0, p1, p2, rfl, rfl, rfl, h0, h1, h2⟩ := trodAll_three hA
 obtain ⟨rfl, rfl⟩ := trodVars_none hV
 have t0 := h0
 have lt0 : ∀ x ∈ p0, x.block < W.heap.size := by obtain ⟨m, hm⟩ := t0; exact DataW.trod_lt m _ _ _ hm
 obtain ⟨P0, Q0, G0, H0, rfl, hP0, hQ0, hG0, hH0⟩ := open_group (hval 0 35 v0 rfl rfl) h0
 have t1 := h1
 have lt1 : ∀ x ∈ p1, x.block < W.heap.size := by obtain ⟨m, hm⟩ := t1; exact DataW.trod_lt m _ _ _ hm
 obtain ⟨X1, Y1, hX1, hY1, rfl⟩ := open_arr2 (hval 1 36 v1 rfl rfl) h1
 obtain ⟨a2, rfl, rfl, rfl, w2⟩ := open_int Try.underlying2 (hval 2 2 v2 rfl rfl) h2
 have bd2 := bounds_i64 w2
 clear hA0 hval0
 refine (sco_walk P0 Q0 G0 H0 X1 Y1 a2 hQ0 hX1 hY1 (by omega) (by omega) W).mono fun e W' ⟨he, bel⟩ => ?_
 subst he
 exact ⟨_, rfl, _, _, _, [], _, [], hW', trodAll_mk1 (shut_bool Try.underlying4 _), (trodAll_cons_mk (Below.trod laidOut (by kernel_rfl) (of_decide_eq_true (by kernel_rfl)) t0 bel lt0) (trodAll_cons_mk (Below.trod laidOut (by kernel_rfl) (of_decide_eq_true (by kernel_rfl)) t1 bel lt1) (trodAll_cons_mk (shut_int Try.underlying2 w2) trodAll_mk0))), rfl, bel.frame _, fun h => by cases h⟩

theorem scalarsOf_holds : Rows.ScalarsOfSaid :=
 OpenClaim.holds_of_wide 4 Try.f4 rfl rfl rfl rfl rfl rfl rfl ⟨rfl, rfl, rfl, rfl, rfl⟩ rfl rfl rfl rfl rfl (by kernel_rfl) Try.func4 (by kernel_rfl)
  (of_decide_eq_true (by kernel_rfl)) (by unfold Func.isWrapper; first | (rw [if_pos (by decide +kernel)]; kernel_rfl) | (rw [if_neg (by decide +kernel)]; exact ⟨rfl, rfl⟩))
  (fun os started H enc _ => scalarsOf_lifted os started H enc)
#print axioms scalarsOf_holds
end Go.Proofs.Ytodlpmepoakdlaa
