/-
  How a sum goes on, in words of lists; a sum's cells written anew.
-/
import Derived.Test.YtkmjfaaelkmnkaaDoorSum
import Derived.Lib.Hide
namespace Go.Proofs.YtkmjfaaelkmnkaaDoor
open Go.RowKit
set_option linter.unusedSimpArgs false
set_option linter.unusedVariables false

def B' (B xs : List Nat) (r : Nat) : List Nat := B.take r ++ xs ++ B.drop (r + xs.length)
theorem B'_len (B xs : List Nat) (r : Nat) (hB : B.length = 64) (hx : r + xs.length ≤ 64) : (B' B xs r).length = 64 := by simp [B']; omega
theorem B'_lt (B xs : List Nat) (r : Nat) (hB : ∀ y ∈ B, y < 256) (hx : ∀ y ∈ xs, y < 256) : ∀ y ∈ B' B xs r, y < 256 := by
  intro y hy
  simp only [B', List.mem_append] at hy
  rcases hy with (hy | hy) | hy
  · exact hB y (List.mem_of_mem_take hy)
  · exact hx y hy
  · exact hB y (List.mem_of_mem_drop hy)
theorem B'_take (B L x : List Nat) (r : Nat) (hB : B.length = 64) (hr : L.length % 64 = r) (hx : r + x.length ≤ 64) (h : B.take r = L.drop (64 * (L.length / 64))) :
    (B' B x r).take (r + x.length) = (L ++ x).drop (64 * (L.length / 64)) := (block_step B L x r hB hr.symm hx h).2
theorem next_in (B L x : List Nat) (r : Nat) (hB : B.length = 64) (hr : L.length % 64 = r) (hx : r + x.length ≤ 64) (h : B.take r = L.drop (64 * (L.length / 64))) (hz : (L.length + x.length) % 64 ≠ 0) :
    run init (L ++ x) ((L ++ x).length / 64) = run init L (L.length / 64) ∧ (B' B x r).take ((L ++ x).length % 64) = (L ++ x).drop (64 * ((L ++ x).length / 64)) := by
  have e1 : (L ++ x).length / 64 = L.length / 64 := by rw [List.length_append]; omega
  have e2 : (L ++ x).length % 64 = r + x.length := by rw [List.length_append]; omega
  rw [e1, e2]
  exact ⟨run_append _ _ _ _ (by omega), B'_take B L x r hB hr hx h⟩
theorem next_full (B L x : List Nat) (r : Nat) (hB : B.length = 64) (hr : L.length % 64 = r) (hx : r + x.length ≤ 64) (hx0 : 0 < x.length) (h : B.take r = L.drop (64 * (L.length / 64))) (hz : (L.length + x.length) % 64 = 0) :
    run init (L ++ x) ((L ++ x).length / 64) = comp (run init L (L.length / 64)) (B' B x r) ∧ (B' B x r).take ((L ++ x).length % 64) = (L ++ x).drop (64 * ((L ++ x).length / 64)) := by
  have e1 : (L ++ x).length / 64 = L.length / 64 + 1 := by rw [List.length_append]; omega
  have e2 : (L ++ x).length % 64 = 0 := by rw [List.length_append]; exact hz
  have e3 : r + x.length = 64 := by omega
  have e4 := B'_take B L x r hB hr hx h
  rw [e3, List.take_of_length_le (by rw [B'_len B x r hB hx]; omega)] at e4
  rw [e1, e2]
  refine ⟨?_, ?_⟩
  · rw [run, run_append _ _ _ _ (by omega), ← e4, List.take_of_length_le (by rw [B'_len B x r hB hx]; omega)]
  · rw [List.take_zero, List.drop_of_length_le (by rw [List.length_append]; omega)]
theorem put_block (m : Bool) (N : Nat) (S B xs : List Nat) (r : Nat) (hS : S.length = 8) (hB : B.length = 64) (hx : r + xs.length ≤ 64) :
    put (sumC m N S B).toArray (10 + r) (bs xs) = (sumC m N S (B' B xs r)).toArray := by
  have h8 : (hs S).length = 8 := by rw [hs_len, hS]
  have hh : (Value.bool m :: Value.int .u64 (N : Nat) :: hs S).length = 10 := by simp [h8]
  have e : sumC m N S B = (Value.bool m :: Value.int .u64 (N : Nat) :: hs S) ++ bs B := rfl
  rw [put_list _ _ _ (by rw [sumC_len _ _ _ _ hS hB, bs_len]; omega), e, List.take_append, List.drop_append, hh, List.take_of_length_le (by rw [hh]; omega), List.drop_of_length_le (by rw [hh, bs_len]; omega), bs_len, bs_take', bs_drop']
  rw [show 10 + r - 10 = r by omega, show 10 + r + xs.length - 10 = r + xs.length by omega]
  simp [sumC, B', bs_append]
theorem put_nums (m : Bool) (N : Nat) (S S' B : List Nat) (hS : S.length = 8) (hS' : S'.length = 8) (hB : B.length = 64) :
    put (sumC m N S B).toArray 2 (hs S') = (sumC m N S' B).toArray := by
  have h8 : (hs S).length = 8 := by rw [hs_len, hS]
  have e : sumC m N S B = [Value.bool m, Value.int .u64 (N : Nat)] ++ (hs S ++ bs B) := rfl
  rw [put_list _ _ _ (by rw [sumC_len _ _ _ _ hS hB, hs_len]; omega), e, List.take_append, List.drop_append, hs_len, hS']
  simp [sumC, List.drop_append, h8]
theorem grown_of {w w' : World} {g : Option Nat} (h : Below w.heap.size w w') : w.grownBy w' g := ⟨h.os, h.tape, h.output, h.size, fun i hi _ => h.block i hi⟩
theorem Rd.grown {w w' : World} {g n : Nat} {A : Option Addr} {xs : List Value} (h : Rd w A n xs) (far : ∀ b o, A = some ⟨b, o, none⟩ → b ≠ g) (hg : w.grownBy w' (some g)) : Rd w' A n xs := by
  refine ⟨h.1, fun hp => ?_⟩
  obtain ⟨b, o, e, hb, hc⟩ := h.2 hp
  refine ⟨b, o, e, Nat.lt_of_lt_of_le hb hg.size, fun j u hj => ?_⟩
  have hbl := hg.block b hb (by simpa using far b o e)
  have := hc j u hj
  simpa [World.cell?, hbl] using this
section
variable {ops : Array Oper} {Q : Exit → Act → World → Prop} {rest : List Oper} {a : Act} {w : World} {d : Tmp} {ty : TypeId} {pos : String} {after : Array Edge} {x y : Operand}
theorem sliceS_run (b o n c t : Nat) (htn : t ≤ n) (hnc : n ≤ c) (hc : c ≤ 9223372036854775807) (htp : 0 < t) {ρ : Operand → Value} {dst : Option Tmp} {gd : Option (Nat × Bool)} (hx : ρ x = .slice (some ⟨b, o, none⟩) n c) (hy : ρ y = .int .i64 (t : Nat)) :
    (execOp ρ ⟨dst, .slice 22 x (some y) none none, ty, pos, after, gd⟩).run Tryd.prog w = .ok (.value (.slice (some ⟨b, if t < c then o + t else o, none⟩) (n - t) (c - t))) w := by
  have h1 : (t : Int) ≤ n := by omega
  have h2 : (n : Int) ≤ c := by omega
  have h3 : ((n : Int) - (t : Int)).toNat = n - t := by omega
  have h4 : ((c : Int) - (t : Int)).toNat = c - t := by omega
  by_cases hlt : t < c
  · have h5 : ¬ c = t := by omega
    have h6 : ¬ c ≤ t := by omega
    simp [execOp, hx, hy, go_sem, h1, h2, h3, h4, hlt, h5, h6]
  · obtain rfl : c = t := by omega
    obtain rfl : n = c := by omega
    simp [execOp, hx, hy, go_sem]
theorem law_sliceS (b o n c t : Nat) (htn : t ≤ n) (hnc : n ≤ c) (hc : c ≤ 9223372036854775807) (htp : 0 < t) (hx : a.eval x = .slice (some ⟨b, o, none⟩) n c) (hy : a.eval y = .int .i64 (t : Nat))
    (h : ∀ o', Hid (o' = if t < c then o + t else o) → wpList Tryd.prog ops Q rest (a.put (some d) (.slice (some ⟨b, o', none⟩) (n - t) (c - t))) w) : wpList Tryd.prog ops Q (⟨some d, .slice 22 x (some y) none none, ty, pos, after, none⟩ :: rest) a w :=
  law_value rfl (sliceS_run b o n c t htn hnc hc htp hx hy) (h _ (Lib.hid rfl))
end
end Go.Proofs.YtkmjfaaelkmnkaaDoor
