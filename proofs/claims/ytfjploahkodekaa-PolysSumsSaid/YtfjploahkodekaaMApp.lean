/-
  Lists of long numbers that a function appends to, in frames and blocks as lists.
-/
import Derived.Deep.AppendLies
import Derived.Test.YtfjploahkodekaaMRng
import Derived.Test.YtfjploahkodekaaMSxD
namespace Go.Proofs.Ytfjploahkodekaa
set_option maxRecDepth 100000
open Go.RowKit
set_option linter.unusedSimpArgs false
set_option linter.unusedVariables false

theorem Try.infoNum : (Try.prog.info? 24).map (fun i => (i.zero, i.size, i.bytes)) = some (some (num 0), 4, 32) := by kernel_rfl
/-- the cells of a list of numbers -/
def flat : List Nat → List Value
  | [] => []
  | X :: xs => .int .u64 (wd X 0 : Nat) :: .int .u64 (wd X 1 : Nat) :: .int .u64 (wd X 2 : Nat) :: .int .u64 (wd X 3 : Nat) :: flat xs
theorem flat_app : ∀ (xs ys : List Nat), flat (xs ++ ys) = flat xs ++ flat ys
  | [], _ => rfl
  | X :: xs, ys => by simp [flat, flat_app xs ys]
theorem flat_len : ∀ (xs : List Nat), (flat xs).length = xs.length * 4
  | [] => rfl
  | X :: xs => by simp [flat, flat_len xs]; omega
theorem flat_get : ∀ (xs : List Nat) (i : Nat) (h : i < xs.length) (k : Nat), k < 4 → (flat xs)[i * 4 + k]? = some (.int .u64 (wd xs[i] k : Nat))
  | X :: xs, 0, _, k, hk => by
    match k, hk with
    | 0, _ => rfl
    | 1, _ => rfl
    | 2, _ => rfl
    | 3, _ => rfl
  | X :: xs, i + 1, h, k, hk => by
    have := flat_get xs i (by simpa using h) k hk
    rw [show (i + 1) * 4 + k = (i * 4 + k) + 4 by omega]
    simpa [flat] using this
/-- a slice of numbers that lies in a row of its own, from base on -/
def NR (base : Nat) (w : World) (v : Value) (xs : List Nat) : Prop := w.ownsRow base 24 4 v xs.length (flat xs)
theorem NR.nil (base : Nat) (w : World) : NR base w (.slice none 0 0) [] := World.ownsRow_nil w base _ 4
theorem NR.on {base : Nat} {w w' : World} {v : Value} {xs : List Nat} (h : NR base w v xs) (hb : Below w.heap.size w w') : NR base w' v xs := by
  refine ⟨h.1, ?_⟩
  rcases h.2 with hn | ⟨g, cap, cur, rfl, hg, hc, rest⟩
  · exact .inl hn
  · exact .inr ⟨g, cap, cur, rfl, hg, (hb.block g (Array.getElem?_eq_some_iff.1 hc).1).trans hc, rest⟩
theorem NR.far {base : Nat} {w w' : World} {v : Value} {xs : List Nat} {row : Option Nat} (h : NR base w v xs) (hg : w.grownBy w' row) (hne : v.ownBlock = none ∨ v.ownBlock ≠ row) : NR base w' v xs := World.ownsRow.kept h hg hne
theorem NR.lt {base : Nat} {w : World} {v : Value} {xs : List Nat} (h : NR base w v xs) : ∀ k, v.ownBlock = some k → base ≤ k ∧ k < w.heap.size := World.ownsRow.lt h
/-- as a slice to be read -/
theorem NR.sl {base : Nat} {w : World} {v : Value} {xs : List Nat} (h : NR base w v xs) (hx : ∀ x ∈ xs, x < 2 ^ 256) : ∃ a cap, v = .slice a xs.length cap ∧ NSl w.heap.size w a cap xs := by
  rcases h.2 with ⟨rfl, h0⟩ | ⟨g, cap, cur, rfl, hg, hc, h1, h2, h3, h4⟩
  · obtain rfl := List.length_eq_zero_iff.1 h0
    exact ⟨none, 0, rfl, Nat.le_refl _, by decide, hx, Or.inl rfl⟩
  · refine ⟨some ⟨g, 0, none⟩, cap, rfl, h1, h2, hx, Or.inr ⟨g, 0, rfl, (Array.getElem?_eq_some_iff.1 hc).1, fun i hi k hk => ?_⟩⟩
    have hf := flat_get xs i hi k hk
    rw [← h4, List.getElem?_take] at hf
    split at hf
    · rw [Nat.zero_add, cell_of_row w g (i * 4 + k) cur 24 (0, 0) hc]
      simpa using hf
    · cases hf
section
variable {ops : Array Oper} {Q : Exit → Act → World → Prop} {a : Act} {n0 : Nat} {w w0 : World} {rest : List Oper} {o : Oper} {N : Nat} {L : List (Nat × Value)} {df : List Deferred} {M : List (Nat × TypeId × Array Value)}
/-- a number is appended -/
theorem lx_append {base d g X : Nat} {v : Value} {xs : List Nat} {s x : Operand} (F : Fr a N L df) (hgd : o.guard = none) (ho : o.op = .call { callee := .builtin .append, args := #[s, x], argTypes := #[27, 27] }) (hdst : o.dst = some d) (hd : Nat.blt d N = true)
    (hv : NR base w v xs) (hs : a.eval s = v) (hx : a.eval x = .slice (some ⟨g, 0, none⟩) 1 1) (hg : At w g 24 (rows1 X)) (hn : xs.length < 1000) (hb : base ≤ w.heap.size)
    (h : ∀ a' w' v', Fr a' N ((d, v') :: L) df → NR base w' v' (xs ++ [X]) → w.grownBy w' v.ownBlock → (v'.ownBlock = v.ownBlock ∨ v'.ownBlock = some w.heap.size) → (∃ b cap, v' = .slice (some b) (xs.length + 1) cap) → wpList Try.prog ops Q rest a' w') : wpList Try.prog ops Q (o :: rest) a w := by
  unfold wpList
  rw [if_pos (wanted_none hgd _)]
  left
  obtain ⟨i0, hi, hz0, hz1, hz2⟩ := info_parts Try.infoNum
  have H := step_append_lies (P := Try.prog) (w := w) (ops := ops) (o := o) (a := a) (K := wpList Try.prog ops Q rest) (Q := Q) (E := True) hgd s x 27 ho base 24 i0 (num 0) 4 32 Try.underlying27 hi hz0 hz1 hz2 rfl (by decide)
    v xs.length (flat xs) hs hv ⟨g, 0, none⟩ 1 1 (flat [X]) hx rfl (World.news_of_block hg) (fun u hu => by
      simp only [flat, List.mem_cons, List.not_mem_nil, or_false] at hu
      rcases hu with rfl | rfl | rfl | rfl <;> rfl) (by decide) (by unfold maxLen; omega) (by omega) hb w.heap.size rfl (fun g' cap w' h1 h2 h3 _ => by
      rw [hdst]
      refine h _ w' _ (F.put _ hd) ?_ h2 ?_ ⟨_, _, rfl⟩
      · unfold NR
        rw [flat_app, List.length_append]
        exact h1
      · rcases h3 with h3 | rfl
        · exact Or.inl h3.symm
        · exact Or.inr rfl)
  rw [if_pos (wanted_none hgd _)] at H
  exact H
/-- blocks of one's own stay, where a row behind them grows -/
theorem Mem.row {base : Nat} {w' : World} {v : Value} {xs : List Nat} (H : Mem n0 w0 w M) (hv : NR base w v xs) (hg : w.grownBy w' v.ownBlock) (hM : ∀ x ∈ M, x.1 < base) (hb : n0 ≤ base) : Mem n0 w0 w' M := by
  refine ⟨H.le, H.bel.grown hg (Nat.le_trans H.le H.bel.size) (fun r e => Nat.le_trans hb (hv.lt r e).1), H.oth.trans (KeepsOthers.of_grownBy hg fun j o hj ho => ?_), fun x hx => ?_, H.own, H.nd⟩
  · rcases hv.2 with ⟨rfl, _⟩ | ⟨g, cap, cur, rfl, _, hc, _⟩
    · cases hj
    · cases hj; rw [hc] at ho; cases ho; rfl
  · have h := H.at_ x hx
    exact (hg.block x.1 h.lt (fun e => by have := (hv.lt x.1 e.symm).1; have := hM x hx; omega)).trans h
end
end Go.Proofs.Ytfjploahkodekaa
