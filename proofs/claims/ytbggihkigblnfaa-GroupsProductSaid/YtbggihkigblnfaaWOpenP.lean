/-
 How an argument api.Group is opened.
-/
import Derived.Deep.AppendLies
import Derived.Test.YtbggihkigblnfaaWAdd
import Derived.Test.YtbggihkigblnfaaWAlive8
import Derived.Test.YtbggihkigblnfaaWRng
import Derived.Test.YtbggihkigblnfaaWSxR
import Derived.Test.YtbggihkigblnfaaWTree
namespace Go.Proofs.Ytbggihkigblnfaa
set_option maxRecDepth 100000
set_option linter.unusedSimpArgs false
set_option linter.unusedVariables false
open Go.RowKit Go.WideShapes Go.ChangeShapes Go.ChangeAt

theorem Try.cellsArr2 : Try.prog.cellsOf 42 = 8 := by kernel_rfl
theorem Try.cellsG : Try.prog.cellsOf 35 = 16 := by kernel_rfl
section
variable {H : Type} {enc : TypeId × Value → H} {w : World} {held : Bool}
/-- a group -/
theorem open_group {base : Nat} {v : Value} {d : DataW H} {p : List MemPlace} (hv : Value.okWide Try.prog w .any base 35 v) (h : DataW.Trod enc Try.prog w 0 (fun _ => true) held 35 v d p) :
  ∃ P Q G H' : Nat, v = grp P Q G H' ∧ P < 2 ^ 256 ∧ Q < 2 ^ 256 ∧ G < 2 ^ 256 ∧ H' < 2 ^ 256 := by
 obtain ⟨cs, rfl, hsz⟩ : ∃ cs, v = .agg cs ∧ cs.size = Try.prog.cellsOf 35 := by
  simp only [Value.okWide, Try.underlying35] at hv
  obtain ⟨cs, h1, h2, _⟩ := hv
  exact ⟨cs, h1, h2⟩
 obtain ⟨fuel, hf⟩ := h
 obtain ⟨xs, m, hm, _, hl, hlen, hf⟩ := DataW.trod_struct Try.underlying35 hf
 rw [Try.cellsG] at hsz
 obtain ⟨cs⟩ := cs
 match cs, hsz with
 | [c0, c1, c2, c3, c4, c5, c6, c7, c8, c9, c10, c11, c12, c13, c14, c15], _ =>
  match xs, hlen with
  | [y0, y1, y2, y3], _ =>
   simp only [Value.cells] at hf
   have h0 : DataW.trod enc Try.prog w 0 (fun _ => true) held m 24 [c0, c1, c2, c3] = some y0 := by simpa [Try.cells24] using hf 0 _ rfl
   have h1 : DataW.trod enc Try.prog w 0 (fun _ => true) held m 24 [c4, c5, c6, c7] = some y1 := by simpa [Try.cells24] using hf 1 _ rfl
   have h2 : DataW.trod enc Try.prog w 0 (fun _ => true) held m 24 [c8, c9, c10, c11] = some y2 := by simpa [Try.cells24] using hf 2 _ rfl
   have h3 : DataW.trod enc Try.prog w 0 (fun _ => true) held m 24 [c12, c13, c14, c15] = some y3 := by simpa [Try.cells24] using hf 3 _ rfl
   obtain ⟨P, hP, rfl, rfl, rfl, rfl⟩ := open_four h0
   obtain ⟨Q, hQ, rfl, rfl, rfl, rfl⟩ := open_four h1
   obtain ⟨G, hG, rfl, rfl, rfl, rfl⟩ := open_four h2
   obtain ⟨K, hK, rfl, rfl, rfl, rfl⟩ := open_four h3
   exact ⟨P, Q, G, K, rfl, hP, hQ, hG, hK⟩
theorem open_arr2 {base : Nat} {v : Value} {d : DataW H} {p : List MemPlace} (hv : Value.okWide Try.prog w .any base 42 v) (h : DataW.Trod enc Try.prog w 0 (fun _ => true) held 42 v d p) :
  ∃ X Y : Nat, X < 2 ^ 256 ∧ Y < 2 ^ 256 ∧ v = .agg #[.int .u64 (wd X 0 : Nat), .int .u64 (wd X 1 : Nat), .int .u64 (wd X 2 : Nat), .int .u64 (wd X 3 : Nat), .int .u64 (wd Y 0 : Nat), .int .u64 (wd Y 1 : Nat), .int .u64 (wd Y 2 : Nat), .int .u64 (wd Y 3 : Nat)] := by
 obtain ⟨cs, rfl, hsz⟩ := okWide_arr Try.underlying42 hv
 obtain ⟨fuel, hf⟩ := h
 obtain ⟨xs, m, rfl, hx, hl, hn, he⟩ := DataW.trod_array Try.underlying42 hf
 rw [Try.cellsArr2] at hsz
 rw [Try.cells24] at he
 match xs, hn with
 | [x0, x1], _ =>
  have e0 := he 0 (by omega)
  have e1 := he 1 (by omega)
  obtain ⟨cs⟩ := cs
  match cs, hsz with
  | [c0, c1, c2, c3, c4, c5, c6, c7], _ =>
   simp [Value.cells] at e0 e1
   obtain ⟨X, hX, rfl, rfl, rfl, rfl⟩ := open_four e0
   obtain ⟨Y, hY, rfl, rfl, rfl, rfl⟩ := open_four e1
   exact ⟨X, Y, hX, hY, rfl⟩
end
end Go.Proofs.Ytbggihkigblnfaa

/-
 Lists of long numbers that a function appends to, in frames and blocks as lists.
-/
namespace Go.Proofs.Ytbggihkigblnfaa
set_option maxRecDepth 100000
open Go.RowKit
set_option linter.unusedSimpArgs false
set_option linter.unusedVariables false

theorem Try.infoNum : (Try.prog.info? 24).map (fun i => (i.zero, i.size, i.bytes)) = some (some (num 0), 4, 32) := by kernel_rfl
/-- the cells of a list of numbers -/
def flat : List Nat → List Value
 | [] => []
 | X :: xs => .int .u64 (wd X 0 : Nat) :: .int .u64 (wd X 1 : Nat) :: .int .u64 (wd X 2 : Nat) :: .int .u64 (wd X 3 : Nat) :: flat xs
theorem flat_app : ∀ (xs ys : List Nat), flat (xs ++ ys) = flat xs ++ flat ys
 | [], _ => rfl
 | X :: xs, ys => by simp [flat, flat_app xs ys]
theorem flat_len : ∀ (xs : List Nat), (flat xs).length = xs.length * 4
 | [] => rfl
 | X :: xs => by simp [flat, flat_len xs]; omega
theorem flat_get : ∀ (xs : List Nat) (i : Nat) (h : i < xs.length) (k : Nat), k < 4 → (flat xs)[i * 4 + k]? = some (.int .u64 (wd xs[i] k : Nat))
 | X :: xs, 0, _, k, hk => by
  match k, hk with
  | 0, _ => rfl
  | 1, _ => rfl
  | 2, _ => rfl
  | 3, _ => rfl
 | X :: xs, i + 1, h, k, hk => by
  have := flat_get xs i (by simpa using h) k hk
  rw [show (i + 1) * 4 + k = (i * 4 + k) + 4 by omega]
  simpa [flat] using this
/-- a slice of numbers that lies in a row of its own, from base on -/
def NR (base : Nat) (w : World) (v : Value) (xs : List Nat) : Prop := w.ownsRow base 24 4 v xs.length (flat xs)
theorem NR.nil (base : Nat) (w : World) : NR base w (.slice none 0 0) [] := World.ownsRow_nil w base _ 4
theorem NR.on {base : Nat} {w w' : World} {v : Value} {xs : List Nat} (h : NR base w v xs) (hb : Below w.heap.size w w') : NR base w' v xs := by
 refine ⟨h.1, ?_⟩
 rcases h.2 with hn | ⟨g, cap, cur, rfl, hg, hc, rest⟩
 ·exact .inl hn
 ·exact .inr ⟨g, cap, cur, rfl, hg, (hb.block g (Array.getElem?_eq_some_iff.1 hc).1).trans hc, rest⟩
theorem NR.far {base : Nat} {w w' : World} {v : Value} {xs : List Nat} {row : Option Nat} (h : NR base w v xs) (hg : w.grownBy w' row) (hne : v.ownBlock = none ∨ v.ownBlock ≠ row) : NR base w' v xs := World.ownsRow.kept h hg hne
theorem NR.lt {base : Nat} {w : World} {v : Value} {xs : List Nat} (h : NR base w v xs) : ∀ k, v.ownBlock = some k → base ≤ k ∧ k < w.heap.size := World.ownsRow.lt h
/-- as a slice to be read -/
theorem NR.sl {base : Nat} {w : World} {v : Value} {xs : List Nat} (h : NR base w v xs) (hx : ∀ x ∈ xs, x < 2 ^ 256) : ∃ a cap, v = .slice a xs.length cap ∧ NSl w.heap.size w a cap xs := by
 rcases h.2 with ⟨rfl, h0⟩ | ⟨g, cap, cur, rfl, hg, hc, h1, h2, h3, h4⟩
 ·obtain rfl := List.length_eq_zero_iff.1 h0
  exact ⟨none, 0, rfl, Nat.le_refl _, by decide, hx, Or.inl rfl⟩
 ·refine ⟨some ⟨g, 0, none⟩, cap, rfl, h1, h2, hx, Or.inr ⟨g, 0, rfl, (Array.getElem?_eq_some_iff.1 hc).1, fun i hi k hk => ?_⟩⟩
  have hf := flat_get xs i hi k hk
  rw [← h4, List.getElem?_take] at hf
  split at hf
  ·rw [Nat.zero_add, cell_of_row w g (i * 4 + k) cur 24 (0, 0) hc]
   simpa using hf
  ·cases hf
section
variable {ops : Array Oper} {Q : Exit → Act → World → Prop} {a : Act} {n0 : Nat} {w w0 : World} {rest : List Oper} {o : Oper} {N : Nat} {L : List (Nat × Value)} {df : List Deferred} {M : List (Nat × TypeId × Array Value)}
/-- a number is appended -/
theorem lx_append {base d g X : Nat} {v : Value} {xs : List Nat} {s x : Operand} (F : Fr a N L df) (hgd : o.guard = none) (ho : o.op = .call { callee := .builtin .append, args := #[s, x], argTypes := #[53, 53] }) (hdst : o.dst = some d) (hd : Nat.blt d N = true)
  (hv : NR base w v xs) (hs : a.eval s = v) (hx : a.eval x = .slice (some ⟨g, 0, none⟩) 1 1) (hg : At w g 24 (rows1 X)) (hn : xs.length < 1000) (hb : base ≤ w.heap.size)
  (h : ∀ a' w' v', Fr a' N ((d, v') :: L) df → NR base w' v' (xs ++ [X]) → w.grownBy w' v.ownBlock → (v'.ownBlock = v.ownBlock ∨ v'.ownBlock = some w.heap.size) → (∃ b cap, v' = .slice (some b) (xs.length + 1) cap) → wpList Try.prog ops Q rest a' w') : wpList Try.prog ops Q (o :: rest) a w := by
 unfold wpList
 rw [if_pos (wanted_none hgd _)]
 left
 obtain ⟨i0, hi, hz0, hz1, hz2⟩ := info_parts Try.infoNum
 have H := step_append_lies (P := Try.prog) (w := w) (ops := ops) (o := o) (a := a) (K := wpList Try.prog ops Q rest) (Q := Q) (E := True) hgd s x 53 ho base 24 i0 (num 0) 4 32 Try.underlying53 hi hz0 hz1 hz2 rfl (by decide)
  v xs.length (flat xs) hs hv ⟨g, 0, none⟩ 1 1 (flat [X]) hx rfl (World.news_of_block hg) (fun u hu => by
   simp only [flat, List.mem_cons, List.not_mem_nil, or_false] at hu
   rcases hu with rfl | rfl | rfl | rfl <;> rfl) (by decide) (by unfold maxLen; omega) (by omega) hb w.heap.size rfl (fun g' cap w' h1 h2 h3 _ => by
   rw [hdst]
   refine h _ w' _ (F.put _ hd) ?_ h2 ?_ ⟨_, _, rfl⟩
   ·unfold NR
    rw [flat_app, List.length_append]
    exact h1
   ·rcases h3 with h3 | rfl
    ·exact Or.inl h3.symm
    ·exact Or.inr rfl)
 rw [if_pos (wanted_none hgd _)] at H
 exact H
/-- blocks of one's own stay, where a row behind them grows -/
theorem Mem.row {base : Nat} {w' : World} {v : Value} {xs : List Nat} (H : Mem n0 w0 w M) (hv : NR base w v xs) (hg : w.grownBy w' v.ownBlock) (hM : ∀ x ∈ M, x.1 < base) (hb : n0 ≤ base) : Mem n0 w0 w' M := by
 refine ⟨H.le, H.bel.grown hg (Nat.le_trans H.le H.bel.size) (fun r e => Nat.le_trans hb (hv.lt r e).1), H.oth.trans (KeepsOthers.of_grownBy hg fun j o hj ho => ?_), fun x hx => ?_, H.own, H.nd⟩
 ·rcases hv.2 with ⟨rfl, _⟩ | ⟨g, cap, cur, rfl, _, hc, _⟩
  ·cases hj
  ·cases hj; rw [hc] at ho; cases ho; rfl
 ·have h := H.at_ x hx
  exact (hg.block x.1 h.lt (fun e => by have := (hv.lt x.1 e.symm).1; have := hM x hx; omega)).trans h
end
end Go.Proofs.Ytbggihkigblnfaa

/-
 GroupsProduct: what is gathered, in any order, in parts; the law's list; slices of slices.
-/
namespace Go.Proofs.Ytbggihkigblnfaa
set_option maxRecDepth 100000
open Go.RowKit
set_option linter.unusedSimpArgs false
set_option linter.unusedVariables false

theorem prodN_from (P : Nat) : ∀ (zs : List NP) (s : Nat), s < P → zs.foldl (fun s x => s * (x.1.1 ^ x.1.2 % P) % P) s = s * prodN P zs % P
 | [], s, hs => by simp [prodN, Nat.mod_eq_of_lt hs]
 | x :: zs, s, hs => by
  have hP : 0 < P := by omega
  have h1 := prodN_from P zs (s * (x.1.1 ^ x.1.2 % P) % P) (Nat.mod_lt _ hP)
  have h2 := prodN_from P zs (1 * (x.1.1 ^ x.1.2 % P) % P) (Nat.mod_lt _ hP)
  show zs.foldl _ (s * (x.1.1 ^ x.1.2 % P) % P) = s * (zs.foldl _ (1 * (x.1.1 ^ x.1.2 % P) % P)) % P
  rw [h1, h2, Nat.one_mul, Nat.mod_mod]
  rw [Nat.mul_mod, Nat.mod_mod, ← Nat.mul_mod]
  conv => rhs; rw [Nat.mul_mod, Nat.mod_mod, ← Nat.mul_mod]
  rw [Nat.mul_assoc]
theorem prodN_app {P : Nat} (h : 1 < P) (xs ys : List NP) : prodN P (xs ++ ys) = prodN P xs * prodN P ys % P := by
 show (xs ++ ys).foldl _ 1 = _
 rw [List.foldl_append]
 exact prodN_from P ys (prodN P xs) (prodN_lt h xs)
theorem prodN_rev {P : Nat} (h : 1 < P) : ∀ (zs : List NP), prodN P zs.reverse = prodN P zs
 | [] => rfl
 | x :: zs => by
  rw [List.reverse_cons, prodN_app h, prodN_rev h zs, show x :: zs = [x] ++ zs from rfl, prodN_app h, Nat.mul_comm]
theorem prodN_one {P : Nat} (h : 1 < P) (x : NP) : prodN P [x] = x.1.1 ^ x.1.2 % P := by simp [prodN]
theorem mayAll_rev (P : Nat) (zs : List NP) : mayAll P zs.reverse = mayAll P zs := by simp [mayAll]
theorem mayAll_take {P : Nat} {zs : List NP} (h : mayAll P zs = true) (k : Nat) : mayAll P (zs.take k) = true := List.all_eq_true.2 fun x hx => List.all_eq_true.1 h x (List.mem_of_mem_take hx)
theorem mayAll_drop {P : Nat} {zs : List NP} (h : mayAll P zs = true) (k : Nat) : mayAll P (zs.drop k) = true := List.all_eq_true.2 fun x hx => List.all_eq_true.1 h x (List.mem_of_mem_drop hx)
/-- the law's list: pairs, in a block below n₀ -/
def PSl (n₀ : Nat) (w : World) (a : Option Addr) (cap : Nat) (zs : List NP) : Prop :=
 zs.length ≤ cap ∧ cap ≤ 9223372036854775807 ∧
 (zs = [] ∨ ∃ g o, a = some ⟨g, o, none⟩ ∧ g < n₀ ∧ ∀ i (h : i < zs.length) k, k < 4 → w.cell? ⟨g, o + i * 8 + k, none⟩ = some (.int .u64 (wd (zs[i]).1.1 k : Nat)) ∧ w.cell? ⟨g, o + i * 8 + 4 + k, none⟩ = some (.int .u64 (wd (zs[i]).1.2 k : Nat)))
/-- four cells that tell a number -/
def C4 (w : World) (g o X : Nat) : Prop := w.cell? ⟨g, o, none⟩ = some (.int .u64 (wd X 0 : Nat)) ∧ w.cell? ⟨g, o + 1, none⟩ = some (.int .u64 (wd X 1 : Nat)) ∧ w.cell? ⟨g, o + 2, none⟩ = some (.int .u64 (wd X 2 : Nat)) ∧ w.cell? ⟨g, o + 3, none⟩ = some (.int .u64 (wd X 3 : Nat))
theorem PSl.get {n₀ : Nat} {w : World} {a : Option Addr} {cap : Nat} {zs : List NP} (h : PSl n₀ w a cap zs) {i : Nat} (hi : i < zs.length) : ∃ g o, a = some ⟨g, o, none⟩ ∧ ∀ u, Below n₀ w u → C4 u g (o + i * 8) (zs[i]).1.1 ∧ C4 u g (o + i * 8 + 4) (zs[i]).1.2 := by
 rcases h.2.2 with rfl | ⟨g, o, ha, hg, hc⟩
 ·exact absurd hi (Nat.not_lt_zero _)
 ·refine ⟨g, o, ha, fun u hb => ?_⟩
  have c : ∀ j, u.cell? ⟨g, j, none⟩ = w.cell? ⟨g, j, none⟩ := fun j => hb.cell (p := ⟨g, j, none⟩) hg
  have h := hc i hi
  exact ⟨⟨(c _).trans (h 0 (by omega)).1, (c _).trans (h 1 (by omega)).1, (c _).trans (h 2 (by omega)).1, (c _).trans (h 3 (by omega)).1⟩, (c _).trans (h 0 (by omega)).2, (c _).trans (h 1 (by omega)).2, (c _).trans (h 2 (by omega)).2, (c _).trans (h 3 (by omega)).2⟩
theorem NSl.head {n₀ : Nat} {w : World} {a : Option Addr} {cap : Nat} {zs : List NP} {f : NP → Nat} {z : NP} (h : NSl n₀ w a cap (zs.map f)) (hz : zs = [z]) : ∃ g o, a = some ⟨g, o, none⟩ ∧ ∀ u, Below n₀ w u → C4 u g o (f z) := by
 subst hz
 obtain ⟨g, o, ha, hg, h0, h1, h2, h3⟩ := h.get (i := 0) (x := f z) (by simp) (by simp)
 simp only [Nat.zero_mul, Nat.add_zero] at h0 h1 h2 h3
 exact ⟨g, o, ha, fun u hb => ⟨(hb.cell (p := ⟨g, o, none⟩) hg).trans h0, (hb.cell (p := ⟨g, o + 1, none⟩) hg).trans h1, (hb.cell (p := ⟨g, o + 2, none⟩) hg).trans h2, (hb.cell (p := ⟨g, o + 3, none⟩) hg).trans h3⟩⟩
section
variable {x y : Operand} {dst : Option Tmp} {ty : TypeId} {pos : String} {after : Array Edge} {guard : Option (Nat × Bool)} {ρ : Operand → Value} {w : World} {g o : Nat}
theorem o_idxP {i l cap : Nat} (hi : i < l) (hx : ρ x = .slice (some ⟨g, o, none⟩) l cap) (hy : ρ y = .int .i64 (i : Nat)) : (execOp ρ ⟨dst, .indexAddr 52 x y, ty, pos, after, guard⟩).run Try.prog w = .ok (.value (.pointer (some ⟨g, o + i * 8, none⟩))) w := by
 have h1 : (i : Int) < (l : Int) := by omega
 simp [execOp, hx, hy, go_sem, h1]
theorem o_idxQ0 (hx : ρ x = .pointer (some ⟨g, o, none⟩)) (hy : ρ y = .int .i64 0) : (execOp ρ ⟨dst, .indexAddr 42 x y, ty, pos, after, guard⟩).run Try.prog w = .ok (.value (.pointer (some ⟨g, o, none⟩))) w := by simp [execOp, hx, hy, go_sem]
theorem o_idxQ1 (hx : ρ x = .pointer (some ⟨g, o, none⟩)) (hy : ρ y = .int .i64 1) : (execOp ρ ⟨dst, .indexAddr 42 x y, ty, pos, after, guard⟩).run Try.prog w = .ok (.value (.pointer (some ⟨g, o + 4, none⟩))) w := by simp [execOp, hx, hy, go_sem]
theorem o_loadC {X : Nat} (hx : ρ x = .pointer (some ⟨g, o, none⟩)) (h : C4 w g o X) : (execOp ρ ⟨dst, .load 24 x, ty, pos, after, guard⟩).run Try.prog w = .ok (.value (num X)) w := by
 obtain ⟨h0, h1, h2, h3⟩ := h
 simp [execOp, hx, go_sem, h0, h1, h2, h3]
theorem o_lenP {a : Option Addr} {l cap : Nat} (hx : ρ x = .slice a l cap) : (execOp ρ ⟨dst, .call ⟨.builtin .len, #[x], #[52]⟩, ty, pos, after, guard⟩).run Try.prog w = .ok (.value (.int .i64 (l : Nat))) w := by
 simp [execOp, hx, go_sem]
end
section
variable {P : Program} {ops : Array Oper} {Q : Exit → Act → World → Prop} {a : Act} {n0 : Nat} {w w0 : World} {rest : List Oper} {o : Oper} {N : Nat} {L : List (Nat × Value)} {df : List Deferred}
theorem lx_row {d l : Nat} {cs : Array Value} {t : TypeId} (F : Fr a N L df) (hw : Region.wanted o (yielded ops a.tmps) = true) (hdst : o.dst = some d) (hd : Nat.blt d N = true)
  (hr : (execOp a.eval o).run P w = .ok (.value (.slice (some ⟨w.heap.size, 0, none⟩) l l)) (w.alloc (.cells cs t)))
  (h : ∀ a' w' g, Fr a' N ((d, .slice (some ⟨g, 0, none⟩) l l) :: L) df → At w' g t cs → Below w.heap.size w w' → wpList P ops Q rest a' w') : wpList P ops Q (o :: rest) a w :=
 lx_value F hw hdst hd hr fun a' F' => h a' _ _ F' (At.new _ _ _) ((Below.refl _ _).alloc (Nat.le_refl _) _)
end
/-- two slices do not share their rows -/
def Dj (u v : Value) : Prop := u.ownBlock = none ∨ v.ownBlock = none ∨ u.ownBlock ≠ v.ownBlock
theorem Dj.symm {u v : Value} (h : Dj u v) : Dj v u := by
 rcases h with h | h | h
 ·exact Or.inr (Or.inl h)
 ·exact Or.inl h
 ·exact Or.inr (Or.inr fun e => h e.symm)
theorem Dj.far {u v : Value} (h : Dj u v) : u.ownBlock = none ∨ u.ownBlock ≠ v.ownBlock := by
 rcases h with h | h | h
 ·exact Or.inl h
 ·rcases hu : u.ownBlock with _ | k
  ·exact Or.inl rfl
  ·exact Or.inr (by rw [h]; exact fun e => by cases e)
 ·exact Or.inr h
theorem Dj.grow {u v v' : Value} {b : Nat} {w : World} {xs : List Nat} (h : Dj u v) (hu : NR b w u xs) (ho : v'.ownBlock = v.ownBlock ∨ v'.ownBlock = some w.heap.size) : Dj u v' := by
 rcases ho with ho | ho
 ·unfold Dj; rw [ho]; exact h
 ·rcases hu' : u.ownBlock with _ | k
  ·exact Or.inl hu'
  ·refine Or.inr (Or.inr ?_)
   rw [ho, hu']
   intro e
   have := (hu.lt k hu').2
   have : k = w.heap.size := Option.some.inj e
   omega
theorem dj_nil (v : Value) : Dj (.slice none 0 0) v := Or.inl rfl
end Go.Proofs.Ytbggihkigblnfaa

/-
 How an argument [][2]api.Num is opened.
-/
namespace Go.Proofs.Ytbggihkigblnfaa
set_option maxRecDepth 100000
set_option linter.unusedSimpArgs false
set_option linter.unusedVariables false
open Go.RowKit Go.WideShapes Go.ChangeShapes Go.ChangeAt
section
variable {H : Type} {enc : TypeId × Value → H} {w : World} {held : Bool}
theorem open_eight {fuel : Nat} {c0 c1 c2 c3 c4 c5 c6 c7 : Value} {x : DataW H × List MemPlace} (h : DataW.trod enc Try.prog w 0 (fun _ => true) held fuel 42 [c0, c1, c2, c3, c4, c5, c6, c7] = some x) :
  ∃ p : NP, [c0, c1, c2, c3, c4, c5, c6, c7] = [.int .u64 (wd p.1.1 0 : Nat), .int .u64 (wd p.1.1 1 : Nat), .int .u64 (wd p.1.1 2 : Nat), .int .u64 (wd p.1.1 3 : Nat), .int .u64 (wd p.1.2 0 : Nat), .int .u64 (wd p.1.2 1 : Nat), .int .u64 (wd p.1.2 2 : Nat), .int .u64 (wd p.1.2 3 : Nat)] := by
 obtain ⟨xs, m, rfl, hx, hl, hn, he⟩ := DataW.trod_array Try.underlying42 h
 rw [Try.cells24] at he
 match xs, hn with
 | [x0, x1], _ =>
  have e0 := he 0 (by omega)
  have e1 := he 1 (by omega)
  simp at e0 e1
  obtain ⟨X, hX, rfl, rfl, rfl, rfl⟩ := open_four e0
  obtain ⟨Y, hY, rfl, rfl, rfl, rfl⟩ := open_four e1
  exact ⟨⟨(X, Y), hX, hY⟩, rfl⟩
theorem choose_np {n : Nat} {R : Nat → NP → Prop} (h : ∀ i, i < n → ∃ p, R i p) : ∃ l : List NP, l.length = n ∧ ∀ i (hi : i < l.length), R i (l[i]) := by
 induction n with
 | zero => exact ⟨[], rfl, fun i hi => absurd hi (Nat.not_lt_zero _)⟩
 | succ n ih =>
  obtain ⟨l, hl, hR⟩ := ih fun i hi => h i (by omega)
  obtain ⟨p, hp⟩ := h n (by omega)
  refine ⟨l ++ [p], by simp [hl], fun i hi => ?_⟩
  by_cases e : i < l.length
  ·rw [List.getElem_append_left e]; exact hR i e
  ·have : i = n := by simp at hi; omega
   subst this
   rw [List.getElem_append_right (by omega)]
   simp [hl]; exact hp
/-- a slice of pairs -/
theorem open_pairs {base : Nat} {v : Value} {d : DataW H} {p : List MemPlace} (hv : Value.okWide Try.prog w .any base 52 v) (h : DataW.Trod enc Try.prog w 0 (fun _ => true) held 52 v d p) :
  ∃ (zs : List NP) (a : Option Addr) (cap : Nat), v = .slice a zs.length cap ∧ PSl w.heap.size w a cap zs := by
 obtain ⟨fuel, hf⟩ := h
 have hone : ∃ v', v.cells.toList = [v'] ∧ v' = v := by
  rcases v with _ | _ | _ | _ | _ | _ | _ | _ <;> first | exact ⟨_, rfl, rfl⟩ | (simp [Value.okWide, Cell.okWide, Cell.ok, Try.underlying52] at hv)
 obtain ⟨v', hc, rfl⟩ := hone
 rcases DataW.trod_slice Try.underlying52 hf with ⟨hc', _⟩ | ⟨a, len, cap, elems, rest, k, hk, hc', _, _, hlc, hcm, hel, hget, _⟩
 ·rw [hc] at hc'
  obtain rfl : v' = .slice none 0 0 := by simpa using hc'
  exact ⟨[], none, 0, rfl, Nat.le_refl _, by decide, Or.inl rfl⟩
 ·rw [hc] at hc'
  obtain rfl : v' = .slice (some a) len cap := by simpa using hc'
  rw [Try.cellsArr2] at hget
  have sp0 : 0 < len → a.spot = none := by
   intro hi
   have hg := hget 0 hi
   rw [List.getElem?_eq_getElem (by omega)] at hg
   obtain ⟨ci, hci, ht⟩ := Option.bind_eq_some_iff.1 hg
   obtain ⟨_, hcl, hcell⟩ := World.cells?_some hci
   have h0 := hcell 0 (by omega)
   rw [List.getElem?_eq_getElem (by omega)] at h0
   simpa [Addr.add] using World.cell?_spot h0
  have each : ∀ i, i < len → ∃ p : NP, a.spot = none ∧ a.block < w.heap.size ∧ ∀ k, k < 4 → w.cell? ⟨a.block, a.off + i * 8 + k, none⟩ = some (.int .u64 (wd p.1.1 k : Nat)) ∧ w.cell? ⟨a.block, a.off + i * 8 + 4 + k, none⟩ = some (.int .u64 (wd p.1.2 k : Nat)) := by
   intro i hi
   have hg := hget i hi
   rw [List.getElem?_eq_getElem (by omega)] at hg
   obtain ⟨ci, hci, ht⟩ := Option.bind_eq_some_iff.1 hg
   obtain ⟨_, hcl, hcell⟩ := World.cells?_some hci
   match ci, hcl with
   | [c0, c1, c2, c3, c4, c5, c6, c7], _ =>
    obtain ⟨p, hp⟩ := open_eight ht
    have sp : a.spot = none := sp0 (by omega)
    have cell : ∀ j (hj : j < 8), w.cell? ⟨a.block, a.off + i * 8 + j, none⟩ = [c0, c1, c2, c3, c4, c5, c6, c7][j]? := by
     intro j hj
     have := hcell j hj
     obtain ⟨b, off, spot⟩ := a
     simp only at sp
     subst sp
     rw [Addr.add_lit, Addr.add_lit] at this
     rw [← this]
    rw [hp] at cell
    refine ⟨p, sp, World.block_lt_of_cell? w ⟨a.block, a.off + i * 8 + 0, none⟩ (cell 0 (by omega)), fun k hk => ?_⟩
    rw [Nat.add_assoc (a.off + i * 8) 4 k, cell k (by omega), cell (4 + k) (by omega)]
    match k, hk with
    | 0, _ => exact ⟨rfl, rfl⟩
    | 1, _ => exact ⟨rfl, rfl⟩
    | 2, _ => exact ⟨rfl, rfl⟩
    | 3, _ => exact ⟨rfl, rfl⟩
  obtain ⟨zs, hl, hR⟩ := choose_np each
  refine ⟨zs, some a, cap, by rw [hl], by rw [hl]; exact hlc, by unfold maxLen at hcm; omega, ?_⟩
  rcases Nat.eq_zero_or_pos zs.length with h0 | h0
  ·exact Or.inl (List.length_eq_zero_iff.1 h0)
  ·right
   obtain ⟨sp, hb, _⟩ := hR 0 h0
   obtain ⟨b, off, spot⟩ := a
   simp only at sp hb
   subst sp
   exact ⟨b, off, rfl, hb, fun i hi => (hR i hi).2.2⟩
end
end Go.Proofs.Ytbggihkigblnfaa
