import Derived.Deep.AppendLies
import Derived.Deep.Cut
import Derived.Test.YtodlpmepoakdlaaGreatMAlive7
import Derived.Test.YtodlpmepoakdlaaGreatMGChk
import Derived.Test.YtodlpmepoakdlaaGreatMProd
import Derived.Test.YtodlpmepoakdlaaGreatMRng
import Derived.Test.YtodlpmepoakdlaaGreatMSmall
import Derived.Test.YtodlpmepoakdlaaGreatMSxF
namespace Go.Proofs.YtodlpmepoakdlaaGreat
set_option maxRecDepth 100000
set_option maxHeartbeats 8000000
attribute [local go_sem ↓] Go.wp_at_zero Go.wp_at_succ
open Go.RowKit
set_option linter.unusedSimpArgs false
set_option linter.unusedVariables false

theorem Tryz.infoNum : (Tryz.prog.info? 24).map (fun i => (i.zero, i.size, i.bytes)) = some (some (num 0), 4, 32) := by kernel_rfl
def Jem : List Nat → List Value
 | [] => []
 | X :: xs => .int .u64 (wd X 0) :: .int .u64 (wd X 1) :: .int .u64 (wd X 2) :: .int .u64 (wd X 3) :: Jem xs
theorem flat_app : ∀ (xs ys : List Nat), Jem (xs ++ ys) = Jem xs ++ Jem ys
 | [], _ => rfl
 | X :: xs, ys => by simp [Jem, flat_app xs ys]
theorem flat_get : ∀ (xs : List Nat) (i : Nat) (h : i < xs.length) (k : Nat), k < 4 → (Jem xs)[i * 4 + k]? = some (.int .u64 (wd xs[i] k))
 | X :: xs, 0, _, k, hk => by
  match k, hk with
  | 0, _ => rfl
  | 1, _ => rfl
  | 2, _ => rfl
  | 3, _ => rfl
 | X :: xs, i + 1, h, k, hk => by
  have := flat_get xs i (by simpa using h) k hk
  rw [show (i + 1) * 4 + k = (i * 4 + k) + 4 by omega]
  simpa [Jem] using this
def NR (base : Nat) (w : World) (v : Value) (xs : List Nat) : Prop := w.ownsRow base 24 4 v xs.length (Jem xs)
theorem NR.nil (base : Nat) (w : World) : NR base w (.slice none 0 0) [] := World.ownsRow_nil w base _ 4
theorem NR.on {base : Nat} {w w' : World} {v : Value} {xs : List Nat} (h : NR base w v xs) (hb : Below w.heap.size w w') : NR base w' v xs := by
 refine ⟨h.1, ?_⟩
 rcases h.2 with hn | ⟨g, cap, cur, rfl, hg, hc, rest⟩
 ·exact .inl hn
 ·exact .inr ⟨g, cap, cur, rfl, hg, (hb.block g (Array.getElem?_eq_some_iff.1 hc).1).trans hc, rest⟩
theorem NR.far {base : Nat} {w w' : World} {v : Value} {xs : List Nat} {row : Option Nat} (h : NR base w v xs) (hg : w.grownBy w' row) (hne : v.ownBlock = none ∨ v.ownBlock ≠ row) : NR base w' v xs := World.ownsRow.kept h hg hne
theorem NR.lt {base : Nat} {w : World} {v : Value} {xs : List Nat} (h : NR base w v xs) : ∀ k, v.ownBlock = some k → base ≤ k ∧ k < w.heap.size := World.ownsRow.lt h
theorem NR.sl {base : Nat} {w : World} {v : Value} {xs : List Nat} (h : NR base w v xs) (hx : ∀ x ∈ xs, x < 2 ^ 256) : ∃ a cap, v = .slice a xs.length cap ∧ NSl w.heap.size w a cap xs := by
 rcases h.2 with ⟨rfl, h0⟩ | ⟨g, cap, cur, rfl, hg, hc, h1, h2, h3, h4⟩
 ·obtain rfl := List.length_eq_zero_iff.1 h0
  exact ⟨none, 0, rfl, Nat.le_refl _, by decide, hx, Or.inl rfl⟩
 ·refine ⟨some ⟨g, 0, none⟩, cap, rfl, h1, h2, hx, Or.inr ⟨g, 0, rfl, (Array.getElem?_eq_some_iff.1 hc).1, fun i hi k hk => ?_⟩⟩
  have hf := flat_get xs i hi k hk
  rw [← h4, List.getElem?_take] at hf
  split at hf
  ·rw [Nat.zero_add, cell_of_row w g (i * 4 + k) cur 24 (0, 0) hc]
   simpa using hf
  ·cases hf
section
variable {ops : Array Oper} {Q : Exit → Act → World → Prop} {a : Act} {n0 : Nat} {w w0 : World} {rest : List Oper} {o : Oper} {N : Nat} {L : List (Nat × Value)} {df : List Deferred} {M : List (Nat × TypeId × Array Value)}
theorem lx_append {base d g X : Nat} {v : Value} {xs : List Nat} {s x : Operand} (F : Fr a N L df) (hgd : o.guard = none) (ho : o.op = .call { callee := .builtin .append, args := #[s, x], argTypes := #[31, 31] }) (hdst : o.dst = some d) (hd : Nat.blt d N = true)
  (hv : NR base w v xs) (hs : a.eval s = v) (hx : a.eval x = .slice (some ⟨g, 0, none⟩) 1 1) (hg : At w g 24 (rows1 X)) (hn : xs.length < 1000) (hb : base ≤ w.heap.size)
  (h : ∀ a' w' v', Fr a' N ((d, v') :: L) df → NR base w' v' (xs ++ [X]) → w.grownBy w' v.ownBlock → (v'.ownBlock = v.ownBlock ∨ v'.ownBlock = some w.heap.size) → (∃ b cap, v' = .slice (some b) (xs.length + 1) cap) → wpList Tryz.prog ops Q rest a' w') : wpList Tryz.prog ops Q (o :: rest) a w := by
 unfold wpList
 rw [if_pos (Ja hgd _)]
 left
 obtain ⟨i0, hi, hz0, hz1, hz2⟩ := info_parts Tryz.infoNum
 have H := step_append_lies (P := Tryz.prog) (w := w) (ops := ops) (o := o) (a := a) (K := wpList Tryz.prog ops Q rest) (Q := Q) (E := True) hgd s x 31 ho base 24 i0 (num 0) 4 32 Tryz.underlying31 hi hz0 hz1 hz2 rfl (by decide)
  v xs.length (Jem xs) hs hv ⟨g, 0, none⟩ 1 1 (Jem [X]) hx rfl (World.news_of_block hg) (fun u hu => by
   simp only [Jem, List.mem_cons, List.not_mem_nil, or_false] at hu
   rcases hu with rfl | rfl | rfl | rfl <;> rfl) (by decide) (by unfold maxLen; omega) (by omega) hb w.heap.size rfl (fun g' cap w' h1 h2 h3 _ => by
   rw [hdst]
   refine h _ w' _ (F.put _ hd) ?_ h2 ?_ ⟨_, _, rfl⟩
   ·unfold NR
    rw [flat_app, List.length_append]
    exact h1
   ·rcases h3 with h3 | rfl
    ·exact Or.inl h3.symm
    ·exact Or.inr rfl)
 rw [if_pos (Ja hgd _)] at H
 exact H
theorem Mem.row {base : Nat} {w' : World} {v : Value} {xs : List Nat} (H : Mem n0 w0 w M) (hv : NR base w v xs) (hg : w.grownBy w' v.ownBlock) (hM : ∀ x ∈ M, x.1 < base) (hb : n0 ≤ base) : Mem n0 w0 w' M := by
 refine ⟨H.le, H.bel.grown hg (Nat.le_trans H.le H.bel.size) (fun r e => Nat.le_trans hb (hv.lt r e).1), H.oth.trans (KeepsOthers.of_grownBy hg fun j o hj ho => ?_), fun x hx => ?_, H.own, H.nd⟩
 ·rcases hv.2 with ⟨rfl, _⟩ | ⟨g, cap, cur, rfl, _, hc, _⟩
  ·cases hj
  ·cases hj; rw [hc] at ho; cases ho; rfl
 ·have h := H.at_ x hx
  exact (hg.block x.1 h.lt (fun e => by have := (hv.lt x.1 e.symm).1; have := hM x hx; omega)).trans h
end
def np (a b : Nat) (ha : a < 2 ^ 256) (hb : b < 2 ^ 256) : NP := ⟨(a, b), ha, hb⟩
theorem prod_low (P Q G H la ca lb cb : Nat) (pa pb : Option Addr) (hP : P < 2 ^ 256) (hk : Uu P 1 ≤ 0) (w : World) : Calls Tryz.prog 6 #[grp P Q G H, .slice pa la ca, .slice pb lb cb] w fun e w' => e = .returned (.tuple #[num 0, .int .i64 1]) ∧ Below w.heap.size w w' := by
 refine Kk (args := [grp P Q G H, .slice pa la ca, .slice pb lb cb]) Tryz.func6 rfl Tryz.ntmps6 (by rfl) fun a F HM => ?_
 repeat first|refine et1 ?_|refine eb1 ?_|refine ws1 ?_|refine wb1 ?_|refine wk1 ?_
 refine wp_region_lit ?_
 refine Jw F HM (Ja rfl _) rfl (by rfl) (Wc (F.ev rfl)) fun a w gr F HM => ?_
 refine Jw F HM (Ja rfl _) rfl (by rfl) (Jy) fun a w go F HM => ?_
 refine Jw F HM (Ja rfl _) rfl (by rfl) (Jcv) fun a w ge F HM => ?_
 refine Jj ?_
 repeat first|refine et1 ?_|refine eb1 ?_|refine ws1 ?_|refine wb1 ?_|refine wk1 ?_
 refine wp_region_lit ?_
 refine Jr F (Ja rfl _) rfl (by rfl) (Jl Tryz.func12 (by kernel_rfl) (by rfl) (.cons rfl .nil) _) ((fun w => Vc 1 (by decide) w) _) fun a w z F => ?_
 replace HM := HM.on z
 clear z
 refine Jw F HM (Ja rfl _) rfl (by rfl) (Jy) fun a w gl F HM => ?_
 refine Kd F HM (Ja rfl _) rfl (k := 0) rfl (Ju (F.ev rfl) (F.ev rfl) (HM.get 0 rfl)) (M2 := [(gl, 24, ncs 1), (ge, 35, #[.int .i64 0]), (go, 24, ncs 0), (gr, 26, gcs P Q G H)]) rfl fun w HM => ?_
 refine Jj ?_
 repeat first|refine et1 ?_|refine eb1 ?_|refine ws1 ?_|refine wb1 ?_|refine wk1 ?_
 refine wp_region_lit ?_
 refine lxv (.pointer (some ⟨gr, 0, none⟩)) F (Ky (F.ev rfl)) fun a F => ?_
 refine lxv (num P) F (Uf (F.ev rfl) (HM.get 3 rfl)) fun a F => ?_
 refine lxv (num 1) F (Jn (F.ev rfl) (HM.get 0 rfl)) fun a F => ?_
 refine Jr F (Ja rfl _) rfl (by rfl) (Jl Tryz.func13 (by kernel_rfl) (by rfl) (.cons (F.ev rfl) (.cons (F.ev rfl) .nil)) _) ((fun w => Uo P 1 hP (by decide) w) _) fun a w z F => ?_
 replace HM := HM.on z
 clear z
 refine lxv (.bool true) F (Kh (u := .int .i64 (Uu P 1)) (v := .int .i64 0) (fun ρ hx hy => by simp only [execOp, hx, hy]; simp [go_sem]; exact hk) (F.ev rfl) rfl) fun a F => ?_
 refine lxv (.bool true) F (Jg (F.ev rfl)) fun a F => ?_
 refine lxp 19 true F fun a F => ?_
 refine lxp 19 true F fun a F => ?_
 refine lxp 19 true F fun a F => ?_
 refine lxp 19 true F fun a F => ?_
 refine lxp 19 true F fun a F => ?_
 refine lxv (.bool true) F (Js (b := true) (r := .bool true) (F.ev rfl) rfl (F.ev rfl) rfl) fun a F => ?_
 refine Jj ?_
 repeat first|refine et1 ?_|refine eb1 ?_|refine ws1 ?_|refine wb1 ?_|refine wk1 ?_
 refine wp_cond_true (F.ev rfl) ?_
 repeat first|refine et1 ?_|refine eb1 ?_|refine ws1 ?_|refine wb1 ?_|refine wk1 ?_
 refine wp_region_lit ?_
 refine lxv (num 0) F (Kq) fun a F => ?_
 refine Kd F HM (Ja rfl _) rfl (k := 2) rfl (Ju (F.ev rfl) (F.ev rfl) (HM.get 2 rfl)) (M2 := [(gl, 24, ncs 1), (ge, 35, #[.int .i64 0]), (go, 24, ncs 0), (gr, 26, gcs P Q G H)]) rfl fun w HM => ?_
 refine Kd F HM (Ja rfl _) rfl (k := 1) rfl (Jbp (F.ev rfl) rfl (HM.get 1 rfl)) (M2 := [(gl, 24, ncs 1), (ge, 35, #[.int .i64 1]), (go, 24, ncs 0), (gr, 26, gcs P Q G H)]) rfl fun w HM => ?_
 refine Jj ?_
 repeat first|refine et1 ?_|refine eb1 ?_|refine ws1 ?_|refine wb1 ?_|refine wk1 ?_
 refine wp_ret ?_
 repeat (first | refine Jt ?_ | refine Jp ?_)
 exact Ki F HM (Jdw F (s := 6) (t := 7) rfl rfl rfl (HM.get 2 rfl) (HM.get 1 rfl))

theorem prod_len (P Q G H la ca lb cb : Nat) (pa pb : Option Addr) (hP : P < 2 ^ 256) (hk : 0 < Uu P 1) (hl : ¬ la = lb) (w : World) : Calls Tryz.prog 6 #[grp P Q G H, .slice pa la ca, .slice pb lb cb] w fun e w' => e = .returned (.tuple #[num 0, .int .i64 1]) ∧ Below w.heap.size w w' := by
 refine Kk (args := [grp P Q G H, .slice pa la ca, .slice pb lb cb]) Tryz.func6 rfl Tryz.ntmps6 (by rfl) fun a F HM => ?_
 repeat first|refine et1 ?_|refine eb1 ?_|refine ws1 ?_|refine wb1 ?_|refine wk1 ?_
 refine wp_region_lit ?_
 refine Jw F HM (Ja rfl _) rfl (by rfl) (Wc (F.ev rfl)) fun a w gr F HM => ?_
 refine Jw F HM (Ja rfl _) rfl (by rfl) (Jy) fun a w go F HM => ?_
 refine Jw F HM (Ja rfl _) rfl (by rfl) (Jcv) fun a w ge F HM => ?_
 refine Jj ?_
 repeat first|refine et1 ?_|refine eb1 ?_|refine ws1 ?_|refine wb1 ?_|refine wk1 ?_
 refine wp_region_lit ?_
 refine Jr F (Ja rfl _) rfl (by rfl) (Jl Tryz.func12 (by kernel_rfl) (by rfl) (.cons rfl .nil) _) ((fun w => Vc 1 (by decide) w) _) fun a w z F => ?_
 replace HM := HM.on z
 clear z
 refine Jw F HM (Ja rfl _) rfl (by rfl) (Jy) fun a w gl F HM => ?_
 refine Kd F HM (Ja rfl _) rfl (k := 0) rfl (Ju (F.ev rfl) (F.ev rfl) (HM.get 0 rfl)) (M2 := [(gl, 24, ncs 1), (ge, 35, #[.int .i64 0]), (go, 24, ncs 0), (gr, 26, gcs P Q G H)]) rfl fun w HM => ?_
 refine Jj ?_
 repeat first|refine et1 ?_|refine eb1 ?_|refine ws1 ?_|refine wb1 ?_|refine wk1 ?_
 refine wp_region_lit ?_
 refine lxv (.pointer (some ⟨gr, 0, none⟩)) F (Ky (F.ev rfl)) fun a F => ?_
 refine lxv (num P) F (Uf (F.ev rfl) (HM.get 3 rfl)) fun a F => ?_
 refine lxv (num 1) F (Jn (F.ev rfl) (HM.get 0 rfl)) fun a F => ?_
 refine Jr F (Ja rfl _) rfl (by rfl) (Jl Tryz.func13 (by kernel_rfl) (by rfl) (.cons (F.ev rfl) (.cons (F.ev rfl) .nil)) _) ((fun w => Uo P 1 hP (by decide) w) _) fun a w z F => ?_
 replace HM := HM.on z
 clear z
 refine lxv (.bool false) F (Kh (u := .int .i64 (Uu P 1)) (v := .int .i64 0) (fun ρ hx hy => by simp only [execOp, hx, hy]; simp [go_sem]; exact hk) (F.ev rfl) rfl) fun a F => ?_
 refine lxv (.bool false) F (Jg (F.ev rfl)) fun a F => ?_
 refine lxw 19 false (.slice pa la ca) F (Jg (F.ev rfl)) fun a F => ?_
 refine lxw 19 false (.int .i64 (la : Nat)) F (Vs (F.ev rfl)) fun a F => ?_
 refine lxw 19 false (.slice pb lb cb) F (Jg (F.ev rfl)) fun a F => ?_
 refine lxw 19 false (.int .i64 (lb : Nat)) F (Vs (F.ev rfl)) fun a F => ?_
 refine lxw 19 false (.bool true) F (Kh (u := .int .i64 (la : Nat)) (v := .int .i64 (lb : Nat)) (fun ρ hx hy => by simp only [execOp, hx, hy]; simp [go_sem]; omega) (F.ev rfl) (F.ev rfl)) fun a F => ?_
 refine lxv (.bool true) F (Js (b := false) (r := .bool true) (F.ev rfl) rfl (F.ev rfl) rfl) fun a F => ?_
 refine Jj ?_
 repeat first|refine et1 ?_|refine eb1 ?_|refine ws1 ?_|refine wb1 ?_|refine wk1 ?_
 refine wp_cond_true (F.ev rfl) ?_
 repeat first|refine et1 ?_|refine eb1 ?_|refine ws1 ?_|refine wb1 ?_|refine wk1 ?_
 refine wp_region_lit ?_
 refine lxv (num 0) F (Kq) fun a F => ?_
 refine Kd F HM (Ja rfl _) rfl (k := 2) rfl (Ju (F.ev rfl) (F.ev rfl) (HM.get 2 rfl)) (M2 := [(gl, 24, ncs 1), (ge, 35, #[.int .i64 0]), (go, 24, ncs 0), (gr, 26, gcs P Q G H)]) rfl fun w HM => ?_
 refine Kd F HM (Ja rfl _) rfl (k := 1) rfl (Jbp (F.ev rfl) rfl (HM.get 1 rfl)) (M2 := [(gl, 24, ncs 1), (ge, 35, #[.int .i64 1]), (go, 24, ncs 0), (gr, 26, gcs P Q G H)]) rfl fun w HM => ?_
 refine Jj ?_
 repeat first|refine et1 ?_|refine eb1 ?_|refine ws1 ?_|refine wb1 ?_|refine wk1 ?_
 refine wp_ret ?_
 repeat (first | refine Jt ?_ | refine Jp ?_)
 exact Ki F HM (Jdw F (s := 6) (t := 7) rfl rfl rfl (HM.get 2 rfl) (HM.get 1 rfl))

def PSl (n₀ : Nat) (w : World) (a : Option Addr) (cap : Nat) (zs : List NP) : Prop :=
 zs.length ≤ cap ∧ cap ≤ 9223372036854775807 ∧
 (zs = [] ∨ ∃ g o, a = some ⟨g, o, none⟩ ∧ g < n₀ ∧ ∀ i (h : i < zs.length) k, k < 4 → w.cell? ⟨g, o + i * 8 + k, none⟩ = some (.int .u64 (wd (zs[i]).1.1 k)) ∧ w.cell? ⟨g, o + i * 8 + 4 + k, none⟩ = some (.int .u64 (wd (zs[i]).1.2 k)))
def C4 (w : World) (g o X : Nat) : Prop := w.cell? ⟨g, o, none⟩ = some (.int .u64 (wd X 0)) ∧ w.cell? ⟨g, o + 1, none⟩ = some (.int .u64 (wd X 1)) ∧ w.cell? ⟨g, o + 2, none⟩ = some (.int .u64 (wd X 2)) ∧ w.cell? ⟨g, o + 3, none⟩ = some (.int .u64 (wd X 3))
theorem PSl.get {n₀ : Nat} {w : World} {a : Option Addr} {cap : Nat} {zs : List NP} (h : PSl n₀ w a cap zs) {i : Nat} (hi : i < zs.length) : ∃ g o, a = some ⟨g, o, none⟩ ∧ ∀ u, Below n₀ w u → C4 u g (o + i * 8) (zs[i]).1.1 ∧ C4 u g (o + i * 8 + 4) (zs[i]).1.2 := by
 rcases h.2.2 with rfl | ⟨g, o, ha, hg, hc⟩
 ·exact absurd hi (Nat.not_lt_zero _)
 ·refine ⟨g, o, ha, fun u hb => ?_⟩
  have c : ∀ j, u.cell? ⟨g, j, none⟩ = w.cell? ⟨g, j, none⟩ := fun j => hb.cell (p := ⟨g, j, none⟩) hg
  have h := hc i hi
  exact ⟨⟨(c _).trans (h 0 (by omega)).1, (c _).trans (h 1 (by omega)).1, (c _).trans (h 2 (by omega)).1, (c _).trans (h 3 (by omega)).1⟩, (c _).trans (h 0 (by omega)).2, (c _).trans (h 1 (by omega)).2, (c _).trans (h 2 (by omega)).2, (c _).trans (h 3 (by omega)).2⟩
section
variable {x y : Operand} {dst : Option Tmp} {ty : TypeId} {pos : String} {after : Array Edge} {guard : Option (Nat × Bool)} {ρ : Operand → Value} {w : World} {g o : Nat}
theorem Xi {X : Nat} (hx : ρ x = .pointer (some ⟨g, o, none⟩)) (h : C4 w g o X) : (execOp ρ ⟨dst, .load 24 x, ty, pos, after, guard⟩).run Tryz.prog w = .ok (.value (num X)) w := by
 obtain ⟨h0, h1, h2, h3⟩ := h
 simp [execOp, hx, go_sem, h0, h1, h2, h3]
end
section
variable {P : Program} {ops : Array Oper} {Q : Exit → Act → World → Prop} {a : Act} {n0 : Nat} {w w0 : World} {rest : List Oper} {o : Oper} {N : Nat} {L : List (Nat × Value)} {df : List Deferred}
theorem lx_row {d l : Nat} {cs : Array Value} {t : TypeId} (F : Fr a N L df) (hw : Region.wanted o (yielded ops a.tmps) = true) (hdst : o.dst = some d) (hd : Nat.blt d N = true)
  (hr : (execOp a.eval o).run P w = .ok (.value (.slice (some ⟨w.heap.size, 0, none⟩) l l)) (w.alloc (.cells cs t)))
  (h : ∀ a' w' g, Fr a' N ((d, .slice (some ⟨g, 0, none⟩) l l) :: L) df → At w' g t cs → Below w.heap.size w w' → wpList P ops Q rest a' w') : wpList P ops Q (o :: rest) a w :=
 Jar F hw hdst hd hr fun a' F' => h a' _ _ F' (At.new _ _ _) ((Below.refl _ _).alloc (Nat.le_refl _) _)
end
def Dj (u v : Value) : Prop := u.ownBlock = none ∨ v.ownBlock = none ∨ u.ownBlock ≠ v.ownBlock
theorem Dj.symm {u v : Value} (h : Dj u v) : Dj v u := by
 rcases h with h | h | h
 ·exact Or.inr (Or.inl h)
 ·exact Or.inl h
 ·exact Or.inr (Or.inr fun e => h e.symm)
theorem Dj.far {u v : Value} (h : Dj u v) : u.ownBlock = none ∨ u.ownBlock ≠ v.ownBlock := by
 rcases h with h | h | h
 ·exact Or.inl h
 ·rcases hu : u.ownBlock with _ | k
  ·exact Or.inl rfl
  ·exact Or.inr (by rw [h]; exact fun e => by cases e)
 ·exact Or.inr h
theorem Dj.grow {u v v' : Value} {b : Nat} {w : World} {xs : List Nat} (h : Dj u v) (hu : NR b w u xs) (ho : v'.ownBlock = v.ownBlock ∨ v'.ownBlock = some w.heap.size) : Dj u v' := by
 rcases ho with ho | ho
 ·unfold Dj; rw [ho]; exact h
 ·rcases hu' : u.ownBlock with _ | k
  ·exact Or.inl hu'
  ·refine Or.inr (Or.inr ?_)
   rw [ho, hu']
   intro e
   have := (hu.lt k hu').2
   have : k = w.heap.size := Option.some.inj e
   omega
end Go.Proofs.YtodlpmepoakdlaaGreat
