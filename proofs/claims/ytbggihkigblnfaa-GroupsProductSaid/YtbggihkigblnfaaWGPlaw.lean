/-
 GroupsProduct: walked.
-/
import Derived.Deep.Cut
import Derived.Test.YtbggihkigblnfaaWOpenP
import Derived.Test.YtbggihkigblnfaaWRng
import Derived.Test.YtbggihkigblnfaaWTree
namespace Go.Proofs.Ytbggihkigblnfaa
set_option maxRecDepth 100000
open Go.RowKit
set_option linter.unusedSimpArgs false
set_option linter.unusedVariables false
attribute [local go_sem ↓] Go.wp_at_zero Go.wp_at_succ

section
variable {x y : Operand} {dst : Option Tmp} {ty : TypeId} {pos : String} {after : Array Edge} {guard : Option (Nat × Bool)} {ρ : Operand → Value} {w : World}
theorem wrapN {m : Nat} (h : m < 4611686018427387904) : IntKind.i64.wrap (m : Int) = (m : Int) := by
 have := IntKind.wrap_i64 (m : Int)
 rw [this]; omega
theorem o_subN {m k : Nat} (hk : k ≤ m) (hm : m < 4611686018427387904) (hx : ρ x = .int .i64 (m : Nat)) (hy : ρ y = .int .i64 (k : Nat)) : (execOp ρ ⟨dst, .binOp .sub 3 x y 3, ty, pos, after, guard⟩).run Try.prog w = .ok (.value (.int .i64 ((m - k : Nat) : Int))) w := by
 have h1 : IntKind.i64.wrap ((m : Int) - (k : Int)) = ((m - k : Nat) : Int) := by rw [show (m : Int) - (k : Int) = ((m - k : Nat) : Int) by omega]; exact wrapN (by omega)
 simp only [execOp, hx, hy]
 simp [go_sem, h1]
theorem o_addN {m k : Nat} (hm : m + k < 4611686018427387904) (hx : ρ x = .int .i64 (m : Nat)) (hy : ρ y = .int .i64 (k : Nat)) : (execOp ρ ⟨dst, .binOp .add 3 x y 3, ty, pos, after, guard⟩).run Try.prog w = .ok (.value (.int .i64 ((m + k : Nat) : Int))) w := by
 have h1 : IntKind.i64.wrap ((m : Int) + (k : Int)) = (m : Int) + (k : Int) := by rw [show (m : Int) + (k : Int) = ((m + k : Nat) : Int) by omega]; exact wrapN hm
 simp only [execOp, hx, hy]
 simp [go_sem, h1]
theorem o_idxN0 {l cap : Nat} {g o : Nat} (hi : 0 < l) (hx : ρ x = .slice (some ⟨g, o, none⟩) l cap) (hy : ρ y = .int .i64 0) : (execOp ρ ⟨dst, .indexAddr 53 x y, ty, pos, after, guard⟩).run Try.prog w = .ok (.value (.pointer (some ⟨g, o, none⟩))) w := by
 have h1 : (0 : Int) < (l : Int) := by omega
 have h2 : l ≠ 0 := by omega
 simp [execOp, hx, hy, go_sem, h1, h2]
theorem o_conv8 {m : Nat} (hm : m < 256) (hx : ρ x = .int .u8 (m : Nat)) : (execOp ρ ⟨dst, .convert 5 3 x, ty, pos, after, guard⟩).run Try.prog w = .ok (.value (.int .i64 (m : Nat))) w := by
 have h1 := wrapN (m := m) (by omega)
 simp [execOp, hx, go_sem, h1]
theorem o_remN {m k : Nat} (hk : 0 < k) (hm : m < 4611686018427387904) (hx : ρ x = .int .i64 (m : Nat)) (hy : ρ y = .int .i64 (k : Nat)) : (execOp ρ ⟨dst, .binOp .rem 3 x y 3, ty, pos, after, guard⟩).run Try.prog w = .ok (.value (.int .i64 ((m % k : Nat) : Int))) w := by
 have h0 : ¬ ((k : Int) = 0) := by omega
 have h0' : ¬ (k = 0) := by omega
 have h2 : Int.tmod (m : Int) (k : Int) = ((m % k : Nat) : Int) := by rw [Int.tmod_eq_emod_of_nonneg (by omega)]; rfl
 have h1 : IntKind.i64.wrap ((m % k : Nat) : Int) = ((m % k : Nat) : Int) := wrapN (Nat.lt_of_le_of_lt (Nat.mod_le _ _) hm)
 simp only [execOp, hx, hy]
 simp [go_sem, h0, h0', h2]
 try exact h1
/-- where v[:k] and v[k:] begin -/
def slT (a : Option Addr) (cap : Nat) : Option Addr := if cap = 0 then a else a.map (·.add 0)
def slF (a : Option Addr) (k cap : Nat) : Option Addr := if cap = k then a else a.map (·.add (k * 4))
theorem o_sliceTo {a : Option Addr} {l cap k : Nat} (hk : k ≤ cap) (hx : ρ x = .slice a l cap) (hy : ρ y = .int .i64 (k : Nat)) : (execOp ρ ⟨dst, .slice 53 x none (some y) none, ty, pos, after, guard⟩).run Try.prog w = .ok (.value (.slice (slT a cap) k cap)) w := by
 have h1 : (k : Int) ≤ (cap : Int) := by omega
 simp [execOp, hx, hy, go_sem, h1, slT]
theorem o_sliceFrom {a : Option Addr} {l cap k : Nat} (hk : k ≤ l) (hl : l ≤ cap) (hx : ρ x = .slice a l cap) (hy : ρ y = .int .i64 (k : Nat)) : (execOp ρ ⟨dst, .slice 53 x (some y) none none, ty, pos, after, guard⟩).run Try.prog w = .ok (.value (.slice (slF a k cap) (l - k) (cap - k))) w := by
 have h1 : (k : Int) ≤ (l : Int) := by omega
 have h2 : (l : Int) ≤ (cap : Int) := by omega
 simp [execOp, hx, hy, go_sem, h1, h2, slF]
end
theorem NSl.to {n₀ : Nat} {w : World} {a : Option Addr} {cap : Nat} {xs : List Nat} (h : NSl n₀ w a cap xs) {k : Nat} (hk : k ≤ xs.length) : NSl n₀ w (slT a cap) cap (xs.take k) := by
 obtain ⟨h1, h2, h3, h4⟩ := h
 refine ⟨by rw [List.length_take]; omega, h2, fun x hx => h3 x (List.mem_of_mem_take hx), ?_⟩
 rcases h4 with rfl | ⟨g, o, rfl, hg, hc⟩
 ·exact Or.inl (by simp)
 ·by_cases h0 : cap = 0
  ·left
   have : xs = [] := List.length_eq_zero_iff.1 (by omega)
   simp [this]
  ·refine Or.inr ⟨g, o, by simp [slT, h0, Addr.add_lit], hg, fun i hi j hj => ?_⟩
   rw [List.length_take] at hi
   rw [List.getElem_take]
   exact hc i (by omega) j hj
theorem NSl.from {n₀ : Nat} {w : World} {a : Option Addr} {cap : Nat} {xs : List Nat} (h : NSl n₀ w a cap xs) {k : Nat} (hk : k ≤ xs.length) : NSl n₀ w (slF a k cap) (cap - k) (xs.drop k) := by
 obtain ⟨h1, h2, h3, h4⟩ := h
 refine ⟨by rw [List.length_drop]; omega, by omega, fun x hx => h3 x (List.mem_of_mem_drop hx), ?_⟩
 rcases h4 with rfl | ⟨g, o, rfl, hg, hc⟩
 ·exact Or.inl (by simp)
 ·by_cases h0 : cap = k
  ·left
   exact List.drop_of_length_le (by omega)
  ·refine Or.inr ⟨g, o + k * 4, by simp [slF, h0, Addr.add_lit], hg, fun i hi j hj => ?_⟩
   rw [List.length_drop] at hi
   rw [List.getElem_drop]
   have := hc (k + i) (by omega) j hj
   rw [show o + k * 4 + i * 4 + j = o + (k + i) * 4 + j by rw [Nat.add_mul]; omega]
   exact this
set_option maxRecDepth 100000 in
set_option maxHeartbeats 8000000 in
theorem gprod_long (P Q G H : Nat) (zs : List NP) (cl cut : Nat) (pl : Option Addr) (w0 : World) (hn : 60 < zs.length) : Calls Try.prog 7 #[grp P Q G H, .slice pl zs.length cl, .int .u8 (cut : Nat)] w0 fun e w' => e = .returned (.bool true) ∧ Below w0.heap.size w0 w' := by
 refine sx_enter (args := [grp P Q G H, .slice pl zs.length cl, .int .u8 (cut : Nat)]) Try.func7 rfl Try.ntmps7 (by rfl) fun a F HM => ?_
 repeat (first | refine ex_then ?_ | refine ex_block ?_ | refine wp_seq ?_ | refine wp_block ?_ | refine wp_skip ?_)
 refine wp_region_lit ?_
 refine lx_new F HM (wanted_none rfl _) rfl (by rfl) (o_boxG (F.ev rfl)) fun a w gr F HM => ?_
 refine lx_value (v := .bool false) F (wanted_none rfl _) rfl (by rfl) (o_assign rfl) fun a F => ?_
 refine lx_nil ?_
 repeat (first | refine ex_then ?_ | refine ex_block ?_ | refine wp_seq ?_ | refine wp_block ?_ | refine wp_skip ?_)
 refine wp_region_lit ?_
 refine lx_call F (wanted_none rfl _) rfl (by rfl) (run_callF Try.func23 (by kernel_rfl) (by rfl) .nil _) (alive8_any _) fun a w z F => ?_
 replace HM := HM.on z
 clear z
 refine lx_value (v := .bool false) F (wanted_none rfl _) rfl (by rfl) (o_not (b := true) (r := false) (F.ev rfl) rfl) fun a F => ?_
 refine lx_value (v := .bool false) F (wanted_none rfl _) rfl (by rfl) (o_move (F.ev rfl)) fun a F => ?_
 refine lx_value (v := .slice pl zs.length cl) F (F.want (t := 26) (c := false) rfl rfl rfl (by rfl) rfl) rfl (by rfl) (o_move (F.ev rfl)) fun a F => ?_
 refine lx_value (v := .int .i64 (zs.length : Nat)) F (F.want (t := 26) (c := false) rfl rfl rfl (by rfl) rfl) rfl (by rfl) (o_lenP (F.ev rfl)) fun a F => ?_
 refine lx_value (v := .bool true) F (F.want (t := 26) (c := false) rfl rfl rfl (by rfl) rfl) rfl (by rfl) (o_bin (u := .int .i64 (zs.length : Nat)) (v := .int .i64 60) (fun ρ hx hy => by simp only [execOp, hx, hy]; simp [go_sem]; omega) (F.ev rfl) rfl) fun a F => ?_
 refine lx_value (v := .bool true) F (wanted_none rfl _) rfl (by rfl) (o_pick (b := false) (r := .bool true) (F.ev rfl) rfl (F.ev rfl) rfl) fun a F => ?_
 refine lx_nil ?_
 repeat (first | refine ex_then ?_ | refine ex_block ?_ | refine wp_seq ?_ | refine wp_block ?_ | refine wp_skip ?_)
 refine wp_cond_true (F.ev rfl) ?_
 repeat (first | refine ex_then ?_ | refine ex_block ?_ | refine wp_seq ?_ | refine wp_block ?_ | refine wp_skip ?_)
 refine wp_region_lit ?_
 refine lx_call F (wanted_none rfl _) rfl (by rfl) (run_callF Try.func23 (by kernel_rfl) (by rfl) .nil _) (alive8_any _) fun a w z F => ?_
 replace HM := HM.on z
 clear z
 refine lx_value (v := .bool true) F (wanted_none rfl _) rfl (by rfl) (o_assign (F.ev rfl)) fun a F => ?_
 refine lx_nil ?_
 repeat (first | refine ex_then ?_ | refine ex_block ?_ | refine wp_seq ?_ | refine wp_block ?_ | refine wp_skip ?_)
 refine wp_ret ?_
 repeat (first | refine ex_thenR ?_ | refine ex_blockR ?_)
 exact sx_ret F HM (res_tmp F rfl (s := 6) rfl)

set_option maxRecDepth 100000 in
set_option maxHeartbeats 8000000 in
theorem gprod_w (P Q G H : Nat) (zs : List NP) (cl cut : Nat) (pl : Option Addr) (w0 : World) (hn : zs.length ≤ 60) (sP : PSl w0.heap.size w0 pl cl zs) (hP : P < 2 ^ 256) (hcut : cut < 256) : Calls Try.prog 7 #[grp P Q G H, .slice pl zs.length cl, .int .u8 (cut : Nat)] w0 fun e w' => e = .returned (.bool true) ∧ Below w0.heap.size w0 w' := by
 refine sx_enter (args := [grp P Q G H, .slice pl zs.length cl, .int .u8 (cut : Nat)]) Try.func7 rfl Try.ntmps7 (by rfl) fun a F HM => ?_
 repeat (first | refine ex_then ?_ | refine ex_block ?_ | refine wp_seq ?_ | refine wp_block ?_ | refine wp_skip ?_)
 refine wp_region_lit ?_
 refine lx_new F HM (wanted_none rfl _) rfl (by rfl) (o_boxG (F.ev rfl)) fun a w gr F HM => ?_
 refine lx_value (v := .bool false) F (wanted_none rfl _) rfl (by rfl) (o_assign rfl) fun a F => ?_
 refine lx_nil ?_
 repeat (first | refine ex_then ?_ | refine ex_block ?_ | refine wp_seq ?_ | refine wp_block ?_ | refine wp_skip ?_)
 refine wp_region_lit ?_
 refine lx_call F (wanted_none rfl _) rfl (by rfl) (run_callF Try.func23 (by kernel_rfl) (by rfl) .nil _) (alive8_any _) fun a w z F => ?_
 replace HM := HM.on z
 clear z
 refine lx_value (v := .bool false) F (wanted_none rfl _) rfl (by rfl) (o_not (b := true) (r := false) (F.ev rfl) rfl) fun a F => ?_
 refine lx_value (v := .bool false) F (wanted_none rfl _) rfl (by rfl) (o_move (F.ev rfl)) fun a F => ?_
 refine lx_value (v := .slice pl zs.length cl) F (F.want (t := 26) (c := false) rfl rfl rfl (by rfl) rfl) rfl (by rfl) (o_move (F.ev rfl)) fun a F => ?_
 refine lx_value (v := .int .i64 (zs.length : Nat)) F (F.want (t := 26) (c := false) rfl rfl rfl (by rfl) rfl) rfl (by rfl) (o_lenP (F.ev rfl)) fun a F => ?_
 refine lx_value (v := .bool false) F (F.want (t := 26) (c := false) rfl rfl rfl (by rfl) rfl) rfl (by rfl) (o_bin (u := .int .i64 (zs.length : Nat)) (v := .int .i64 60) (fun ρ hx hy => by simp only [execOp, hx, hy]; simp [go_sem]; omega) (F.ev rfl) rfl) fun a F => ?_
 refine lx_value (v := .bool false) F (wanted_none rfl _) rfl (by rfl) (o_pick (b := false) (r := .bool false) (F.ev rfl) rfl (F.ev rfl) rfl) fun a F => ?_
 refine lx_nil ?_
 repeat (first | refine ex_then ?_ | refine ex_block ?_ | refine wp_seq ?_ | refine wp_block ?_ | refine wp_skip ?_)
 refine wp_cond_false (F.ev rfl) ?_
 repeat (first | refine ex_then ?_ | refine ex_block ?_ | refine wp_seq ?_ | refine wp_block ?_ | refine wp_skip ?_)
 refine wp_region_lit ?_
 refine lx_value (v := .slice none 0 0) F (wanted_none rfl _) rfl (by rfl) (o_assign rfl) fun a F => ?_
 refine lx_value (v := .slice none 0 0) F (wanted_none rfl _) rfl (by rfl) (o_assign rfl) fun a F => ?_
 refine lx_value (v := .slice none 0 0) F (wanted_none rfl _) rfl (by rfl) (o_assign rfl) fun a F => ?_
 refine lx_value (v := .slice none 0 0) F (wanted_none rfl _) rfl (by rfl) (o_assign rfl) fun a F => ?_
 refine lx_nil ?_
 repeat (first | refine ex_then ?_ | refine ex_block ?_ | refine wp_seq ?_ | refine wp_block ?_ | refine wp_skip ?_)
 refine wp_region_lit ?_
 refine lx_value (v := .int .i64 0) F (wanted_none rfl _) rfl (by rfl) (o_assign rfl) fun a F => ?_
 refine lx_nil ?_
 repeat (first | refine ex_then ?_ | refine ex_block ?_ | refine wp_seq ?_ | refine wp_block ?_ | refine wp_skip ?_)
 obtain ⟨nb, hnb⟩ : ∃ nb, nb = w.heap.size := ⟨_, rfl⟩
 have hgr : gr < nb := by rw [hnb]; exact HM.lt _ List.mem_cons_self
 have hn0 : w0.heap.size ≤ nb := by rw [hnb]; exact HM.bel.size
 refine wp_loop (fun a w => ∃ (i : Nat) (v0 v1 v2 v3 : Value), i ≤ zs.length ∧ Fr a 189 [(11, .int .i64 (i : Nat)), (7, v0), (8, v1), (9, v2), (10, v3), (1, .slice pl zs.length cl), (2, .int .u8 (cut : Nat)), (3, .pointer (some ⟨gr, 0, none⟩))] [] ∧ Mem w0.heap.size w0 w [(gr, 35, gcs P Q G H)] ∧ nb ≤ w.heap.size ∧
  (NR nb w v0 ((zs.take i).map (·.1.1)) ∧ NR nb w v1 ((zs.take i).map (·.1.2)) ∧ NR nb w v2 ((zs.reverse.take i).map (·.1.1)) ∧ NR nb w v3 ((zs.reverse.take i).map (·.1.2))) ∧ Dj v0 v1 ∧ Dj v0 v2 ∧ Dj v0 v3 ∧ Dj v1 v2 ∧ Dj v1 v3 ∧ Dj v2 v3)
  (fun a _ => zs.length - (intOf (a.tmps.getD 11 undef)).toNat) ⟨0, _, _, _, _, Nat.zero_le _, F.sub [11, 7, 8, 9, 10, 1, 2, 3], HM, by omega, ⟨NR.nil _ _, NR.nil _ _, NR.nil _ _, NR.nil _ _⟩, dj_nil _, dj_nil _, dj_nil _, dj_nil _, dj_nil _, dj_nil _⟩ ?_
 clear F HM hnb
 rintro aS wS ⟨i, v0, v1, v2, v3, hi, FS, HM, hnw, ⟨n0, n1, n2, n3⟩, d01, d02, d03, d12, d13, d23⟩
 have F := FS
 by_cases hlt : i < zs.length
 ·repeat (first | refine ex_then ?_ | refine ex_block ?_ | refine wp_seq ?_ | refine wp_block ?_ | refine wp_skip ?_)
  refine wp_region_lit ?_
  refine lx_value (v := .int .i64 (i : Nat)) F (wanted_none rfl _) rfl (by rfl) (o_move (F.ev rfl)) fun a F => ?_
  refine lx_value (v := .slice pl zs.length cl) F (wanted_none rfl _) rfl (by rfl) (o_move (F.ev rfl)) fun a F => ?_
  refine lx_value (v := .int .i64 (zs.length : Nat)) F (wanted_none rfl _) rfl (by rfl) (o_lenP (F.ev rfl)) fun a F => ?_
  refine lx_value (v := .bool true) F (wanted_none rfl _) rfl (by rfl) (o_bin (u := .int .i64 (i : Nat)) (v := .int .i64 (zs.length : Nat)) (fun ρ hx hy => by simp only [execOp, hx, hy]; simp [go_sem]; omega) (F.ev rfl) (F.ev rfl)) fun a F => ?_
  refine lx_nil ?_
  repeat (first | refine ex_then ?_ | refine ex_block ?_ | refine wp_seq ?_ | refine wp_block ?_ | refine wp_skip ?_)
  refine wp_cond_true (F.ev rfl) ?_
  obtain ⟨gl, ol, hpl, hc⟩ := sP.get hlt
  have hlt2 : zs.length - 1 - i < zs.length := by omega
  obtain ⟨gl2, ol2, hpl2, hc2⟩ := sP.get hlt2
  rw [hpl] at hpl2
  obtain ⟨rfl, rfl⟩ : gl = gl2 ∧ ol = ol2 := by cases hpl2; exact ⟨rfl, rfl⟩
  clear hpl2
  subst hpl
  have tk : ∀ (f : NP → Nat), (zs.take (i + 1)).map f = (zs.take i).map f ++ [f (zs[i])] := fun f => by rw [List.take_succ_eq_append_getElem hlt, List.map_append]; rfl
  have tr : ∀ (f : NP → Nat), (zs.reverse.take (i + 1)).map f = (zs.reverse.take i).map f ++ [f (zs[zs.length - 1 - i])] := fun f => by rw [List.take_succ_eq_append_getElem (by simpa using hlt), List.map_append, List.getElem_reverse]; rfl
  generalize zs[i] = z at *
  generalize zs[zs.length - 1 - i] = z2 at *
  have hln : ∀ (f : NP → Nat) (l : List NP), l.length = zs.length → ((l.take i).map f).length < 1000 := fun f l h => by rw [List.length_map, List.length_take]; omega
  repeat (first | refine ex_then ?_ | refine ex_block ?_ | refine wp_seq ?_ | refine wp_block ?_ | refine wp_skip ?_)
  refine wp_region_lit ?_
  refine lx_value (v := v0) F (wanted_none rfl _) rfl (by rfl) (o_move (F.ev rfl)) fun a F => ?_
  refine lx_value (v := .slice (some ⟨gl, ol, none⟩) zs.length cl) F (wanted_none rfl _) rfl (by rfl) (o_move (F.ev rfl)) fun a F => ?_
  refine lx_value (v := .int .i64 (i : Nat)) F (wanted_none rfl _) rfl (by rfl) (o_move (F.ev rfl)) fun a F => ?_
  refine lx_value (v := .pointer (some ⟨gl, ol + (i) * 8, none⟩)) F (wanted_none rfl _) rfl (by rfl) (o_idxP hlt (F.ev rfl) (F.ev rfl)) fun a F => ?_
  refine lx_value (v := .pointer (some ⟨gl, ol + (i) * 8, none⟩)) F (wanted_none rfl _) rfl (by rfl) (o_idxQ0 (F.ev rfl) rfl) fun a F => ?_
  refine lx_value (v := num z.1.1) F (wanted_none rfl _) rfl (by rfl) (o_loadC (F.ev rfl) (hc _ HM.bel).1) fun a F => ?_
  refine lx_row F (wanted_none rfl _) rfl (by rfl) (o_slice1 (F.ev rfl)) fun a w gt F hat zz => ?_
  replace HM := HM.on zz
  replace hnw := Nat.le_trans hnw zz.size
  replace n0 := n0.on zz
  replace n1 := n1.on zz
  replace n2 := n2.on zz
  replace n3 := n3.on zz
  clear zz
  refine lx_append (base := nb) (X := z.1.1) (xs := (zs.take i).map (·.1.1)) F rfl rfl rfl (by rfl) n0 (F.ev rfl) (F.ev rfl) hat (hln _ _ (by simp)) hnw fun a w v0n F nn hg ho hex => ?_
  replace HM := HM.row n0 hg (fun x hx => by rw [List.mem_singleton.1 hx]; exact hgr) hn0
  have e1 := (Dj.grow (v' := v0n) (d01.symm) n1 ho)
  have e2 := (Dj.grow (v' := v0n) (d02.symm) n2 ho)
  have e3 := (Dj.grow (v' := v0n) (d03.symm) n3 ho)
  replace n1 := n1.far hg (d01.symm).far
  replace n2 := n2.far hg (d02.symm).far
  replace n3 := n3.far hg (d03.symm).far
  clear d01
  have d01 := e1.symm
  clear e1
  clear d02
  have d02 := e2.symm
  clear e2
  clear d03
  have d03 := e3.symm
  clear e3
  replace hnw := Nat.le_trans hnw hg.size
  clear n0 hg ho hex hat
  have n0 := nn
  clear nn
  refine lx_value (v := v0n) F (wanted_none rfl _) rfl (by rfl) (o_assign (F.ev rfl)) fun a F => ?_
  refine lx_nil ?_
  repeat (first | refine ex_then ?_ | refine ex_block ?_ | refine wp_seq ?_ | refine wp_block ?_ | refine wp_skip ?_)
  refine wp_region_lit ?_
  refine lx_value (v := v1) F (wanted_none rfl _) rfl (by rfl) (o_move (F.ev rfl)) fun a F => ?_
  refine lx_value (v := .slice (some ⟨gl, ol, none⟩) zs.length cl) F (wanted_none rfl _) rfl (by rfl) (o_move (F.ev rfl)) fun a F => ?_
  refine lx_value (v := .int .i64 (i : Nat)) F (wanted_none rfl _) rfl (by rfl) (o_move (F.ev rfl)) fun a F => ?_
  refine lx_value (v := .pointer (some ⟨gl, ol + (i) * 8, none⟩)) F (wanted_none rfl _) rfl (by rfl) (o_idxP hlt (F.ev rfl) (F.ev rfl)) fun a F => ?_
  refine lx_value (v := .pointer (some ⟨gl, ol + (i) * 8 + 4, none⟩)) F (wanted_none rfl _) rfl (by rfl) (o_idxQ1 (F.ev rfl) rfl) fun a F => ?_
  refine lx_value (v := num z.1.2) F (wanted_none rfl _) rfl (by rfl) (o_loadC (F.ev rfl) (hc _ HM.bel).2) fun a F => ?_
  refine lx_row F (wanted_none rfl _) rfl (by rfl) (o_slice1 (F.ev rfl)) fun a w gt F hat zz => ?_
  replace HM := HM.on zz
  replace hnw := Nat.le_trans hnw zz.size
  replace n0 := n0.on zz
  replace n1 := n1.on zz
  replace n2 := n2.on zz
  replace n3 := n3.on zz
  clear zz
  refine lx_append (base := nb) (X := z.1.2) (xs := (zs.take i).map (·.1.2)) F rfl rfl rfl (by rfl) n1 (F.ev rfl) (F.ev rfl) hat (hln _ _ (by simp)) hnw fun a w v1n F nn hg ho hex => ?_
  replace HM := HM.row n1 hg (fun x hx => by rw [List.mem_singleton.1 hx]; exact hgr) hn0
  have e0 := (Dj.grow (v' := v1n) (d01) n0 ho)
  have e2 := (Dj.grow (v' := v1n) (d12.symm) n2 ho)
  have e3 := (Dj.grow (v' := v1n) (d13.symm) n3 ho)
  replace n0 := n0.far hg (d01).far
  replace n2 := n2.far hg (d12.symm).far
  replace n3 := n3.far hg (d13.symm).far
  clear d01
  have d01 := e0
  clear e0
  clear d12
  have d12 := e2.symm
  clear e2
  clear d13
  have d13 := e3.symm
  clear e3
  replace hnw := Nat.le_trans hnw hg.size
  clear n1 hg ho hex hat
  have n1 := nn
  clear nn
  refine lx_value (v := v1n) F (wanted_none rfl _) rfl (by rfl) (o_assign (F.ev rfl)) fun a F => ?_
  refine lx_nil ?_
  repeat (first | refine ex_then ?_ | refine ex_block ?_ | refine wp_seq ?_ | refine wp_block ?_ | refine wp_skip ?_)
  refine wp_region_lit ?_
  refine lx_value (v := v2) F (wanted_none rfl _) rfl (by rfl) (o_move (F.ev rfl)) fun a F => ?_
  refine lx_value (v := .slice (some ⟨gl, ol, none⟩) zs.length cl) F (wanted_none rfl _) rfl (by rfl) (o_move (F.ev rfl)) fun a F => ?_
  refine lx_value (v := .slice (some ⟨gl, ol, none⟩) zs.length cl) F (wanted_none rfl _) rfl (by rfl) (o_move (F.ev rfl)) fun a F => ?_
  refine lx_value (v := .int .i64 (zs.length : Nat)) F (wanted_none rfl _) rfl (by rfl) (o_lenP (F.ev rfl)) fun a F => ?_
  refine lx_value (v := .int .i64 ((zs.length - 1 : Nat) : Int)) F (wanted_none rfl _) rfl (by rfl) (o_subN (m := zs.length) (k := 1) (by omega) (by omega) (F.ev rfl) rfl) fun a F => ?_
  refine lx_value (v := .int .i64 (i : Nat)) F (wanted_none rfl _) rfl (by rfl) (o_move (F.ev rfl)) fun a F => ?_
  refine lx_value (v := .int .i64 ((zs.length - 1 - i : Nat) : Int)) F (wanted_none rfl _) rfl (by rfl) (o_subN (m := zs.length - 1) (k := i) (by omega) (by omega) (F.ev rfl) (F.ev rfl)) fun a F => ?_
  refine lx_value (v := .pointer (some ⟨gl, ol + (zs.length - 1 - i) * 8, none⟩)) F (wanted_none rfl _) rfl (by rfl) (o_idxP hlt2 (F.ev rfl) (F.ev rfl)) fun a F => ?_
  refine lx_value (v := .pointer (some ⟨gl, ol + (zs.length - 1 - i) * 8, none⟩)) F (wanted_none rfl _) rfl (by rfl) (o_idxQ0 (F.ev rfl) rfl) fun a F => ?_
  refine lx_value (v := num z2.1.1) F (wanted_none rfl _) rfl (by rfl) (o_loadC (F.ev rfl) (hc2 _ HM.bel).1) fun a F => ?_
  refine lx_row F (wanted_none rfl _) rfl (by rfl) (o_slice1 (F.ev rfl)) fun a w gt F hat zz => ?_
  replace HM := HM.on zz
  replace hnw := Nat.le_trans hnw zz.size
  replace n0 := n0.on zz
  replace n1 := n1.on zz
  replace n2 := n2.on zz
  replace n3 := n3.on zz
  clear zz
  refine lx_append (base := nb) (X := z2.1.1) (xs := (zs.reverse.take i).map (·.1.1)) F rfl rfl rfl (by rfl) n2 (F.ev rfl) (F.ev rfl) hat (hln _ _ (by simp)) hnw fun a w v2n F nn hg ho hex => ?_
  replace HM := HM.row n2 hg (fun x hx => by rw [List.mem_singleton.1 hx]; exact hgr) hn0
  have e0 := (Dj.grow (v' := v2n) (d02) n0 ho)
  have e1 := (Dj.grow (v' := v2n) (d12) n1 ho)
  have e3 := (Dj.grow (v' := v2n) (d23.symm) n3 ho)
  replace n0 := n0.far hg (d02).far
  replace n1 := n1.far hg (d12).far
  replace n3 := n3.far hg (d23.symm).far
  clear d02
  have d02 := e0
  clear e0
  clear d12
  have d12 := e1
  clear e1
  clear d23
  have d23 := e3.symm
  clear e3
  replace hnw := Nat.le_trans hnw hg.size
  clear n2 hg ho hex hat
  have n2 := nn
  clear nn
  refine lx_value (v := v2n) F (wanted_none rfl _) rfl (by rfl) (o_assign (F.ev rfl)) fun a F => ?_
  refine lx_nil ?_
  repeat (first | refine ex_then ?_ | refine ex_block ?_ | refine wp_seq ?_ | refine wp_block ?_ | refine wp_skip ?_)
  refine wp_region_lit ?_
  refine lx_value (v := v3) F (wanted_none rfl _) rfl (by rfl) (o_move (F.ev rfl)) fun a F => ?_
  refine lx_value (v := .slice (some ⟨gl, ol, none⟩) zs.length cl) F (wanted_none rfl _) rfl (by rfl) (o_move (F.ev rfl)) fun a F => ?_
  refine lx_value (v := .slice (some ⟨gl, ol, none⟩) zs.length cl) F (wanted_none rfl _) rfl (by rfl) (o_move (F.ev rfl)) fun a F => ?_
  refine lx_value (v := .int .i64 (zs.length : Nat)) F (wanted_none rfl _) rfl (by rfl) (o_lenP (F.ev rfl)) fun a F => ?_
  refine lx_value (v := .int .i64 ((zs.length - 1 : Nat) : Int)) F (wanted_none rfl _) rfl (by rfl) (o_subN (m := zs.length) (k := 1) (by omega) (by omega) (F.ev rfl) rfl) fun a F => ?_
  refine lx_value (v := .int .i64 (i : Nat)) F (wanted_none rfl _) rfl (by rfl) (o_move (F.ev rfl)) fun a F => ?_
  refine lx_value (v := .int .i64 ((zs.length - 1 - i : Nat) : Int)) F (wanted_none rfl _) rfl (by rfl) (o_subN (m := zs.length - 1) (k := i) (by omega) (by omega) (F.ev rfl) (F.ev rfl)) fun a F => ?_
  refine lx_value (v := .pointer (some ⟨gl, ol + (zs.length - 1 - i) * 8, none⟩)) F (wanted_none rfl _) rfl (by rfl) (o_idxP hlt2 (F.ev rfl) (F.ev rfl)) fun a F => ?_
  refine lx_value (v := .pointer (some ⟨gl, ol + (zs.length - 1 - i) * 8 + 4, none⟩)) F (wanted_none rfl _) rfl (by rfl) (o_idxQ1 (F.ev rfl) rfl) fun a F => ?_
  refine lx_value (v := num z2.1.2) F (wanted_none rfl _) rfl (by rfl) (o_loadC (F.ev rfl) (hc2 _ HM.bel).2) fun a F => ?_
  refine lx_row F (wanted_none rfl _) rfl (by rfl) (o_slice1 (F.ev rfl)) fun a w gt F hat zz => ?_
  replace HM := HM.on zz
  replace hnw := Nat.le_trans hnw zz.size
  replace n0 := n0.on zz
  replace n1 := n1.on zz
  replace n2 := n2.on zz
  replace n3 := n3.on zz
  clear zz
  refine lx_append (base := nb) (X := z2.1.2) (xs := (zs.reverse.take i).map (·.1.2)) F rfl rfl rfl (by rfl) n3 (F.ev rfl) (F.ev rfl) hat (hln _ _ (by simp)) hnw fun a w v3n F nn hg ho hex => ?_
  replace HM := HM.row n3 hg (fun x hx => by rw [List.mem_singleton.1 hx]; exact hgr) hn0
  have e0 := (Dj.grow (v' := v3n) (d03) n0 ho)
  have e1 := (Dj.grow (v' := v3n) (d13) n1 ho)
  have e2 := (Dj.grow (v' := v3n) (d23) n2 ho)
  replace n0 := n0.far hg (d03).far
  replace n1 := n1.far hg (d13).far
  replace n2 := n2.far hg (d23).far
  clear d03
  have d03 := e0
  clear e0
  clear d13
  have d13 := e1
  clear e1
  clear d23
  have d23 := e2
  clear e2
  replace hnw := Nat.le_trans hnw hg.size
  clear n3 hg ho hex hat
  have n3 := nn
  clear nn
  refine lx_value (v := v3n) F (wanted_none rfl _) rfl (by rfl) (o_assign (F.ev rfl)) fun a F => ?_
  refine lx_nil ?_
  repeat (first | refine ex_then ?_ | refine ex_block ?_ | refine wp_seq ?_ | refine wp_block ?_ | refine wp_skip ?_)
  refine wp_region_lit ?_
  refine lx_value (v := .int .i64 (i : Nat)) F (wanted_none rfl _) rfl (by rfl) (o_move (F.ev rfl)) fun a F => ?_
  refine lx_value (v := .int .i64 ((i + 1 : Nat) : Int)) F (wanted_none rfl _) rfl (by rfl) (o_addN (m := i) (k := 1) (by omega) (F.ev rfl) rfl) fun a F => ?_
  refine lx_value (v := .int .i64 ((i + 1 : Nat) : Int)) F (wanted_none rfl _) rfl (by rfl) (o_assign (F.ev rfl)) fun a F => ?_
  refine lx_nil ?_
  refine ex_then ?_
  refine ⟨⟨i + 1, v0n, v1n, v2n, v3n, by omega, F.sub [11, 7, 8, 9, 10, 1, 2, 3], HM, hnw, ⟨?_, ?_, ?_, ?_⟩, d01, d02, d03, d12, d13, d23⟩, ?_⟩
  ·rw [tk]; exact n0
  ·rw [tk]; exact n1
  ·rw [tr]; exact n2
  ·rw [tr]; exact n3
  ·show zs.length - (intOf (a.tmps.getD 11 undef)).toNat < zs.length - (intOf (aS.tmps.getD 11 undef)).toNat
   rw [F.get 11 _ rfl, FS.get 11 _ rfl]
   show zs.length - ((i + 1 : Nat) : Int).toNat < zs.length - ((i : Nat) : Int).toNat
   omega
 ·repeat (first | refine ex_then ?_ | refine ex_block ?_ | refine wp_seq ?_ | refine wp_block ?_ | refine wp_skip ?_)
  refine wp_region_lit ?_
  refine lx_value (v := .int .i64 (i : Nat)) F (wanted_none rfl _) rfl (by rfl) (o_move (F.ev rfl)) fun a F => ?_
  refine lx_value (v := .slice pl zs.length cl) F (wanted_none rfl _) rfl (by rfl) (o_move (F.ev rfl)) fun a F => ?_
  refine lx_value (v := .int .i64 (zs.length : Nat)) F (wanted_none rfl _) rfl (by rfl) (o_lenP (F.ev rfl)) fun a F => ?_
  refine lx_value (v := .bool false) F (wanted_none rfl _) rfl (by rfl) (o_bin (u := .int .i64 (i : Nat)) (v := .int .i64 (zs.length : Nat)) (fun ρ hx hy => by simp only [execOp, hx, hy]; simp [go_sem]; omega) (F.ev rfl) (F.ev rfl)) fun a F => ?_
  refine lx_nil ?_
  repeat (first | refine ex_then ?_ | refine ex_block ?_ | refine wp_seq ?_ | refine wp_block ?_ | refine wp_skip ?_)
  refine wp_cond_false (F.ev rfl) ?_
  repeat (first | refine ex_then ?_ | refine ex_block ?_ | refine wp_seq ?_ | refine wp_block ?_ | refine wp_skip ?_)
  refine wp_exit ?_
  repeat (first | refine ex_thenE ?_ | refine ex_blockE ?_)
  obtain rfl : i = zs.length := by omega
  clear FS hlt hi d02 d03 d12 d13 d23
  rw [List.take_length] at n0 n1
  rw [show zs.reverse.take zs.length = zs.reverse from List.take_of_length_le (by simp)] at n2 n3
  have HG := HM.get 0 rfl
  have HB := HM.bel
  have B1 : ∀ (l : List NP), ∀ x ∈ l.map (·.1.1), x < 2 ^ 256 := fun l x hx => by obtain ⟨y, _, rfl⟩ := List.mem_map.1 hx; exact y.2.1
  have B2 : ∀ (l : List NP), ∀ x ∈ l.map (·.1.2), x < 2 ^ 256 := fun l x hx => by obtain ⟨y, _, rfl⟩ := List.mem_map.1 hx; exact y.2.2
  have s0 := n0.sl (B1 _)
  rw [List.length_map] at s0
  obtain ⟨pa, ca, rfl, m0⟩ := s0
  have s1 := n1.sl (B2 _)
  rw [List.length_map] at s1
  obtain ⟨pb, cb, rfl, m1⟩ := s1
  have s2 := n2.sl (B1 _)
  rw [List.length_map, List.length_reverse] at s2
  obtain ⟨pc, cc, rfl, m2⟩ := s2
  have s3 := n3.sl (B2 _)
  rw [List.length_map, List.length_reverse] at s3
  obtain ⟨pd, cd, rfl, m3⟩ := s3
  clear HM n0 n1 n2 n3 d01 hnw
  have HM := Mem.start wS
  by_cases hgood : 1 < P ∧ mayAll P zs = true
  ·obtain ⟨h1, hm⟩ := hgood
   have pr := fun (u : World) (hu : Below wS.heap.size wS u) (l : List NP) (hl : mayAll P l = true) (a b : Option Addr) (ca cb : Nat) (sa : NSl wS.heap.size wS a ca (l.map (·.1.1))) (sb : NSl wS.heap.size wS b cb (l.map (·.1.2))) => (show Calls Try.prog 28 #[grp P Q G H, .slice a l.length ca, .slice b l.length cb] u fun e w2 => e = .returned (.tuple #[num (prodN P l), .int .i64 0]) ∧ Below u.heap.size u w2 from by have := prod_good P Q G H l a b ca cb hP h1 u ((sa.below hu).up hu.size) ((sb.below hu).up hu.size); rwa [if_pos hl] at this)
   have cA := fun u hu => pr u hu zs hm pa pb ca cb m0 m1
   have cB := fun u hu => pr u hu zs.reverse (by rw [mayAll_rev]; exact hm) pc pd cc cd m2 m3
   rw [List.length_reverse, prodN_rev h1] at cB
   obtain ⟨kk, hkk⟩ : ∃ kk, kk = cut % (zs.length + 1) := ⟨_, rfl⟩
   have hk1 : kk ≤ zs.length := by have := Nat.mod_lt cut (show 0 < zs.length + 1 by omega); omega
   have lc := m0.1; have ld := m1.1
   rw [List.length_map] at lc ld
   have cC := fun u hu => pr u hu (zs.take kk) (mayAll_take hm kk) (slT pa ca) (slT pb cb) ca cb (by rw [List.map_take]; exact m0.to (by rw [List.length_map]; exact hk1)) (by rw [List.map_take]; exact m1.to (by rw [List.length_map]; exact hk1))
   have cD := fun u hu => pr u hu (zs.drop kk) (mayAll_drop hm kk) (slF pa kk ca) (slF pb kk cb) (ca - kk) (cb - kk) (by rw [List.map_drop]; exact m0.from (by rw [List.length_map]; exact hk1)) (by rw [List.map_drop]; exact m1.from (by rw [List.length_map]; exact hk1))
   rw [List.length_take, Nat.min_eq_left hk1] at cC
   rw [List.length_drop] at cD
   have hV := prodN_app h1 (zs.take kk) (zs.drop kk)
   rw [List.take_append_drop] at hV
   have hX1 := prodN_lt h1 (zs.take kk); have hX2 := prodN_lt h1 (zs.drop kk); have hVl := prodN_lt h1 zs
   have hone : ∀ z, zs = [z] → prodN P zs = z.1.1 ^ z.1.2 % P ∧ mayB P z.1.1 = true := fun z hz => by subst hz; exact ⟨prodN_one h1 z, List.all_eq_true.1 hm z List.mem_cons_self⟩
   generalize prodN P (zs.take kk) = X1 at *
   generalize prodN P (zs.drop kk) = X2 at *
   generalize prodN P zs = V at *
   have hX1b := Nat.lt_trans hX1 hP; have hX2b := Nat.lt_trans hX2 hP; have hVb := Nat.lt_trans hVl hP
   have hrk : (cut % (zs.length + 1) : Nat) = kk := hkk.symm
   repeat (first | refine ex_then ?_ | refine ex_block ?_ | refine wp_seq ?_ | refine wp_block ?_ | refine wp_skip ?_)
   refine wp_region_lit ?_
   refine lx_value (v := grp P Q G H) F (wanted_none rfl _) rfl (by rfl) (o_loadG (F.ev rfl) (HG.on HM.bel)) fun a F => ?_
   refine lx_value (v := .slice pa zs.length ca) F (wanted_none rfl _) rfl (by rfl) (o_move (F.ev rfl)) fun a F => ?_
   refine lx_value (v := .slice pb zs.length cb) F (wanted_none rfl _) rfl (by rfl) (o_move (F.ev rfl)) fun a F => ?_
   refine lx_call F (wanted_none rfl _) rfl (by rfl) (run_callF Try.func28 (by kernel_rfl) (by rfl) (.cons (F.ev rfl) (.cons (F.ev rfl) (.cons (F.ev rfl) .nil))) _) (cA _ HM.bel) fun a w z F => ?_
   replace HM := HM.on z
   clear z
   refine lx_value (v := .tuple #[num V, .int .i64 0]) F (wanted_none rfl _) rfl (by rfl) (o_move (F.ev rfl)) fun a F => ?_
   refine lx_value (v := num V) F (wanted_none rfl _) rfl (by rfl) (o_extract (F.ev rfl) rfl) fun a F => ?_
   refine lx_value (v := .int .i64 0) F (wanted_none rfl _) rfl (by rfl) (o_extract (F.ev rfl) rfl) fun a F => ?_
   refine lx_new F HM (wanted_none rfl _) rfl (by rfl) (o_allocN) fun a w gx F HM => ?_
   refine lx_store F HM (wanted_none rfl _) rfl (k := 0) rfl (o_storeN (F.ev rfl) (F.ev rfl) (HM.get 0 rfl)) (M2 := [(gx, 24, ncs V)]) rfl fun w HM => ?_
   refine lx_value (v := .int .i64 0) F (wanted_none rfl _) rfl (by rfl) (o_assign (F.ev rfl)) fun a F => ?_
   refine lx_nil ?_
   repeat (first | refine ex_then ?_ | refine ex_block ?_ | refine wp_seq ?_ | refine wp_block ?_ | refine wp_skip ?_)
   refine wp_region_lit ?_
   refine lx_value (v := grp P Q G H) F (wanted_none rfl _) rfl (by rfl) (o_loadG (F.ev rfl) (HG.on HM.bel)) fun a F => ?_
   refine lx_value (v := .slice pc zs.length cc) F (wanted_none rfl _) rfl (by rfl) (o_move (F.ev rfl)) fun a F => ?_
   refine lx_value (v := .slice pd zs.length cd) F (wanted_none rfl _) rfl (by rfl) (o_move (F.ev rfl)) fun a F => ?_
   refine lx_call F (wanted_none rfl _) rfl (by rfl) (run_callF Try.func28 (by kernel_rfl) (by rfl) (.cons (F.ev rfl) (.cons (F.ev rfl) (.cons (F.ev rfl) .nil))) _) (cB _ HM.bel) fun a w z F => ?_
   replace HM := HM.on z
   clear z
   refine lx_value (v := .tuple #[num V, .int .i64 0]) F (wanted_none rfl _) rfl (by rfl) (o_move (F.ev rfl)) fun a F => ?_
   refine lx_value (v := num V) F (wanted_none rfl _) rfl (by rfl) (o_extract (F.ev rfl) rfl) fun a F => ?_
   refine lx_value (v := .int .i64 0) F (wanted_none rfl _) rfl (by rfl) (o_extract (F.ev rfl) rfl) fun a F => ?_
   refine lx_new F HM (wanted_none rfl _) rfl (by rfl) (o_allocN) fun a w gy F HM => ?_
   refine lx_store F HM (wanted_none rfl _) rfl (k := 0) rfl (o_storeN (F.ev rfl) (F.ev rfl) (HM.get 0 rfl)) (M2 := [(gy, 24, ncs V), (gx, 24, ncs V)]) rfl fun w HM => ?_
   refine lx_value (v := .int .i64 0) F (wanted_none rfl _) rfl (by rfl) (o_assign (F.ev rfl)) fun a F => ?_
   refine lx_nil ?_
   repeat (first | refine ex_then ?_ | refine ex_block ?_ | refine wp_seq ?_ | refine wp_block ?_ | refine wp_skip ?_)
   refine wp_region_lit ?_
   refine lx_value (v := .int .i64 0) F (wanted_none rfl _) rfl (by rfl) (o_move (F.ev rfl)) fun a F => ?_
   refine lx_value (v := .int .i64 0) F (wanted_none rfl _) rfl (by rfl) (o_move (F.ev rfl)) fun a F => ?_
   refine lx_value (v := .bool false) F (wanted_none rfl _) rfl (by rfl) (o_bin (u := .int .i64 0) (v := .int .i64 0) (fun ρ hx hy => by simp only [execOp, hx, hy]; simp [go_sem]) (F.ev rfl) (F.ev rfl)) fun a F => ?_
   refine lx_value (v := .bool false) F (wanted_none rfl _) rfl (by rfl) (o_move (F.ev rfl)) fun a F => ?_
   refine lx_value (v := num V) F (F.want (t := 95) (c := false) rfl rfl rfl (by rfl) rfl) rfl (by rfl) (o_loadN (F.ev rfl) (HM.get 1 rfl)) fun a F => ?_
   refine lx_value (v := num V) F (F.want (t := 95) (c := false) rfl rfl rfl (by rfl) rfl) rfl (by rfl) (o_loadN (F.ev rfl) (HM.get 0 rfl)) fun a F => ?_
   refine lx_value (v := .bool false) F (F.want (t := 95) (c := false) rfl rfl rfl (by rfl) rfl) rfl (by rfl) (o_neqS (F.ev rfl) (F.ev rfl)) fun a F => ?_
   refine lx_value (v := .bool false) F (wanted_none rfl _) rfl (by rfl) (o_pick (b := false) (r := .bool false) (F.ev rfl) rfl (F.ev rfl) rfl) fun a F => ?_
   refine lx_nil ?_
   repeat (first | refine ex_then ?_ | refine ex_block ?_ | refine wp_seq ?_ | refine wp_block ?_ | refine wp_skip ?_)
   refine wp_cond_false (F.ev rfl) ?_
   repeat (first | refine ex_then ?_ | refine ex_block ?_ | refine wp_seq ?_ | refine wp_block ?_ | refine wp_skip ?_)
   refine wp_region_lit ?_
   refine lx_value (v := .int .i64 0) F (wanted_none rfl _) rfl (by rfl) (o_move (F.ev rfl)) fun a F => ?_
   refine lx_value (v := .bool false) F (wanted_none rfl _) rfl (by rfl) (o_bin (u := .int .i64 0) (v := .int .i64 0) (fun ρ hx hy => by simp only [execOp, hx, hy]; simp [go_sem]) (F.ev rfl) rfl) fun a F => ?_
   refine lx_nil ?_
   repeat (first | refine ex_then ?_ | refine ex_block ?_ | refine wp_seq ?_ | refine wp_block ?_ | refine wp_skip ?_)
   refine wp_cond_false (F.ev rfl) ?_
   repeat (first | refine ex_then ?_ | refine ex_block ?_ | refine wp_seq ?_ | refine wp_block ?_ | refine wp_skip ?_)
   refine wp_region_lit ?_
   refine lx_value (v := .int .u8 (cut : Nat)) F (wanted_none rfl _) rfl (by rfl) (o_move (F.ev rfl)) fun a F => ?_
   refine lx_value (v := .int .i64 (cut : Nat)) F (wanted_none rfl _) rfl (by rfl) (o_conv8 hcut (F.ev rfl)) fun a F => ?_
   refine lx_value (v := .slice pl zs.length cl) F (wanted_none rfl _) rfl (by rfl) (o_move (F.ev rfl)) fun a F => ?_
   refine lx_value (v := .int .i64 (zs.length : Nat)) F (wanted_none rfl _) rfl (by rfl) (o_lenP (F.ev rfl)) fun a F => ?_
   refine lx_value (v := .int .i64 ((zs.length + 1 : Nat) : Int)) F (wanted_none rfl _) rfl (by rfl) (o_addN (m := zs.length) (k := 1) (by omega) (F.ev rfl) rfl) fun a F => ?_
   refine lx_value (v := .int .i64 ((kk : Nat) : Int)) F (wanted_none rfl _) rfl (by rfl) (by rw [← hrk]; exact o_remN (m := cut) (k := zs.length + 1) (by omega) (by omega) (F.ev rfl) (F.ev rfl)) fun a F => ?_
   refine lx_value (v := .int .i64 ((kk : Nat) : Int)) F (wanted_none rfl _) rfl (by rfl) (o_assign (F.ev rfl)) fun a F => ?_
   refine lx_nil ?_
   repeat (first | refine ex_then ?_ | refine ex_block ?_ | refine wp_seq ?_ | refine wp_block ?_ | refine wp_skip ?_)
   try simp only [List.append_eq, List.cons_append, List.nil_append]
   refine sx_drawn [⟨0, 116, [], .val (grp P Q G H), true⟩,
   ⟨1, 117, [0], .val (.slice pa zs.length ca), true⟩,
   ⟨2, 118, [1], .val (.int .i64 ((kk : Nat) : Int)), true⟩,
   ⟨3, 119, [1, 2], .val (.slice (slT pa ca) kk ca), true⟩,
   ⟨4, 120, [3], .val (.slice pb zs.length cb), true⟩,
   ⟨5, 121, [4], .val (.int .i64 ((kk : Nat) : Int)), true⟩,
   ⟨6, 122, [4, 5], .val (.slice (slT pb cb) kk cb), true⟩,
   ⟨11, 17, [], .cell 24 (ncs 0), false⟩,
   ⟨7, 123, [0, 3, 6], .val (.tuple #[num X1, .int .i64 0]), false⟩,
   ⟨8, 115, [8], .val (.tuple #[num X1, .int .i64 0]), true⟩,
   ⟨9, 124, [9], .val (num X1), true⟩,
   ⟨10, 125, [9, 10], .val (.int .i64 0), true⟩] 2 F HM (by kernel_rfl) (by rfl) (by rfl) ?_ ?_ ?_ ?_ ?_ ?_ ?_
   ·kernel_rfl
   ·exact of_decide_eq_true (by kernel_rfl)
   ·(repeat refine all_cons ⟨_, by rfl, by rfl⟩ ?_); exact all_nil
   ·kernel_rfl
   ·(repeat (refine all_cons ?_ ?_; rotate_left)); exact all_nil
    ·exact coreS _ _ _ _ _ _ _ (by rfl) (by rfl) (wants_none) (fun ρ w kn hs => o_loadG (kn _ _ (F.old (by rfl) rfl)) (HG.on hs.bel))
    ·exact coreS _ _ _ _ _ _ _ (by rfl) (by rfl) (wants_none) (fun ρ w kn hs => o_move (kn _ _ (F.old (by rfl) rfl)))
    ·exact coreS _ _ _ _ _ _ _ (by rfl) (by rfl) (wants_none) (fun ρ w kn hs => o_move (kn _ _ (F.old (by rfl) rfl)))
    ·exact coreS _ _ _ _ _ _ _ (by rfl) (by rfl) (wants_none) (fun ρ w kn hs => o_sliceTo (k := kk) (by omega) (kn _ _ (kc 1 117)) (kn _ _ (kc 2 118)))
    ·exact coreS _ _ _ _ _ _ _ (by rfl) (by rfl) (wants_none) (fun ρ w kn hs => o_move (kn _ _ (F.old (by rfl) rfl)))
    ·exact coreS _ _ _ _ _ _ _ (by rfl) (by rfl) (wants_none) (fun ρ w kn hs => o_move (kn _ _ (F.old (by rfl) rfl)))
    ·exact coreS _ _ _ _ _ _ _ (by rfl) (by rfl) (wants_none) (fun ρ w kn hs => o_sliceTo (k := kk) (by omega) (kn _ _ (kc 4 120)) (kn _ _ (kc 5 121)))
    ·exact core_pureAs _ (by rfl)
    ·exact core_pureAs _ (by rfl)
    ·exact coreS _ _ _ _ _ _ _ (by rfl) (by rfl) (wants_none) (fun ρ w kn hs => o_move (kn _ _ (kc 8 123)))
    ·exact coreS _ _ _ _ _ _ _ (by rfl) (by rfl) (wants_none) (fun ρ w kn hs => o_extract (kn _ _ (kc 9 115)) rfl)
    ·exact coreS _ _ _ _ _ _ _ (by rfl) (by rfl) (wants_none) (fun ρ w kn hs => o_extract (kn _ _ (kc 9 115)) rfl)
   ·(repeat (refine all_cons ?_ ?_; rotate_left)); exact all_nil
    ·exact sA
    ·exact sA
    ·exact sA
    ·exact sA
    ·exact sA
    ·exact sA
    ·exact sA
    ·exact fun _ => core_new _ _ _ _ _ _ _ _ (by rfl) (by rfl) (Nat.le_refl _) (fun ρ w => o_allocN)
    ·exact fun _ => coreG_callB _ 28 _ _ [.tmp 116, .tmp 119, .tmp 122] _ _ _ _ _ _ _ (by rfl) Try.func28 (by kernel_rfl) (by rfl) (by rfl) (wants_none) (.cons (kc 0 116) (.cons (kc 3 119) (.cons (kc 6 122) .nil))) (fun u hb => cC u (bel_tr HM.bel hb))
    ·exact sA
    ·exact sA
    ·exact sA
   intro gs rs a w hgs hrs F HM
   obtain rfl := nl0 rs hrs
   clear hrs
   obtain ⟨gu, rfl⟩ := nl1 gs hgs
   clear hgs
   refine sx_store (i := 12) HM (by kernel_rfl) (by rfl) rfl rfl (k := 0) rfl (o_storeN (F.ev rfl) (F.ev rfl) (HM.get 0 rfl)) (M2 := [(gu, 24, ncs X1), (gy, 24, ncs V), (gx, 24, ncs V)]) rfl (fun _ h => h.tail (A := [(gu, 24, ncs X1)])) fun w HM => ?_
   refine sx_assign (i := 13) (d := 15) (x := .tmp 125) (v := .int .i64 0) F (HM.tail (A := [(gu, 24, ncs X1)])) (by kernel_rfl) (by rfl) (by rfl) (F.ev rfl) fun a F => ?_
   refine sx_done (by kernel_rfl) ?_ _
   repeat (first | refine ex_then ?_ | refine ex_block ?_ | refine wp_seq ?_ | refine wp_block ?_ | refine wp_skip ?_)
   try simp only [List.append_eq, List.cons_append, List.nil_append]
   refine sx_drawn [⟨0, 127, [], .val (grp P Q G H), true⟩,
   ⟨1, 128, [0], .val (.slice pa zs.length ca), true⟩,
   ⟨2, 129, [1], .val (.int .i64 ((kk : Nat) : Int)), true⟩,
   ⟨3, 130, [1, 2], .val (.slice (slF pa kk ca) (zs.length - kk) (ca - kk)), true⟩,
   ⟨4, 131, [3], .val (.slice pb zs.length cb), true⟩,
   ⟨5, 132, [4], .val (.int .i64 ((kk : Nat) : Int)), true⟩,
   ⟨6, 133, [4, 5], .val (.slice (slF pb kk cb) (zs.length - kk) (cb - kk)), true⟩,
   ⟨11, 18, [], .cell 24 (ncs 0), false⟩,
   ⟨7, 134, [0, 3, 6], .val (.tuple #[num X2, .int .i64 0]), false⟩,
   ⟨8, 126, [8], .val (.tuple #[num X2, .int .i64 0]), true⟩,
   ⟨9, 135, [9], .val (num X2), true⟩,
   ⟨10, 136, [9, 10], .val (.int .i64 0), true⟩] 2 F HM (by kernel_rfl) (by rfl) (by rfl) ?_ ?_ ?_ ?_ ?_ ?_ ?_
   ·kernel_rfl
   ·exact of_decide_eq_true (by kernel_rfl)
   ·(repeat refine all_cons ⟨_, by rfl, by rfl⟩ ?_); exact all_nil
   ·kernel_rfl
   ·(repeat (refine all_cons ?_ ?_; rotate_left)); exact all_nil
    ·exact coreS _ _ _ _ _ _ _ (by rfl) (by rfl) (wants_none) (fun ρ w kn hs => o_loadG (kn _ _ (F.old (by rfl) rfl)) (HG.on hs.bel))
    ·exact coreS _ _ _ _ _ _ _ (by rfl) (by rfl) (wants_none) (fun ρ w kn hs => o_move (kn _ _ (F.old (by rfl) rfl)))
    ·exact coreS _ _ _ _ _ _ _ (by rfl) (by rfl) (wants_none) (fun ρ w kn hs => o_move (kn _ _ (F.old (by rfl) rfl)))
    ·exact coreS _ _ _ _ _ _ _ (by rfl) (by rfl) (wants_none) (fun ρ w kn hs => o_sliceFrom (k := kk) hk1 lc (kn _ _ (kc 1 128)) (kn _ _ (kc 2 129)))
    ·exact coreS _ _ _ _ _ _ _ (by rfl) (by rfl) (wants_none) (fun ρ w kn hs => o_move (kn _ _ (F.old (by rfl) rfl)))
    ·exact coreS _ _ _ _ _ _ _ (by rfl) (by rfl) (wants_none) (fun ρ w kn hs => o_move (kn _ _ (F.old (by rfl) rfl)))
    ·exact coreS _ _ _ _ _ _ _ (by rfl) (by rfl) (wants_none) (fun ρ w kn hs => o_sliceFrom (k := kk) hk1 ld (kn _ _ (kc 4 131)) (kn _ _ (kc 5 132)))
    ·exact core_pureAs _ (by rfl)
    ·exact core_pureAs _ (by rfl)
    ·exact coreS _ _ _ _ _ _ _ (by rfl) (by rfl) (wants_none) (fun ρ w kn hs => o_move (kn _ _ (kc 8 134)))
    ·exact coreS _ _ _ _ _ _ _ (by rfl) (by rfl) (wants_none) (fun ρ w kn hs => o_extract (kn _ _ (kc 9 126)) rfl)
    ·exact coreS _ _ _ _ _ _ _ (by rfl) (by rfl) (wants_none) (fun ρ w kn hs => o_extract (kn _ _ (kc 9 126)) rfl)
   ·(repeat (refine all_cons ?_ ?_; rotate_left)); exact all_nil
    ·exact sA
    ·exact sA
    ·exact sA
    ·exact sA
    ·exact sA
    ·exact sA
    ·exact sA
    ·exact fun _ => core_new _ _ _ _ _ _ _ _ (by rfl) (by rfl) (Nat.le_refl _) (fun ρ w => o_allocN)
    ·exact fun _ => coreG_callB _ 28 _ _ [.tmp 127, .tmp 130, .tmp 133] _ _ _ _ _ _ _ (by rfl) Try.func28 (by kernel_rfl) (by rfl) (by rfl) (wants_none) (.cons (kc 0 127) (.cons (kc 3 130) (.cons (kc 6 133) .nil))) (fun u hb => cD u (bel_tr HM.bel hb))
    ·exact sA
    ·exact sA
    ·exact sA
   intro gs rs a w hgs hrs F HM
   obtain rfl := nl0 rs hrs
   clear hrs
   obtain ⟨gv, rfl⟩ := nl1 gs hgs
   clear hgs
   refine sx_store (i := 12) HM (by kernel_rfl) (by rfl) rfl rfl (k := 0) rfl (o_storeN (F.ev rfl) (F.ev rfl) (HM.get 0 rfl)) (M2 := [(gv, 24, ncs X2), (gu, 24, ncs X1), (gy, 24, ncs V), (gx, 24, ncs V)]) rfl (fun _ h => h.tail (A := [(gv, 24, ncs X2)])) fun w HM => ?_
   refine sx_assign (i := 13) (d := 19) (x := .tmp 136) (v := .int .i64 0) F (HM.tail (A := [(gv, 24, ncs X2)])) (by kernel_rfl) (by rfl) (by rfl) (F.ev rfl) fun a F => ?_
   refine sx_done (by kernel_rfl) ?_ _
   repeat (first | refine ex_then ?_ | refine ex_block ?_ | refine wp_seq ?_ | refine wp_block ?_ | refine wp_skip ?_)
   refine wp_region_lit ?_
   refine lx_value (v := .int .i64 0) F (wanted_none rfl _) rfl (by rfl) (o_move (F.ev rfl)) fun a F => ?_
   refine lx_value (v := .bool false) F (wanted_none rfl _) rfl (by rfl) (o_bin (u := .int .i64 0) (v := .int .i64 0) (fun ρ hx hy => by simp only [execOp, hx, hy]; simp [go_sem]) (F.ev rfl) rfl) fun a F => ?_
   refine lx_value (v := .bool false) F (wanted_none rfl _) rfl (by rfl) (o_move (F.ev rfl)) fun a F => ?_
   refine lx_value (v := .int .i64 0) F (F.want (t := 139) (c := false) rfl rfl rfl (by rfl) rfl) rfl (by rfl) (o_move (F.ev rfl)) fun a F => ?_
   refine lx_value (v := .bool false) F (F.want (t := 139) (c := false) rfl rfl rfl (by rfl) rfl) rfl (by rfl) (o_bin (u := .int .i64 0) (v := .int .i64 0) (fun ρ hx hy => by simp only [execOp, hx, hy]; simp [go_sem]) (F.ev rfl) rfl) fun a F => ?_
   refine lx_value (v := .bool false) F (wanted_none rfl _) rfl (by rfl) (o_pick (b := false) (r := .bool false) (F.ev rfl) rfl (F.ev rfl) rfl) fun a F => ?_
   refine lx_nil ?_
   repeat (first | refine ex_then ?_ | refine ex_block ?_ | refine wp_seq ?_ | refine wp_block ?_ | refine wp_skip ?_)
   refine wp_cond_false (F.ev rfl) ?_
   by_cases hl1 : zs.length = 1
   ·repeat (first | refine ex_then ?_ | refine ex_block ?_ | refine wp_seq ?_ | refine wp_block ?_ | refine wp_skip ?_)
    refine wp_region_lit ?_
    refine lx_value (v := .slice pl zs.length cl) F (wanted_none rfl _) rfl (by rfl) (o_move (F.ev rfl)) fun a F => ?_
    refine lx_value (v := .int .i64 (zs.length : Nat)) F (wanted_none rfl _) rfl (by rfl) (o_lenP (F.ev rfl)) fun a F => ?_
    refine lx_value (v := .bool true) F (wanted_none rfl _) rfl (by rfl) (o_bin (u := .int .i64 (zs.length : Nat)) (v := .int .i64 1) (fun ρ hx hy => by simp only [execOp, hx, hy]; simp [go_sem]; omega) (F.ev rfl) rfl) fun a F => ?_
    refine lx_nil ?_
    repeat (first | refine ex_then ?_ | refine ex_block ?_ | refine wp_seq ?_ | refine wp_block ?_ | refine wp_skip ?_)
    refine wp_cond_true (F.ev rfl) ?_
    obtain ⟨z, hz⟩ := List.length_eq_one_iff.1 hl1
    obtain ⟨hVz, hmz⟩ := hone z hz
    obtain ⟨ga, oa, hpa, ka⟩ := m0.head hz
    obtain ⟨gb, ob, hpb, kb⟩ := m1.head hz
    clear hz hone
    have cE := gexp_yes P Q G H z.1.1 z.1.2 hP z.2.1 z.2.2 hmz
    rw [← hVz] at cE
    repeat (first | refine ex_then ?_ | refine ex_block ?_ | refine wp_seq ?_ | refine wp_block ?_ | refine wp_skip ?_)
    try simp only [List.append_eq, List.cons_append, List.nil_append]
    refine sx_drawn [⟨0, 147, [], .val (grp P Q G H), true⟩,
   ⟨1, 148, [0], .val (.slice pa zs.length ca), true⟩,
   ⟨2, 149, [1], .val (.pointer (some ⟨ga, oa, none⟩)), true⟩,
   ⟨3, 150, [2], .val (num (z.1.1)), true⟩,
   ⟨4, 151, [3], .val (.slice pb zs.length cb), true⟩,
   ⟨5, 152, [4], .val (.pointer (some ⟨gb, ob, none⟩)), true⟩,
   ⟨6, 153, [5], .val (num (z.1.2)), true⟩,
   ⟨11, 20, [], .cell 24 (ncs 0), false⟩,
   ⟨7, 154, [0, 3, 6], .val (.tuple #[num V, .int .i64 0]), false⟩,
   ⟨8, 146, [8], .val (.tuple #[num V, .int .i64 0]), true⟩,
   ⟨9, 155, [9], .val (num V), true⟩,
   ⟨10, 156, [9, 10], .val (.int .i64 0), true⟩] 2 F HM (by kernel_rfl) (by rfl) (by rfl) ?_ ?_ ?_ ?_ ?_ ?_ ?_
    ·kernel_rfl
    ·exact of_decide_eq_true (by kernel_rfl)
    ·(repeat refine all_cons ⟨_, by rfl, by rfl⟩ ?_); exact all_nil
    ·kernel_rfl
    ·(repeat (refine all_cons ?_ ?_; rotate_left)); exact all_nil
     ·exact coreS _ _ _ _ _ _ _ (by rfl) (by rfl) (wants_none) (fun ρ w kn hs => o_loadG (kn _ _ (F.old (by rfl) rfl)) (HG.on hs.bel))
     ·exact coreS _ _ _ _ _ _ _ (by rfl) (by rfl) (wants_none) (fun ρ w kn hs => o_move (kn _ _ (F.old (by rfl) rfl)))
     ·exact coreS _ _ _ _ _ _ _ (by rfl) (by rfl) (wants_none) (fun ρ w kn hs => o_idxN0 (l := zs.length) (cap := ca) (by omega) (by rw [← hpa]; exact (kn _ _ (kc 1 148))) (kn _ _ (known_const _)))
     ·exact coreS _ _ _ _ _ _ _ (by rfl) (by rfl) (wants_none) (fun ρ w kn hs => o_loadC (kn _ _ (kc 2 149)) (ka _ hs.bel))
     ·exact coreS _ _ _ _ _ _ _ (by rfl) (by rfl) (wants_none) (fun ρ w kn hs => o_move (kn _ _ (F.old (by rfl) rfl)))
     ·exact coreS _ _ _ _ _ _ _ (by rfl) (by rfl) (wants_none) (fun ρ w kn hs => o_idxN0 (l := zs.length) (cap := cb) (by omega) (by rw [← hpb]; exact (kn _ _ (kc 4 151))) (kn _ _ (known_const _)))
     ·exact coreS _ _ _ _ _ _ _ (by rfl) (by rfl) (wants_none) (fun ρ w kn hs => o_loadC (kn _ _ (kc 5 152)) (kb _ hs.bel))
     ·exact core_pureAs _ (by rfl)
     ·exact core_pureAs _ (by rfl)
     ·exact coreS _ _ _ _ _ _ _ (by rfl) (by rfl) (wants_none) (fun ρ w kn hs => o_move (kn _ _ (kc 8 154)))
     ·exact coreS _ _ _ _ _ _ _ (by rfl) (by rfl) (wants_none) (fun ρ w kn hs => o_extract (kn _ _ (kc 9 146)) rfl)
     ·exact coreS _ _ _ _ _ _ _ (by rfl) (by rfl) (wants_none) (fun ρ w kn hs => o_extract (kn _ _ (kc 9 146)) rfl)
    ·(repeat (refine all_cons ?_ ?_; rotate_left)); exact all_nil
     ·exact sA
     ·exact sA
     ·exact sA
     ·exact sA
     ·exact sA
     ·exact sA
     ·exact sA
     ·exact fun _ => core_new _ _ _ _ _ _ _ _ (by rfl) (by rfl) (Nat.le_refl _) (fun ρ w => o_allocN)
     ·exact fun _ => coreG_call _ 16 _ _ [.tmp 147, .tmp 150, .tmp 153] _ _ _ _ _ _ _ (by rfl) Try.func16 (by kernel_rfl) (by rfl) (by rfl) (wants_none) (.cons (kc 0 147) (.cons (kc 3 150) (.cons (kc 6 153) .nil))) (cE)
     ·exact sA
     ·exact sA
     ·exact sA
    intro gs rs a w hgs hrs F HM
    obtain rfl := nl0 rs hrs
    clear hrs
    obtain ⟨gw, rfl⟩ := nl1 gs hgs
    clear hgs
    refine sx_store (i := 12) HM (by kernel_rfl) (by rfl) rfl rfl (k := 0) rfl (o_storeN (F.ev rfl) (F.ev rfl) (HM.get 0 rfl)) (M2 := [(gw, 24, ncs V), (gv, 24, ncs X2), (gu, 24, ncs X1), (gy, 24, ncs V), (gx, 24, ncs V)]) rfl (fun _ h => h.tail (A := [(gw, 24, ncs V)])) fun w HM => ?_
    refine sx_assign (i := 13) (d := 21) (x := .tmp 156) (v := .int .i64 0) F (HM.tail (A := [(gw, 24, ncs V)])) (by kernel_rfl) (by rfl) (by rfl) (F.ev rfl) fun a F => ?_
    refine sx_done (by kernel_rfl) ?_ _
    repeat (first | refine ex_then ?_ | refine ex_block ?_ | refine wp_seq ?_ | refine wp_block ?_ | refine wp_skip ?_)
    refine wp_region_lit ?_
    refine lx_value (v := .int .i64 0) F (wanted_none rfl _) rfl (by rfl) (o_move (F.ev rfl)) fun a F => ?_
    refine lx_value (v := .bool false) F (wanted_none rfl _) rfl (by rfl) (o_bin (u := .int .i64 0) (v := .int .i64 0) (fun ρ hx hy => by simp only [execOp, hx, hy]; simp [go_sem]) (F.ev rfl) rfl) fun a F => ?_
    refine lx_value (v := .bool false) F (wanted_none rfl _) rfl (by rfl) (o_move (F.ev rfl)) fun a F => ?_
    refine lx_value (v := num V) F (F.want (t := 159) (c := false) rfl rfl rfl (by rfl) rfl) rfl (by rfl) (o_loadN (F.ev rfl) (HM.get 0 rfl)) fun a F => ?_
    refine lx_value (v := num V) F (F.want (t := 159) (c := false) rfl rfl rfl (by rfl) rfl) rfl (by rfl) (o_loadN (F.ev rfl) (HM.get 4 rfl)) fun a F => ?_
    refine lx_value (v := .bool false) F (F.want (t := 159) (c := false) rfl rfl rfl (by rfl) rfl) rfl (by rfl) (o_neqS (F.ev rfl) (F.ev rfl)) fun a F => ?_
    refine lx_value (v := .bool false) F (wanted_none rfl _) rfl (by rfl) (o_pick (b := false) (r := .bool false) (F.ev rfl) rfl (F.ev rfl) rfl) fun a F => ?_
    refine lx_nil ?_
    repeat (first | refine ex_then ?_ | refine ex_block ?_ | refine wp_seq ?_ | refine wp_block ?_ | refine wp_skip ?_)
    refine wp_cond_false (F.ev rfl) ?_
    by_cases z1 : X1 = 0
    ·have hV0 : decide (V = 0) = true := decide_eq_true (by rw [hV, z1, Nat.zero_mul, Nat.zero_mod])
     replace z1 := decide_eq_true z1
     repeat (first | refine ex_then ?_ | refine ex_block ?_ | refine wp_seq ?_ | refine wp_block ?_ | refine wp_skip ?_)
     try simp only [List.append_eq, List.cons_append, List.nil_append]
     refine sx_drawn [⟨0, 164, [], .val (num X1), true⟩,
   ⟨1, 165, [0], .val (num 0), false⟩,
   ⟨2, 166, [0, 1], .val (.bool true), true⟩,
   ⟨3, 167, [2], .val (.bool true), true⟩,
   ⟨4, 168, [3], .val undef, true⟩,
   ⟨5, 169, [3, 4], .val undef, true⟩,
   ⟨6, 170, [3, 4, 5], .val undef, true⟩,
   ⟨7, 171, [3, 6], .val (.bool true), true⟩] 0 F HM (by kernel_rfl) (by rfl) (by rfl) ?_ ?_ ?_ ?_ ?_ ?_ ?_
     ·kernel_rfl
     ·exact of_decide_eq_true (by kernel_rfl)
     ·(repeat refine all_cons ⟨_, by rfl, by rfl⟩ ?_); exact all_nil
     ·kernel_rfl
     ·(repeat (refine all_cons ?_ ?_; rotate_left)); exact all_nil
      ·exact coreS _ _ _ _ _ _ _ (by rfl) (by rfl) (wants_none) (fun ρ w kn hs => o_loadN (kn _ _ (F.old (by rfl) rfl)) (hs.get 2 rfl))
      ·exact core_pureAs _ (by rfl)
      ·exact coreS _ _ _ _ _ _ _ (by rfl) (by rfl) (wants_none) (fun ρ w kn hs => o_eqlN hX1b (show 0 < 2 ^ 256 by decide) z1 (kn _ _ (kc 0 164)) (kn _ _ (kc 1 165)))
      ·exact coreS _ _ _ _ _ _ _ (by rfl) (by rfl) (wants_none) (fun ρ w kn hs => o_move (kn _ _ (kc 2 166)))
      ·exact coreG_skip _ _ _ _ _ _ (by rfl) (by rfl) (wc 3 167 3 (kc 3 167))
      ·exact coreG_skip _ _ _ _ _ _ (by rfl) (by rfl) (wc 3 167 3 (kc 3 167))
      ·exact coreG_skip _ _ _ _ _ _ (by rfl) (by rfl) (wc 3 167 3 (kc 3 167))
      ·exact coreS _ _ _ _ _ _ _ (by rfl) (by rfl) (wants_none) (fun ρ w kn hs => o_pick (b := true) (r := .bool true) (kn _ _ (kc 3 167)) (kn _ _ (known_const _)) (kn _ _ (kc 6 170)) rfl)
     ·(repeat (refine all_cons ?_ ?_; rotate_left)); exact all_nil
      ·exact sA
      ·exact fun _ => coreG_call _ 22 _ _ [.const (.int .u64 0)] _ _ _ _ _ _ _ (by rfl) Try.func22 (by kernel_rfl) (by rfl) (by rfl) (wants_none) (.cons (known_const _) .nil) ((fun w => of8_any 0 (by decide) w))
      ·exact sA
      ·exact sA
      ·exact sA
      ·exact sA
      ·exact sA
      ·exact sA
     intro gs rs a w hgs hrs F HM
     obtain rfl := nl0 rs hrs
     clear hrs
     obtain rfl := nl0 gs hgs
     clear hgs
     refine sx_done (by kernel_rfl) ?_ _
     repeat (first | refine ex_then ?_ | refine ex_block ?_ | refine wp_seq ?_ | refine wp_block ?_ | refine wp_skip ?_)
     refine wp_cond_true (F.ev rfl) ?_
     repeat (first | refine ex_then ?_ | refine ex_block ?_ | refine wp_seq ?_ | refine wp_block ?_ | refine wp_skip ?_)
     try simp only [List.append_eq, List.cons_append, List.nil_append]
     refine sx_drawn [⟨0, 172, [], .val (num V), true⟩,
   ⟨1, 173, [0], .val (num 0), false⟩,
   ⟨2, 174, [0, 1], .val (.bool true), true⟩] 1 F HM (by kernel_rfl) (by rfl) (by rfl) ?_ ?_ ?_ ?_ ?_ ?_ ?_
     ·kernel_rfl
     ·exact of_decide_eq_true (by kernel_rfl)
     ·(repeat refine all_cons ⟨_, by rfl, by rfl⟩ ?_); exact all_nil
     ·kernel_rfl
     ·(repeat (refine all_cons ?_ ?_; rotate_left)); exact all_nil
      ·exact coreS _ _ _ _ _ _ _ (by rfl) (by rfl) (wants_none) (fun ρ w kn hs => o_loadN (kn _ _ (F.old (by rfl) rfl)) (hs.get 4 rfl))
      ·exact core_pureAs _ (by rfl)
      ·exact coreS _ _ _ _ _ _ _ (by rfl) (by rfl) (wants_none) (fun ρ w kn hs => o_eqlN hVb (show 0 < 2 ^ 256 by decide) hV0 (kn _ _ (kc 0 172)) (kn _ _ (kc 1 173)))
     ·(repeat (refine all_cons ?_ ?_; rotate_left)); exact all_nil
      ·exact sA
      ·exact fun _ => coreG_call _ 22 _ _ [.const (.int .u64 0)] _ _ _ _ _ _ _ (by rfl) Try.func22 (by kernel_rfl) (by rfl) (by rfl) (wants_none) (.cons (known_const _) .nil) ((fun w => of8_any 0 (by decide) w))
      ·exact sA
     intro gs rs a w hgs hrs F HM
     obtain rfl := nl0 rs hrs
     clear hrs
     obtain rfl := nl0 gs hgs
     clear hgs
     refine sx_assign (i := 3) (d := 6) (x := .tmp 174) (v := .bool true) F (HM) (by kernel_rfl) (by rfl) (by rfl) (F.ev rfl) fun a F => ?_
     refine sx_done (by kernel_rfl) ?_ _
     repeat (first | refine ex_then ?_ | refine ex_block ?_ | refine wp_seq ?_ | refine wp_block ?_ | refine wp_skip ?_)
     refine wp_ret ?_
     repeat (first | refine ex_thenR ?_ | refine ex_blockR ?_)
     exact bodyPost_ret (res_tmp F rfl (s := 6) rfl) F.defers ⟨rfl, HB.trans (HM.bel.mono HB.size)⟩
    ·by_cases z2 : X2 = 0
     ·have hV0 : decide (V = 0) = true := decide_eq_true (by rw [hV, z2, Nat.mul_zero, Nat.zero_mod])
      replace z1 := decide_eq_false z1
      replace z2 := decide_eq_true z2
      repeat (first | refine ex_then ?_ | refine ex_block ?_ | refine wp_seq ?_ | refine wp_block ?_ | refine wp_skip ?_)
      try simp only [List.append_eq, List.cons_append, List.nil_append]
      refine sx_drawn [⟨0, 164, [], .val (num X1), true⟩,
   ⟨1, 165, [0], .val (num 0), false⟩,
   ⟨2, 166, [0, 1], .val (.bool false), true⟩,
   ⟨3, 167, [2], .val (.bool false), true⟩,
   ⟨4, 168, [3], .val (num X2), true⟩,
   ⟨5, 169, [3, 4], .val (num 0), false⟩,
   ⟨6, 170, [3, 4, 5], .val (.bool true), true⟩,
   ⟨7, 171, [3, 6], .val (.bool true), true⟩] 0 F HM (by kernel_rfl) (by rfl) (by rfl) ?_ ?_ ?_ ?_ ?_ ?_ ?_
      ·kernel_rfl
      ·exact of_decide_eq_true (by kernel_rfl)
      ·(repeat refine all_cons ⟨_, by rfl, by rfl⟩ ?_); exact all_nil
      ·kernel_rfl
      ·(repeat (refine all_cons ?_ ?_; rotate_left)); exact all_nil
       ·exact coreS _ _ _ _ _ _ _ (by rfl) (by rfl) (wants_none) (fun ρ w kn hs => o_loadN (kn _ _ (F.old (by rfl) rfl)) (hs.get 2 rfl))
       ·exact core_pureAs _ (by rfl)
       ·exact coreS _ _ _ _ _ _ _ (by rfl) (by rfl) (wants_none) (fun ρ w kn hs => o_eqlN hX1b (show 0 < 2 ^ 256 by decide) z1 (kn _ _ (kc 0 164)) (kn _ _ (kc 1 165)))
       ·exact coreS _ _ _ _ _ _ _ (by rfl) (by rfl) (wants_none) (fun ρ w kn hs => o_move (kn _ _ (kc 2 166)))
       ·exact coreS _ _ _ _ _ _ _ (by rfl) (by rfl) (wc 3 167 3 (kc 3 167)) (fun ρ w kn hs => o_loadN (kn _ _ (F.old (by rfl) rfl)) (hs.get 1 rfl))
       ·exact core_pureAs _ (by rfl)
       ·exact coreS _ _ _ _ _ _ _ (by rfl) (by rfl) (wc 3 167 3 (kc 3 167)) (fun ρ w kn hs => o_eqlN hX2b (show 0 < 2 ^ 256 by decide) z2 (kn _ _ (kc 4 168)) (kn _ _ (kc 5 169)))
       ·exact coreS _ _ _ _ _ _ _ (by rfl) (by rfl) (wants_none) (fun ρ w kn hs => o_pick (b := false) (r := .bool true) (kn _ _ (kc 3 167)) (kn _ _ (known_const _)) (kn _ _ (kc 6 170)) rfl)
      ·(repeat (refine all_cons ?_ ?_; rotate_left)); exact all_nil
       ·exact sA
       ·exact fun _ => coreG_call _ 22 _ _ [.const (.int .u64 0)] _ _ _ _ _ _ _ (by rfl) Try.func22 (by kernel_rfl) (by rfl) (by rfl) (wants_none) (.cons (known_const _) .nil) ((fun w => of8_any 0 (by decide) w))
       ·exact sA
       ·exact sA
       ·exact sA
       ·exact fun _ => coreG_call _ 22 _ _ [.const (.int .u64 0)] _ _ _ _ _ _ _ (by rfl) Try.func22 (by kernel_rfl) (by rfl) (by rfl) (wc 3 167 3 (kc 3 167)) (.cons (known_const _) .nil) ((fun w => of8_any 0 (by decide) w))
       ·exact sA
       ·exact sA
      intro gs rs a w hgs hrs F HM
      obtain rfl := nl0 rs hrs
      clear hrs
      obtain rfl := nl0 gs hgs
      clear hgs
      refine sx_done (by kernel_rfl) ?_ _
      repeat (first | refine ex_then ?_ | refine ex_block ?_ | refine wp_seq ?_ | refine wp_block ?_ | refine wp_skip ?_)
      refine wp_cond_true (F.ev rfl) ?_
      repeat (first | refine ex_then ?_ | refine ex_block ?_ | refine wp_seq ?_ | refine wp_block ?_ | refine wp_skip ?_)
      try simp only [List.append_eq, List.cons_append, List.nil_append]
      refine sx_drawn [⟨0, 172, [], .val (num V), true⟩,
   ⟨1, 173, [0], .val (num 0), false⟩,
   ⟨2, 174, [0, 1], .val (.bool true), true⟩] 1 F HM (by kernel_rfl) (by rfl) (by rfl) ?_ ?_ ?_ ?_ ?_ ?_ ?_
      ·kernel_rfl
      ·exact of_decide_eq_true (by kernel_rfl)
      ·(repeat refine all_cons ⟨_, by rfl, by rfl⟩ ?_); exact all_nil
      ·kernel_rfl
      ·(repeat (refine all_cons ?_ ?_; rotate_left)); exact all_nil
       ·exact coreS _ _ _ _ _ _ _ (by rfl) (by rfl) (wants_none) (fun ρ w kn hs => o_loadN (kn _ _ (F.old (by rfl) rfl)) (hs.get 4 rfl))
       ·exact core_pureAs _ (by rfl)
       ·exact coreS _ _ _ _ _ _ _ (by rfl) (by rfl) (wants_none) (fun ρ w kn hs => o_eqlN hVb (show 0 < 2 ^ 256 by decide) hV0 (kn _ _ (kc 0 172)) (kn _ _ (kc 1 173)))
      ·(repeat (refine all_cons ?_ ?_; rotate_left)); exact all_nil
       ·exact sA
       ·exact fun _ => coreG_call _ 22 _ _ [.const (.int .u64 0)] _ _ _ _ _ _ _ (by rfl) Try.func22 (by kernel_rfl) (by rfl) (by rfl) (wants_none) (.cons (known_const _) .nil) ((fun w => of8_any 0 (by decide) w))
       ·exact sA
      intro gs rs a w hgs hrs F HM
      obtain rfl := nl0 rs hrs
      clear hrs
      obtain rfl := nl0 gs hgs
      clear hgs
      refine sx_assign (i := 3) (d := 6) (x := .tmp 174) (v := .bool true) F (HM) (by kernel_rfl) (by rfl) (by rfl) (F.ev rfl) fun a F => ?_
      refine sx_done (by kernel_rfl) ?_ _
      repeat (first | refine ex_then ?_ | refine ex_block ?_ | refine wp_seq ?_ | refine wp_block ?_ | refine wp_skip ?_)
      refine wp_ret ?_
      repeat (first | refine ex_thenR ?_ | refine ex_blockR ?_)
      exact bodyPost_ret (res_tmp F rfl (s := 6) rfl) F.defers ⟨rfl, HB.trans (HM.bel.mono HB.size)⟩
     ·have cM := gmul_yes P Q G H X1 X2 hP hX1b hX2b (mayB_iff.mpr ⟨z1, hX1⟩) (mayB_iff.mpr ⟨z2, hX2⟩)
      rw [← hV] at cM
      replace z1 := decide_eq_false z1
      replace z2 := decide_eq_false z2
      repeat (first | refine ex_then ?_ | refine ex_block ?_ | refine wp_seq ?_ | refine wp_block ?_ | refine wp_skip ?_)
      try simp only [List.append_eq, List.cons_append, List.nil_append]
      refine sx_drawn [⟨0, 164, [], .val (num X1), true⟩,
   ⟨1, 165, [0], .val (num 0), false⟩,
   ⟨2, 166, [0, 1], .val (.bool false), true⟩,
   ⟨3, 167, [2], .val (.bool false), true⟩,
   ⟨4, 168, [3], .val (num X2), true⟩,
   ⟨5, 169, [3, 4], .val (num 0), false⟩,
   ⟨6, 170, [3, 4, 5], .val (.bool false), true⟩,
   ⟨7, 171, [3, 6], .val (.bool false), true⟩] 0 F HM (by kernel_rfl) (by rfl) (by rfl) ?_ ?_ ?_ ?_ ?_ ?_ ?_
      ·kernel_rfl
      ·exact of_decide_eq_true (by kernel_rfl)
      ·(repeat refine all_cons ⟨_, by rfl, by rfl⟩ ?_); exact all_nil
      ·kernel_rfl
      ·(repeat (refine all_cons ?_ ?_; rotate_left)); exact all_nil
       ·exact coreS _ _ _ _ _ _ _ (by rfl) (by rfl) (wants_none) (fun ρ w kn hs => o_loadN (kn _ _ (F.old (by rfl) rfl)) (hs.get 2 rfl))
       ·exact core_pureAs _ (by rfl)
       ·exact coreS _ _ _ _ _ _ _ (by rfl) (by rfl) (wants_none) (fun ρ w kn hs => o_eqlN hX1b (show 0 < 2 ^ 256 by decide) z1 (kn _ _ (kc 0 164)) (kn _ _ (kc 1 165)))
       ·exact coreS _ _ _ _ _ _ _ (by rfl) (by rfl) (wants_none) (fun ρ w kn hs => o_move (kn _ _ (kc 2 166)))
       ·exact coreS _ _ _ _ _ _ _ (by rfl) (by rfl) (wc 3 167 3 (kc 3 167)) (fun ρ w kn hs => o_loadN (kn _ _ (F.old (by rfl) rfl)) (hs.get 1 rfl))
       ·exact core_pureAs _ (by rfl)
       ·exact coreS _ _ _ _ _ _ _ (by rfl) (by rfl) (wc 3 167 3 (kc 3 167)) (fun ρ w kn hs => o_eqlN hX2b (show 0 < 2 ^ 256 by decide) z2 (kn _ _ (kc 4 168)) (kn _ _ (kc 5 169)))
       ·exact coreS _ _ _ _ _ _ _ (by rfl) (by rfl) (wants_none) (fun ρ w kn hs => o_pick (b := false) (r := .bool false) (kn _ _ (kc 3 167)) (kn _ _ (known_const _)) (kn _ _ (kc 6 170)) rfl)
      ·(repeat (refine all_cons ?_ ?_; rotate_left)); exact all_nil
       ·exact sA
       ·exact fun _ => coreG_call _ 22 _ _ [.const (.int .u64 0)] _ _ _ _ _ _ _ (by rfl) Try.func22 (by kernel_rfl) (by rfl) (by rfl) (wants_none) (.cons (known_const _) .nil) ((fun w => of8_any 0 (by decide) w))
       ·exact sA
       ·exact sA
       ·exact sA
       ·exact fun _ => coreG_call _ 22 _ _ [.const (.int .u64 0)] _ _ _ _ _ _ _ (by rfl) Try.func22 (by kernel_rfl) (by rfl) (by rfl) (wc 3 167 3 (kc 3 167)) (.cons (known_const _) .nil) ((fun w => of8_any 0 (by decide) w))
       ·exact sA
       ·exact sA
      intro gs rs a w hgs hrs F HM
      obtain rfl := nl0 rs hrs
      clear hrs
      obtain rfl := nl0 gs hgs
      clear hgs
      refine sx_done (by kernel_rfl) ?_ _
      repeat (first | refine ex_then ?_ | refine ex_block ?_ | refine wp_seq ?_ | refine wp_block ?_ | refine wp_skip ?_)
      refine wp_cond_false (F.ev rfl) ?_
      repeat (first | refine ex_then ?_ | refine ex_block ?_ | refine wp_seq ?_ | refine wp_block ?_ | refine wp_skip ?_)
      refine wp_region_lit ?_
      refine lx_value (v := grp P Q G H) F (wanted_none rfl _) rfl (by rfl) (o_loadG (F.ev rfl) (HG.on HM.bel)) fun a F => ?_
      refine lx_value (v := num X1) F (wanted_none rfl _) rfl (by rfl) (o_loadN (F.ev rfl) (HM.get 2 rfl)) fun a F => ?_
      refine lx_value (v := num X2) F (wanted_none rfl _) rfl (by rfl) (o_loadN (F.ev rfl) (HM.get 1 rfl)) fun a F => ?_
      refine lx_call F (wanted_none rfl _) rfl (by rfl) (run_callF Try.func14 (by kernel_rfl) (by rfl) (.cons (F.ev rfl) (.cons (F.ev rfl) (.cons (F.ev rfl) .nil))) _) (cM _) fun a w z F => ?_
      replace HM := HM.on z
      clear z
      refine lx_value (v := .tuple #[num V, .int .i64 0]) F (wanted_none rfl _) rfl (by rfl) (o_move (F.ev rfl)) fun a F => ?_
      refine lx_value (v := num V) F (wanted_none rfl _) rfl (by rfl) (o_extract (F.ev rfl) rfl) fun a F => ?_
      refine lx_value (v := .int .i64 0) F (wanted_none rfl _) rfl (by rfl) (o_extract (F.ev rfl) rfl) fun a F => ?_
      refine lx_new F HM (wanted_none rfl _) rfl (by rfl) (o_allocN) fun a w gq F HM => ?_
      refine lx_store F HM (wanted_none rfl _) rfl (k := 0) rfl (o_storeN (F.ev rfl) (F.ev rfl) (HM.get 0 rfl)) (M2 := [(gq, 24, ncs V), (gw, 24, ncs V), (gv, 24, ncs X2), (gu, 24, ncs X1), (gy, 24, ncs V), (gx, 24, ncs V)]) rfl fun w HM => ?_
      refine lx_value (v := .int .i64 0) F (wanted_none rfl _) rfl (by rfl) (o_assign (F.ev rfl)) fun a F => ?_
      refine lx_nil ?_
      repeat (first | refine ex_then ?_ | refine ex_block ?_ | refine wp_seq ?_ | refine wp_block ?_ | refine wp_skip ?_)
      refine wp_region_lit ?_
      refine lx_value (v := .int .i64 0) F (wanted_none rfl _) rfl (by rfl) (o_move (F.ev rfl)) fun a F => ?_
      refine lx_value (v := .bool true) F (wanted_none rfl _) rfl (by rfl) (o_bin (u := .int .i64 0) (v := .int .i64 0) (fun ρ hx hy => by simp only [execOp, hx, hy]; simp [go_sem]) (F.ev rfl) rfl) fun a F => ?_
      refine lx_value (v := .bool true) F (wanted_none rfl _) rfl (by rfl) (o_move (F.ev rfl)) fun a F => ?_
      refine lx_value (v := num V) F (F.want (t := 184) (c := true) rfl rfl rfl (by rfl) rfl) rfl (by rfl) (o_loadN (F.ev rfl) (HM.get 0 rfl)) fun a F => ?_
      refine lx_value (v := num V) F (F.want (t := 184) (c := true) rfl rfl rfl (by rfl) rfl) rfl (by rfl) (o_loadN (F.ev rfl) (HM.get 5 rfl)) fun a F => ?_
      refine lx_value (v := .bool true) F (F.want (t := 184) (c := true) rfl rfl rfl (by rfl) rfl) rfl (by rfl) (o_eqlS (F.ev rfl) (F.ev rfl)) fun a F => ?_
      refine lx_value (v := .bool true) F (wanted_none rfl _) rfl (by rfl) (o_pick (b := true) (r := .bool true) (F.ev rfl) (F.ev rfl) rfl rfl) fun a F => ?_
      refine lx_value (v := .bool true) F (wanted_none rfl _) rfl (by rfl) (o_assign (F.ev rfl)) fun a F => ?_
      refine lx_nil ?_
      repeat (first | refine ex_then ?_ | refine ex_block ?_ | refine wp_seq ?_ | refine wp_block ?_ | refine wp_skip ?_)
      refine wp_ret ?_
      repeat (first | refine ex_thenR ?_ | refine ex_blockR ?_)
      exact bodyPost_ret (res_tmp F rfl (s := 6) rfl) F.defers ⟨rfl, HB.trans (HM.bel.mono HB.size)⟩
   ·repeat (first | refine ex_then ?_ | refine ex_block ?_ | refine wp_seq ?_ | refine wp_block ?_ | refine wp_skip ?_)
    refine wp_region_lit ?_
    refine lx_value (v := .slice pl zs.length cl) F (wanted_none rfl _) rfl (by rfl) (o_move (F.ev rfl)) fun a F => ?_
    refine lx_value (v := .int .i64 (zs.length : Nat)) F (wanted_none rfl _) rfl (by rfl) (o_lenP (F.ev rfl)) fun a F => ?_
    refine lx_value (v := .bool false) F (wanted_none rfl _) rfl (by rfl) (o_bin (u := .int .i64 (zs.length : Nat)) (v := .int .i64 1) (fun ρ hx hy => by simp only [execOp, hx, hy]; simp [go_sem]; omega) (F.ev rfl) rfl) fun a F => ?_
    refine lx_nil ?_
    repeat (first | refine ex_then ?_ | refine ex_block ?_ | refine wp_seq ?_ | refine wp_block ?_ | refine wp_skip ?_)
    refine wp_cond_false (F.ev rfl) ?_
    by_cases z1 : X1 = 0
    ·have hV0 : decide (V = 0) = true := decide_eq_true (by rw [hV, z1, Nat.zero_mul, Nat.zero_mod])
     replace z1 := decide_eq_true z1
     repeat (first | refine ex_then ?_ | refine ex_block ?_ | refine wp_seq ?_ | refine wp_block ?_ | refine wp_skip ?_)
     try simp only [List.append_eq, List.cons_append, List.nil_append]
     refine sx_drawn [⟨0, 164, [], .val (num X1), true⟩,
   ⟨1, 165, [0], .val (num 0), false⟩,
   ⟨2, 166, [0, 1], .val (.bool true), true⟩,
   ⟨3, 167, [2], .val (.bool true), true⟩,
   ⟨4, 168, [3], .val undef, true⟩,
   ⟨5, 169, [3, 4], .val undef, true⟩,
   ⟨6, 170, [3, 4, 5], .val undef, true⟩,
   ⟨7, 171, [3, 6], .val (.bool true), true⟩] 0 F HM (by kernel_rfl) (by rfl) (by rfl) ?_ ?_ ?_ ?_ ?_ ?_ ?_
     ·kernel_rfl
     ·exact of_decide_eq_true (by kernel_rfl)
     ·(repeat refine all_cons ⟨_, by rfl, by rfl⟩ ?_); exact all_nil
     ·kernel_rfl
     ·(repeat (refine all_cons ?_ ?_; rotate_left)); exact all_nil
      ·exact coreS _ _ _ _ _ _ _ (by rfl) (by rfl) (wants_none) (fun ρ w kn hs => o_loadN (kn _ _ (F.old (by rfl) rfl)) (hs.get 1 rfl))
      ·exact core_pureAs _ (by rfl)
      ·exact coreS _ _ _ _ _ _ _ (by rfl) (by rfl) (wants_none) (fun ρ w kn hs => o_eqlN hX1b (show 0 < 2 ^ 256 by decide) z1 (kn _ _ (kc 0 164)) (kn _ _ (kc 1 165)))
      ·exact coreS _ _ _ _ _ _ _ (by rfl) (by rfl) (wants_none) (fun ρ w kn hs => o_move (kn _ _ (kc 2 166)))
      ·exact coreG_skip _ _ _ _ _ _ (by rfl) (by rfl) (wc 3 167 3 (kc 3 167))
      ·exact coreG_skip _ _ _ _ _ _ (by rfl) (by rfl) (wc 3 167 3 (kc 3 167))
      ·exact coreG_skip _ _ _ _ _ _ (by rfl) (by rfl) (wc 3 167 3 (kc 3 167))
      ·exact coreS _ _ _ _ _ _ _ (by rfl) (by rfl) (wants_none) (fun ρ w kn hs => o_pick (b := true) (r := .bool true) (kn _ _ (kc 3 167)) (kn _ _ (known_const _)) (kn _ _ (kc 6 170)) rfl)
     ·(repeat (refine all_cons ?_ ?_; rotate_left)); exact all_nil
      ·exact sA
      ·exact fun _ => coreG_call _ 22 _ _ [.const (.int .u64 0)] _ _ _ _ _ _ _ (by rfl) Try.func22 (by kernel_rfl) (by rfl) (by rfl) (wants_none) (.cons (known_const _) .nil) ((fun w => of8_any 0 (by decide) w))
      ·exact sA
      ·exact sA
      ·exact sA
      ·exact sA
      ·exact sA
      ·exact sA
     intro gs rs a w hgs hrs F HM
     obtain rfl := nl0 rs hrs
     clear hrs
     obtain rfl := nl0 gs hgs
     clear hgs
     refine sx_done (by kernel_rfl) ?_ _
     repeat (first | refine ex_then ?_ | refine ex_block ?_ | refine wp_seq ?_ | refine wp_block ?_ | refine wp_skip ?_)
     refine wp_cond_true (F.ev rfl) ?_
     repeat (first | refine ex_then ?_ | refine ex_block ?_ | refine wp_seq ?_ | refine wp_block ?_ | refine wp_skip ?_)
     try simp only [List.append_eq, List.cons_append, List.nil_append]
     refine sx_drawn [⟨0, 172, [], .val (num V), true⟩,
   ⟨1, 173, [0], .val (num 0), false⟩,
   ⟨2, 174, [0, 1], .val (.bool true), true⟩] 1 F HM (by kernel_rfl) (by rfl) (by rfl) ?_ ?_ ?_ ?_ ?_ ?_ ?_
     ·kernel_rfl
     ·exact of_decide_eq_true (by kernel_rfl)
     ·(repeat refine all_cons ⟨_, by rfl, by rfl⟩ ?_); exact all_nil
     ·kernel_rfl
     ·(repeat (refine all_cons ?_ ?_; rotate_left)); exact all_nil
      ·exact coreS _ _ _ _ _ _ _ (by rfl) (by rfl) (wants_none) (fun ρ w kn hs => o_loadN (kn _ _ (F.old (by rfl) rfl)) (hs.get 3 rfl))
      ·exact core_pureAs _ (by rfl)
      ·exact coreS _ _ _ _ _ _ _ (by rfl) (by rfl) (wants_none) (fun ρ w kn hs => o_eqlN hVb (show 0 < 2 ^ 256 by decide) hV0 (kn _ _ (kc 0 172)) (kn _ _ (kc 1 173)))
     ·(repeat (refine all_cons ?_ ?_; rotate_left)); exact all_nil
      ·exact sA
      ·exact fun _ => coreG_call _ 22 _ _ [.const (.int .u64 0)] _ _ _ _ _ _ _ (by rfl) Try.func22 (by kernel_rfl) (by rfl) (by rfl) (wants_none) (.cons (known_const _) .nil) ((fun w => of8_any 0 (by decide) w))
      ·exact sA
     intro gs rs a w hgs hrs F HM
     obtain rfl := nl0 rs hrs
     clear hrs
     obtain rfl := nl0 gs hgs
     clear hgs
     refine sx_assign (i := 3) (d := 6) (x := .tmp 174) (v := .bool true) F (HM) (by kernel_rfl) (by rfl) (by rfl) (F.ev rfl) fun a F => ?_
     refine sx_done (by kernel_rfl) ?_ _
     repeat (first | refine ex_then ?_ | refine ex_block ?_ | refine wp_seq ?_ | refine wp_block ?_ | refine wp_skip ?_)
     refine wp_ret ?_
     repeat (first | refine ex_thenR ?_ | refine ex_blockR ?_)
     exact bodyPost_ret (res_tmp F rfl (s := 6) rfl) F.defers ⟨rfl, HB.trans (HM.bel.mono HB.size)⟩
    ·by_cases z2 : X2 = 0
     ·have hV0 : decide (V = 0) = true := decide_eq_true (by rw [hV, z2, Nat.mul_zero, Nat.zero_mod])
      replace z1 := decide_eq_false z1
      replace z2 := decide_eq_true z2
      repeat (first | refine ex_then ?_ | refine ex_block ?_ | refine wp_seq ?_ | refine wp_block ?_ | refine wp_skip ?_)
      try simp only [List.append_eq, List.cons_append, List.nil_append]
      refine sx_drawn [⟨0, 164, [], .val (num X1), true⟩,
   ⟨1, 165, [0], .val (num 0), false⟩,
   ⟨2, 166, [0, 1], .val (.bool false), true⟩,
   ⟨3, 167, [2], .val (.bool false), true⟩,
   ⟨4, 168, [3], .val (num X2), true⟩,
   ⟨5, 169, [3, 4], .val (num 0), false⟩,
   ⟨6, 170, [3, 4, 5], .val (.bool true), true⟩,
   ⟨7, 171, [3, 6], .val (.bool true), true⟩] 0 F HM (by kernel_rfl) (by rfl) (by rfl) ?_ ?_ ?_ ?_ ?_ ?_ ?_
      ·kernel_rfl
      ·exact of_decide_eq_true (by kernel_rfl)
      ·(repeat refine all_cons ⟨_, by rfl, by rfl⟩ ?_); exact all_nil
      ·kernel_rfl
      ·(repeat (refine all_cons ?_ ?_; rotate_left)); exact all_nil
       ·exact coreS _ _ _ _ _ _ _ (by rfl) (by rfl) (wants_none) (fun ρ w kn hs => o_loadN (kn _ _ (F.old (by rfl) rfl)) (hs.get 1 rfl))
       ·exact core_pureAs _ (by rfl)
       ·exact coreS _ _ _ _ _ _ _ (by rfl) (by rfl) (wants_none) (fun ρ w kn hs => o_eqlN hX1b (show 0 < 2 ^ 256 by decide) z1 (kn _ _ (kc 0 164)) (kn _ _ (kc 1 165)))
       ·exact coreS _ _ _ _ _ _ _ (by rfl) (by rfl) (wants_none) (fun ρ w kn hs => o_move (kn _ _ (kc 2 166)))
       ·exact coreS _ _ _ _ _ _ _ (by rfl) (by rfl) (wc 3 167 3 (kc 3 167)) (fun ρ w kn hs => o_loadN (kn _ _ (F.old (by rfl) rfl)) (hs.get 0 rfl))
       ·exact core_pureAs _ (by rfl)
       ·exact coreS _ _ _ _ _ _ _ (by rfl) (by rfl) (wc 3 167 3 (kc 3 167)) (fun ρ w kn hs => o_eqlN hX2b (show 0 < 2 ^ 256 by decide) z2 (kn _ _ (kc 4 168)) (kn _ _ (kc 5 169)))
       ·exact coreS _ _ _ _ _ _ _ (by rfl) (by rfl) (wants_none) (fun ρ w kn hs => o_pick (b := false) (r := .bool true) (kn _ _ (kc 3 167)) (kn _ _ (known_const _)) (kn _ _ (kc 6 170)) rfl)
      ·(repeat (refine all_cons ?_ ?_; rotate_left)); exact all_nil
       ·exact sA
       ·exact fun _ => coreG_call _ 22 _ _ [.const (.int .u64 0)] _ _ _ _ _ _ _ (by rfl) Try.func22 (by kernel_rfl) (by rfl) (by rfl) (wants_none) (.cons (known_const _) .nil) ((fun w => of8_any 0 (by decide) w))
       ·exact sA
       ·exact sA
       ·exact sA
       ·exact fun _ => coreG_call _ 22 _ _ [.const (.int .u64 0)] _ _ _ _ _ _ _ (by rfl) Try.func22 (by kernel_rfl) (by rfl) (by rfl) (wc 3 167 3 (kc 3 167)) (.cons (known_const _) .nil) ((fun w => of8_any 0 (by decide) w))
       ·exact sA
       ·exact sA
      intro gs rs a w hgs hrs F HM
      obtain rfl := nl0 rs hrs
      clear hrs
      obtain rfl := nl0 gs hgs
      clear hgs
      refine sx_done (by kernel_rfl) ?_ _
      repeat (first | refine ex_then ?_ | refine ex_block ?_ | refine wp_seq ?_ | refine wp_block ?_ | refine wp_skip ?_)
      refine wp_cond_true (F.ev rfl) ?_
      repeat (first | refine ex_then ?_ | refine ex_block ?_ | refine wp_seq ?_ | refine wp_block ?_ | refine wp_skip ?_)
      try simp only [List.append_eq, List.cons_append, List.nil_append]
      refine sx_drawn [⟨0, 172, [], .val (num V), true⟩,
   ⟨1, 173, [0], .val (num 0), false⟩,
   ⟨2, 174, [0, 1], .val (.bool true), true⟩] 1 F HM (by kernel_rfl) (by rfl) (by rfl) ?_ ?_ ?_ ?_ ?_ ?_ ?_
      ·kernel_rfl
      ·exact of_decide_eq_true (by kernel_rfl)
      ·(repeat refine all_cons ⟨_, by rfl, by rfl⟩ ?_); exact all_nil
      ·kernel_rfl
      ·(repeat (refine all_cons ?_ ?_; rotate_left)); exact all_nil
       ·exact coreS _ _ _ _ _ _ _ (by rfl) (by rfl) (wants_none) (fun ρ w kn hs => o_loadN (kn _ _ (F.old (by rfl) rfl)) (hs.get 3 rfl))
       ·exact core_pureAs _ (by rfl)
       ·exact coreS _ _ _ _ _ _ _ (by rfl) (by rfl) (wants_none) (fun ρ w kn hs => o_eqlN hVb (show 0 < 2 ^ 256 by decide) hV0 (kn _ _ (kc 0 172)) (kn _ _ (kc 1 173)))
      ·(repeat (refine all_cons ?_ ?_; rotate_left)); exact all_nil
       ·exact sA
       ·exact fun _ => coreG_call _ 22 _ _ [.const (.int .u64 0)] _ _ _ _ _ _ _ (by rfl) Try.func22 (by kernel_rfl) (by rfl) (by rfl) (wants_none) (.cons (known_const _) .nil) ((fun w => of8_any 0 (by decide) w))
       ·exact sA
      intro gs rs a w hgs hrs F HM
      obtain rfl := nl0 rs hrs
      clear hrs
      obtain rfl := nl0 gs hgs
      clear hgs
      refine sx_assign (i := 3) (d := 6) (x := .tmp 174) (v := .bool true) F (HM) (by kernel_rfl) (by rfl) (by rfl) (F.ev rfl) fun a F => ?_
      refine sx_done (by kernel_rfl) ?_ _
      repeat (first | refine ex_then ?_ | refine ex_block ?_ | refine wp_seq ?_ | refine wp_block ?_ | refine wp_skip ?_)
      refine wp_ret ?_
      repeat (first | refine ex_thenR ?_ | refine ex_blockR ?_)
      exact bodyPost_ret (res_tmp F rfl (s := 6) rfl) F.defers ⟨rfl, HB.trans (HM.bel.mono HB.size)⟩
     ·have cM := gmul_yes P Q G H X1 X2 hP hX1b hX2b (mayB_iff.mpr ⟨z1, hX1⟩) (mayB_iff.mpr ⟨z2, hX2⟩)
      rw [← hV] at cM
      replace z1 := decide_eq_false z1
      replace z2 := decide_eq_false z2
      repeat (first | refine ex_then ?_ | refine ex_block ?_ | refine wp_seq ?_ | refine wp_block ?_ | refine wp_skip ?_)
      try simp only [List.append_eq, List.cons_append, List.nil_append]
      refine sx_drawn [⟨0, 164, [], .val (num X1), true⟩,
   ⟨1, 165, [0], .val (num 0), false⟩,
   ⟨2, 166, [0, 1], .val (.bool false), true⟩,
   ⟨3, 167, [2], .val (.bool false), true⟩,
   ⟨4, 168, [3], .val (num X2), true⟩,
   ⟨5, 169, [3, 4], .val (num 0), false⟩,
   ⟨6, 170, [3, 4, 5], .val (.bool false), true⟩,
   ⟨7, 171, [3, 6], .val (.bool false), true⟩] 0 F HM (by kernel_rfl) (by rfl) (by rfl) ?_ ?_ ?_ ?_ ?_ ?_ ?_
      ·kernel_rfl
      ·exact of_decide_eq_true (by kernel_rfl)
      ·(repeat refine all_cons ⟨_, by rfl, by rfl⟩ ?_); exact all_nil
      ·kernel_rfl
      ·(repeat (refine all_cons ?_ ?_; rotate_left)); exact all_nil
       ·exact coreS _ _ _ _ _ _ _ (by rfl) (by rfl) (wants_none) (fun ρ w kn hs => o_loadN (kn _ _ (F.old (by rfl) rfl)) (hs.get 1 rfl))
       ·exact core_pureAs _ (by rfl)
       ·exact coreS _ _ _ _ _ _ _ (by rfl) (by rfl) (wants_none) (fun ρ w kn hs => o_eqlN hX1b (show 0 < 2 ^ 256 by decide) z1 (kn _ _ (kc 0 164)) (kn _ _ (kc 1 165)))
       ·exact coreS _ _ _ _ _ _ _ (by rfl) (by rfl) (wants_none) (fun ρ w kn hs => o_move (kn _ _ (kc 2 166)))
       ·exact coreS _ _ _ _ _ _ _ (by rfl) (by rfl) (wc 3 167 3 (kc 3 167)) (fun ρ w kn hs => o_loadN (kn _ _ (F.old (by rfl) rfl)) (hs.get 0 rfl))
       ·exact core_pureAs _ (by rfl)
       ·exact coreS _ _ _ _ _ _ _ (by rfl) (by rfl) (wc 3 167 3 (kc 3 167)) (fun ρ w kn hs => o_eqlN hX2b (show 0 < 2 ^ 256 by decide) z2 (kn _ _ (kc 4 168)) (kn _ _ (kc 5 169)))
       ·exact coreS _ _ _ _ _ _ _ (by rfl) (by rfl) (wants_none) (fun ρ w kn hs => o_pick (b := false) (r := .bool false) (kn _ _ (kc 3 167)) (kn _ _ (known_const _)) (kn _ _ (kc 6 170)) rfl)
      ·(repeat (refine all_cons ?_ ?_; rotate_left)); exact all_nil
       ·exact sA
       ·exact fun _ => coreG_call _ 22 _ _ [.const (.int .u64 0)] _ _ _ _ _ _ _ (by rfl) Try.func22 (by kernel_rfl) (by rfl) (by rfl) (wants_none) (.cons (known_const _) .nil) ((fun w => of8_any 0 (by decide) w))
       ·exact sA
       ·exact sA
       ·exact sA
       ·exact fun _ => coreG_call _ 22 _ _ [.const (.int .u64 0)] _ _ _ _ _ _ _ (by rfl) Try.func22 (by kernel_rfl) (by rfl) (by rfl) (wc 3 167 3 (kc 3 167)) (.cons (known_const _) .nil) ((fun w => of8_any 0 (by decide) w))
       ·exact sA
       ·exact sA
      intro gs rs a w hgs hrs F HM
      obtain rfl := nl0 rs hrs
      clear hrs
      obtain rfl := nl0 gs hgs
      clear hgs
      refine sx_done (by kernel_rfl) ?_ _
      repeat (first | refine ex_then ?_ | refine ex_block ?_ | refine wp_seq ?_ | refine wp_block ?_ | refine wp_skip ?_)
      refine wp_cond_false (F.ev rfl) ?_
      repeat (first | refine ex_then ?_ | refine ex_block ?_ | refine wp_seq ?_ | refine wp_block ?_ | refine wp_skip ?_)
      refine wp_region_lit ?_
      refine lx_value (v := grp P Q G H) F (wanted_none rfl _) rfl (by rfl) (o_loadG (F.ev rfl) (HG.on HM.bel)) fun a F => ?_
      refine lx_value (v := num X1) F (wanted_none rfl _) rfl (by rfl) (o_loadN (F.ev rfl) (HM.get 1 rfl)) fun a F => ?_
      refine lx_value (v := num X2) F (wanted_none rfl _) rfl (by rfl) (o_loadN (F.ev rfl) (HM.get 0 rfl)) fun a F => ?_
      refine lx_call F (wanted_none rfl _) rfl (by rfl) (run_callF Try.func14 (by kernel_rfl) (by rfl) (.cons (F.ev rfl) (.cons (F.ev rfl) (.cons (F.ev rfl) .nil))) _) (cM _) fun a w z F => ?_
      replace HM := HM.on z
      clear z
      refine lx_value (v := .tuple #[num V, .int .i64 0]) F (wanted_none rfl _) rfl (by rfl) (o_move (F.ev rfl)) fun a F => ?_
      refine lx_value (v := num V) F (wanted_none rfl _) rfl (by rfl) (o_extract (F.ev rfl) rfl) fun a F => ?_
      refine lx_value (v := .int .i64 0) F (wanted_none rfl _) rfl (by rfl) (o_extract (F.ev rfl) rfl) fun a F => ?_
      refine lx_new F HM (wanted_none rfl _) rfl (by rfl) (o_allocN) fun a w gq F HM => ?_
      refine lx_store F HM (wanted_none rfl _) rfl (k := 0) rfl (o_storeN (F.ev rfl) (F.ev rfl) (HM.get 0 rfl)) (M2 := [(gq, 24, ncs V), (gv, 24, ncs X2), (gu, 24, ncs X1), (gy, 24, ncs V), (gx, 24, ncs V)]) rfl fun w HM => ?_
      refine lx_value (v := .int .i64 0) F (wanted_none rfl _) rfl (by rfl) (o_assign (F.ev rfl)) fun a F => ?_
      refine lx_nil ?_
      repeat (first | refine ex_then ?_ | refine ex_block ?_ | refine wp_seq ?_ | refine wp_block ?_ | refine wp_skip ?_)
      refine wp_region_lit ?_
      refine lx_value (v := .int .i64 0) F (wanted_none rfl _) rfl (by rfl) (o_move (F.ev rfl)) fun a F => ?_
      refine lx_value (v := .bool true) F (wanted_none rfl _) rfl (by rfl) (o_bin (u := .int .i64 0) (v := .int .i64 0) (fun ρ hx hy => by simp only [execOp, hx, hy]; simp [go_sem]) (F.ev rfl) rfl) fun a F => ?_
      refine lx_value (v := .bool true) F (wanted_none rfl _) rfl (by rfl) (o_move (F.ev rfl)) fun a F => ?_
      refine lx_value (v := num V) F (F.want (t := 184) (c := true) rfl rfl rfl (by rfl) rfl) rfl (by rfl) (o_loadN (F.ev rfl) (HM.get 0 rfl)) fun a F => ?_
      refine lx_value (v := num V) F (F.want (t := 184) (c := true) rfl rfl rfl (by rfl) rfl) rfl (by rfl) (o_loadN (F.ev rfl) (HM.get 4 rfl)) fun a F => ?_
      refine lx_value (v := .bool true) F (F.want (t := 184) (c := true) rfl rfl rfl (by rfl) rfl) rfl (by rfl) (o_eqlS (F.ev rfl) (F.ev rfl)) fun a F => ?_
      refine lx_value (v := .bool true) F (wanted_none rfl _) rfl (by rfl) (o_pick (b := true) (r := .bool true) (F.ev rfl) (F.ev rfl) rfl rfl) fun a F => ?_
      refine lx_value (v := .bool true) F (wanted_none rfl _) rfl (by rfl) (o_assign (F.ev rfl)) fun a F => ?_
      refine lx_nil ?_
      repeat (first | refine ex_then ?_ | refine ex_block ?_ | refine wp_seq ?_ | refine wp_block ?_ | refine wp_skip ?_)
      refine wp_ret ?_
      repeat (first | refine ex_thenR ?_ | refine ex_blockR ?_)
      exact bodyPost_ret (res_tmp F rfl (s := 6) rfl) F.defers ⟨rfl, HB.trans (HM.bel.mono HB.size)⟩
  ·have hbad : ∀ (l : List NP) (a b : Option Addr) (ca cb : Nat), (mayAll P l = mayAll P zs) → NSl wS.heap.size wS a ca (l.map (·.1.1)) → NSl wS.heap.size wS b cb (l.map (·.1.2)) → ∀ u, Below wS.heap.size wS u → Calls Try.prog 28 #[grp P Q G H, .slice a l.length ca, .slice b l.length cb] u fun e w2 => e = .returned (.tuple #[num 0, .int .i64 1]) ∧ Below u.heap.size u w2 := by
    intro l a b ca cb hml sa sb u hu
    by_cases h1 : 1 < P
    ·have := prod_good P Q G H l a b ca cb hP h1 u ((sa.below hu).up hu.size) ((sb.below hu).up hu.size)
     rwa [if_neg (show ¬ mayAll P l = true from fun h => hgood ⟨h1, by rw [← hml]; exact h⟩)] at this
    ·exact prod_low P Q G H l.length ca l.length cb a b hP (cmpN_le (by omega)) u
   have cA := hbad zs pa pb ca cb rfl m0 m1
   have cB := hbad zs.reverse pc pd cc cd (mayAll_rev P zs) m2 m3
   rw [List.length_reverse] at cB
   repeat (first | refine ex_then ?_ | refine ex_block ?_ | refine wp_seq ?_ | refine wp_block ?_ | refine wp_skip ?_)
   refine wp_region_lit ?_
   refine lx_value (v := grp P Q G H) F (wanted_none rfl _) rfl (by rfl) (o_loadG (F.ev rfl) (HG.on HM.bel)) fun a F => ?_
   refine lx_value (v := .slice pa zs.length ca) F (wanted_none rfl _) rfl (by rfl) (o_move (F.ev rfl)) fun a F => ?_
   refine lx_value (v := .slice pb zs.length cb) F (wanted_none rfl _) rfl (by rfl) (o_move (F.ev rfl)) fun a F => ?_
   refine lx_call F (wanted_none rfl _) rfl (by rfl) (run_callF Try.func28 (by kernel_rfl) (by rfl) (.cons (F.ev rfl) (.cons (F.ev rfl) (.cons (F.ev rfl) .nil))) _) (cA _ HM.bel) fun a w z F => ?_
   replace HM := HM.on z
   clear z
   refine lx_value (v := .tuple #[num 0, .int .i64 1]) F (wanted_none rfl _) rfl (by rfl) (o_move (F.ev rfl)) fun a F => ?_
   refine lx_value (v := num 0) F (wanted_none rfl _) rfl (by rfl) (o_extract (F.ev rfl) rfl) fun a F => ?_
   refine lx_value (v := .int .i64 1) F (wanted_none rfl _) rfl (by rfl) (o_extract (F.ev rfl) rfl) fun a F => ?_
   refine lx_new F HM (wanted_none rfl _) rfl (by rfl) (o_allocN) fun a w gx F HM => ?_
   refine lx_store F HM (wanted_none rfl _) rfl (k := 0) rfl (o_storeN (F.ev rfl) (F.ev rfl) (HM.get 0 rfl)) (M2 := [(gx, 24, ncs 0)]) rfl fun w HM => ?_
   refine lx_value (v := .int .i64 1) F (wanted_none rfl _) rfl (by rfl) (o_assign (F.ev rfl)) fun a F => ?_
   refine lx_nil ?_
   repeat (first | refine ex_then ?_ | refine ex_block ?_ | refine wp_seq ?_ | refine wp_block ?_ | refine wp_skip ?_)
   refine wp_region_lit ?_
   refine lx_value (v := grp P Q G H) F (wanted_none rfl _) rfl (by rfl) (o_loadG (F.ev rfl) (HG.on HM.bel)) fun a F => ?_
   refine lx_value (v := .slice pc zs.length cc) F (wanted_none rfl _) rfl (by rfl) (o_move (F.ev rfl)) fun a F => ?_
   refine lx_value (v := .slice pd zs.length cd) F (wanted_none rfl _) rfl (by rfl) (o_move (F.ev rfl)) fun a F => ?_
   refine lx_call F (wanted_none rfl _) rfl (by rfl) (run_callF Try.func28 (by kernel_rfl) (by rfl) (.cons (F.ev rfl) (.cons (F.ev rfl) (.cons (F.ev rfl) .nil))) _) (cB _ HM.bel) fun a w z F => ?_
   replace HM := HM.on z
   clear z
   refine lx_value (v := .tuple #[num 0, .int .i64 1]) F (wanted_none rfl _) rfl (by rfl) (o_move (F.ev rfl)) fun a F => ?_
   refine lx_value (v := num 0) F (wanted_none rfl _) rfl (by rfl) (o_extract (F.ev rfl) rfl) fun a F => ?_
   refine lx_value (v := .int .i64 1) F (wanted_none rfl _) rfl (by rfl) (o_extract (F.ev rfl) rfl) fun a F => ?_
   refine lx_new F HM (wanted_none rfl _) rfl (by rfl) (o_allocN) fun a w gy F HM => ?_
   refine lx_store F HM (wanted_none rfl _) rfl (k := 0) rfl (o_storeN (F.ev rfl) (F.ev rfl) (HM.get 0 rfl)) (M2 := [(gy, 24, ncs 0), (gx, 24, ncs 0)]) rfl fun w HM => ?_
   refine lx_value (v := .int .i64 1) F (wanted_none rfl _) rfl (by rfl) (o_assign (F.ev rfl)) fun a F => ?_
   refine lx_nil ?_
   repeat (first | refine ex_then ?_ | refine ex_block ?_ | refine wp_seq ?_ | refine wp_block ?_ | refine wp_skip ?_)
   refine wp_region_lit ?_
   refine lx_value (v := .int .i64 1) F (wanted_none rfl _) rfl (by rfl) (o_move (F.ev rfl)) fun a F => ?_
   refine lx_value (v := .int .i64 1) F (wanted_none rfl _) rfl (by rfl) (o_move (F.ev rfl)) fun a F => ?_
   refine lx_value (v := .bool false) F (wanted_none rfl _) rfl (by rfl) (o_bin (u := .int .i64 1) (v := .int .i64 1) (fun ρ hx hy => by simp only [execOp, hx, hy]; simp [go_sem]) (F.ev rfl) (F.ev rfl)) fun a F => ?_
   refine lx_value (v := .bool false) F (wanted_none rfl _) rfl (by rfl) (o_move (F.ev rfl)) fun a F => ?_
   refine lx_value (v := num 0) F (F.want (t := 95) (c := false) rfl rfl rfl (by rfl) rfl) rfl (by rfl) (o_loadN (F.ev rfl) (HM.get 1 rfl)) fun a F => ?_
   refine lx_value (v := num 0) F (F.want (t := 95) (c := false) rfl rfl rfl (by rfl) rfl) rfl (by rfl) (o_loadN (F.ev rfl) (HM.get 0 rfl)) fun a F => ?_
   refine lx_value (v := .bool false) F (F.want (t := 95) (c := false) rfl rfl rfl (by rfl) rfl) rfl (by rfl) (o_neqS (F.ev rfl) (F.ev rfl)) fun a F => ?_
   refine lx_value (v := .bool false) F (wanted_none rfl _) rfl (by rfl) (o_pick (b := false) (r := .bool false) (F.ev rfl) rfl (F.ev rfl) rfl) fun a F => ?_
   refine lx_nil ?_
   repeat (first | refine ex_then ?_ | refine ex_block ?_ | refine wp_seq ?_ | refine wp_block ?_ | refine wp_skip ?_)
   refine wp_cond_false (F.ev rfl) ?_
   repeat (first | refine ex_then ?_ | refine ex_block ?_ | refine wp_seq ?_ | refine wp_block ?_ | refine wp_skip ?_)
   refine wp_region_lit ?_
   refine lx_value (v := .int .i64 1) F (wanted_none rfl _) rfl (by rfl) (o_move (F.ev rfl)) fun a F => ?_
   refine lx_value (v := .bool true) F (wanted_none rfl _) rfl (by rfl) (o_bin (u := .int .i64 1) (v := .int .i64 0) (fun ρ hx hy => by simp only [execOp, hx, hy]; simp [go_sem]) (F.ev rfl) rfl) fun a F => ?_
   refine lx_nil ?_
   repeat (first | refine ex_then ?_ | refine ex_block ?_ | refine wp_seq ?_ | refine wp_block ?_ | refine wp_skip ?_)
   refine wp_cond_true (F.ev rfl) ?_
   repeat (first | refine ex_then ?_ | refine ex_block ?_ | refine wp_seq ?_ | refine wp_block ?_ | refine wp_skip ?_)
   try simp only [List.append_eq, List.cons_append, List.nil_append]
   refine sx_drawn [⟨0, 102, [], .val (.int .i64 1), true⟩,
   ⟨1, 103, [0], .val (.bool true), true⟩,
   ⟨2, 104, [1], .val (.bool true), true⟩,
   ⟨3, 105, [2], .val (num 0), true⟩,
   ⟨4, 106, [2, 3], .val (num 0), false⟩,
   ⟨5, 107, [2, 3, 4], .val (.bool true), true⟩,
   ⟨6, 108, [2, 5], .val (.bool true), true⟩] 1 F HM (by kernel_rfl) (by rfl) (by rfl) ?_ ?_ ?_ ?_ ?_ ?_ ?_
   ·kernel_rfl
   ·exact of_decide_eq_true (by kernel_rfl)
   ·(repeat refine all_cons ⟨_, by rfl, by rfl⟩ ?_); exact all_nil
   ·kernel_rfl
   ·(repeat (refine all_cons ?_ ?_; rotate_left)); exact all_nil
    ·exact coreS _ _ _ _ _ _ _ (by rfl) (by rfl) (wants_none) (fun ρ w kn hs => o_move (kn _ _ (F.old (by rfl) rfl)))
    ·exact coreS _ _ _ _ _ _ _ (by rfl) (by rfl) (wants_none) (fun ρ w kn hs => o_bin (u := .int .i64 1) (v := .int .i64 1) (fun ρ hx hy => by simp only [execOp, hx, hy]; simp [go_sem]) (kn _ _ (kc 0 102)) (kn _ _ (known_const _)))
    ·exact coreS _ _ _ _ _ _ _ (by rfl) (by rfl) (wants_none) (fun ρ w kn hs => o_move (kn _ _ (kc 1 103)))
    ·exact coreS _ _ _ _ _ _ _ (by rfl) (by rfl) (wc 2 104 2 (kc 2 104)) (fun ρ w kn hs => o_loadN (kn _ _ (F.old (by rfl) rfl)) (hs.get 1 rfl))
    ·exact core_pureAs _ (by rfl)
    ·exact coreS _ _ _ _ _ _ _ (by rfl) (by rfl) (wc 2 104 2 (kc 2 104)) (fun ρ w kn hs => o_eqlS (kn _ _ (kc 3 105)) (kn _ _ (kc 4 106)))
    ·exact coreS _ _ _ _ _ _ _ (by rfl) (by rfl) (wants_none) (fun ρ w kn hs => o_pick (b := true) (r := .bool true) (kn _ _ (kc 2 104)) (kn _ _ (kc 5 107)) (kn _ _ (known_const _)) rfl)
   ·(repeat (refine all_cons ?_ ?_; rotate_left)); exact all_nil
    ·exact sA
    ·exact sA
    ·exact sA
    ·exact sA
    ·exact fun _ => coreG_call _ 22 _ _ [.const (.int .u64 0)] _ _ _ _ _ _ _ (by rfl) Try.func22 (by kernel_rfl) (by rfl) (by rfl) (wc 2 104 2 (kc 2 104)) (.cons (known_const _) .nil) ((fun w => of8_any 0 (by decide) w))
    ·exact sA
    ·exact sA
   intro gs rs a w hgs hrs F HM
   obtain rfl := nl0 rs hrs
   clear hrs
   obtain rfl := nl0 gs hgs
   clear hgs
   refine sx_assign (i := 7) (d := 6) (x := .tmp 108) (v := .bool true) F (HM) (by kernel_rfl) (by rfl) (by rfl) (F.ev rfl) fun a F => ?_
   refine sx_done (by kernel_rfl) ?_ _
   repeat (first | refine ex_then ?_ | refine ex_block ?_ | refine wp_seq ?_ | refine wp_block ?_ | refine wp_skip ?_)
   refine wp_ret ?_
   repeat (first | refine ex_thenR ?_ | refine ex_blockR ?_)
   exact bodyPost_ret (res_tmp F rfl (s := 6) rfl) F.defers ⟨rfl, HB.trans (HM.bel.mono HB.size)⟩
theorem gprod_walk (P Q G H : Nat) (zs : List NP) (cl cut : Nat) (pl : Option Addr) (w0 : World) (hP : P < 2 ^ 256) (hcut : cut < 256) (sP : PSl w0.heap.size w0 pl cl zs) : Calls Try.prog 7 #[grp P Q G H, .slice pl zs.length cl, .int .u8 (cut : Nat)] w0 fun e w' => e = .returned (.bool true) ∧ Below w0.heap.size w0 w' := by
 by_cases hn : 60 < zs.length
 ·exact gprod_long P Q G H zs cl cut pl w0 hn
 ·exact gprod_w P Q G H zs cl cut pl w0 (by omega) sP hP hcut
end Go.Proofs.Ytbggihkigblnfaa
