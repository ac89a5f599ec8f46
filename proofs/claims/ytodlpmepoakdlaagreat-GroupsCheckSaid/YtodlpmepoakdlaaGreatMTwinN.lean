import Derived.Deep.Cut
import Derived.Laws.MakeOwn
import Derived.Test.YtodlpmepoakdlaaGreatMGpl
import Derived.Test.YtodlpmepoakdlaaGreatMRCore2
import Derived.Test.YtodlpmepoakdlaaGreatMSmall
import Derived.Test.YtodlpmepoakdlaaGreatMSxF
namespace Go.Proofs.YtodlpmepoakdlaaGreat
set_option maxRecDepth 100000
set_option maxHeartbeats 8000000
open Go.RowKit
set_option linter.unusedSimpArgs false
set_option linter.unusedVariables false
attribute [local go_sem ↓] Go.wp_at_zero Go.wp_at_succ

section
variable {x y : Operand} {dst : Option Tmp} {ty : TypeId} {pos : String} {after : Array Edge} {guard : Option (Nat × Bool)} {ρ : Operand → Value} {w : World} {g o : Nat}
theorem wrapI {m : Nat} (h : m < 4611686018427387904) : IntKind.i64.wrap (m : Int) = (m : Int) := by
 have := IntKind.wrap_i64 (m : Int)
 rw [this]; omega
theorem Jdf {m k : Nat} (hm : m + k < 4611686018427387904) (hx : ρ x = .int .i64 (m : Nat)) (hy : ρ y = .int .i64 (k : Nat)) : (execOp ρ ⟨dst, .binOp .add 3 x y 3, ty, pos, after, guard⟩).run Tryz.prog w = .ok (.value (.int .i64 ((m + k : Nat) : Int))) w := by
 have h1 : IntKind.i64.wrap ((m : Int) + (k : Int)) = (m : Int) + (k : Int) := by rw [show (m : Int) + (k : Int) = ((m + k : Nat) : Int) by omega]; exact wrapI hm
 simp only [execOp, hx, hy]
 simp [go_sem, h1]
theorem Jbe {i l cap : Nat} (hi : i < l) (hx : ρ x = .slice (some ⟨g, o, none⟩) l cap) (hy : ρ y = .int .i64 (i : Nat)) : (execOp ρ ⟨dst, .indexAddr 31 x y, ty, pos, after, guard⟩).run Tryz.prog w = .ok (.value (.pointer (some ⟨g, o + i * 4, none⟩))) w := by
 have h1 : (i : Int) < (l : Int) := by omega
 simp [execOp, hx, hy, go_sem, h1]
theorem o_cap {a : Option Addr} {l cap : Nat} (hx : ρ x = .slice a l cap) : (execOp ρ ⟨dst, .call ⟨.builtin .cap, #[x], #[31]⟩, ty, pos, after, guard⟩).run Tryz.prog w = .ok (.value (.int .i64 (cap : Nat))) w := by
 simp [execOp, hx, go_sem]
theorem o_cut {k l cap : Nat} (hk : k ≤ cap) (h0 : 0 < cap) (hx : ρ x = .slice (some ⟨g, o, none⟩) l cap) (hy : ρ y = .int .i64 (k : Nat)) : (execOp ρ ⟨dst, .slice 31 x none (some y) none, ty, pos, after, guard⟩).run Tryz.prog w = .ok (.value (.slice (some ⟨g, o, none⟩) k cap)) w := by
 have h1 : (k : Int) ≤ (cap : Int) := by omega
 have h2 : ¬ cap = 0 := by omega
 simp [execOp, hx, hy, go_sem, h1, h2, Addr.add_lit]
theorem o_b77 (hx : ρ (.const (.int .u64 77)) = .int .u64 77) : (execOp ρ ⟨dst, .build 24 #[(0, .const (.int .u64 77))], ty, pos, after, guard⟩).run Tryz.prog w = .ok (.value (num 77)) w := by
 have h : (execOp ρ ⟨dst, .build 24 #[(0, .const (.int .u64 77))], ty, pos, after, guard⟩).run Tryz.prog w = .ok (.value (.agg #[.int .u64 77, .int .u64 0, .int .u64 0, .int .u64 0])) w := by
  simp [execOp, hx, go_sem]
 exact h
end
section
variable {ops : Array Oper} {Q : Exit → Act → World → Prop} {a : Act} {n0 : Nat} {w w0 : World} {rest : List Oper} {N : Nat} {L : List (Nat × Value)} {df : List Deferred} {M : List (Nat × TypeId × Array Value)}
theorem lx_make {base d n : Nat} {x y : Operand} {ty : TypeId} {pos : String} {after : Array Edge} (F : Fr a N L df) (hd : Nat.blt d N = true) (hx : a.eval x = .int .i64 0) (hy : a.eval y = .int .i64 (n : Nat)) (hn : n ≤ 1000) (hb : base ≤ w.heap.size)
  (h : ∀ a' w' v, Fr a' N ((d, v) :: L) df → NR base w' v [] → w.grownBy w' none → wpList Tryz.prog ops Q rest a' w') : wpList Tryz.prog ops Q (⟨some d, .makeSlice 31 x y, ty, pos, after, none⟩ :: rest) a w := by
 obtain ⟨i0, hi, hz0, hz1, hz2⟩ := info_parts Tryz.infoNum
 obtain ⟨w', hr, ho, hg⟩ := run_makeSlice_owned (P := Tryz.prog) (w := w) base 31 24 i0 (num 0) 4 Tryz.underlying31 hi hz0 hz1 .i64 .i64 n (by omega) (by rw [hz2]; omega) (by unfold maxLen; omega) hb
 refine Jar (v := .slice (some ⟨w.heap.size, 0, none⟩) 0 n) (w' := w') F (Ja rfl _) rfl hd ?_ fun a' F' => h a' w' _ F' ho hg
 simp only [execOp, hx, hy]
 simp [go_sem, hr]
end
theorem NSl.pre {n₀ : Nat} {w : World} {a : Option Addr} {cap : Nat} {xs ys : List Nat} (h : NSl n₀ w a cap (xs ++ ys)) : NSl n₀ w a cap xs := by
 obtain ⟨h1, h2, h3, h4⟩ := h
 refine ⟨by rw [List.length_append] at h1; omega, h2, fun x hx => h3 x (List.mem_append_left _ hx), ?_⟩
 rcases h4 with h4 | ⟨g, o, ha, hg, hc⟩
 ·exact Or.inl (List.append_eq_nil_iff.1 h4).1
 ·refine Or.inr ⟨g, o, ha, hg, fun i hi k hk => ?_⟩
  have := hc i (by rw [List.length_append]; omega) k hk
  rwa [List.getElem_append_left hi] at this
theorem NSl.c4 {n₀ : Nat} {w : World} {a : Option Addr} {cap : Nat} {xs : List Nat} (h : NSl n₀ w a cap xs) {i x : Nat} (hi : i < xs.length) (hx : xs[i] = x) : ∃ g o, a = some ⟨g, o, none⟩ ∧ ∀ u, Below n₀ w u → C4 u g (o + i * 4) x := by
 obtain ⟨g, o, ha, hg, h0, h1, h2, h3⟩ := h.get hi hx
 exact ⟨g, o, ha, fun u hb => ⟨(hb.cell (p := ⟨g, o + i * 4, none⟩) hg).trans h0, (hb.cell (p := ⟨g, o + i * 4 + 1, none⟩) hg).trans h1, (hb.cell (p := ⟨g, o + i * 4 + 2, none⟩) hg).trans h2, (hb.cell (p := ⟨g, o + i * 4 + 3, none⟩) hg).trans h3⟩⟩
def TwN (n₀ : Nat) (w : World) (v : Value) (xs : List Nat) : Prop := ∃ g o cap, v = .slice (some ⟨g, o, none⟩) xs.length cap ∧ NSl n₀ w (some ⟨g, o, none⟩) cap (xs ++ [77])
theorem twinN_any (xs : List Nat) (pl : Option Addr) (cl : Nat) (w0 : World) (hn : xs.length ≤ 100) (sL : NSl w0.heap.size w0 pl cl xs) : Calls Tryz.prog 5 #[.slice pl xs.length cl] w0 fun e w' => ∃ v, e = .returned v ∧ TwN w'.heap.size w' v xs ∧ Below w0.heap.size w0 w' := by
 refine Kk (args := [.slice pl xs.length cl]) Tryz.func5 rfl Tryz.ntmps5 (by rfl) fun a F HM => ?_
 repeat first|refine et1 ?_|refine eb1 ?_|refine ws1 ?_|refine wb1 ?_|refine wk1 ?_
 refine wp_region_lit ?_
 refine lxv (.slice none 0 0) F (Jk rfl) fun a F => ?_
 refine Jj ?_
 repeat first|refine et1 ?_|refine eb1 ?_|refine ws1 ?_|refine wb1 ?_|refine wk1 ?_
 refine wp_region_lit ?_
 refine lxv (.slice pl xs.length cl) F (Jg (F.ev rfl)) fun a F => ?_
 refine lxv (.int .i64 (xs.length : Nat)) F (Vs (F.ev rfl)) fun a F => ?_
 refine lxv (.int .i64 ((xs.length + 1 : Nat) : Int)) F (Jdf (m := xs.length) (k := 1) (by omega) (F.ev rfl) rfl) fun a F => ?_
 obtain ⟨nb, hnb⟩ : ∃ nb, nb = w0.heap.size := ⟨_, rfl⟩
 have hn0 : w0.heap.size ≤ nb := by rw [hnb]; exact Nat.le_refl _
 refine lx_make (base := nb) F (by rfl) rfl (F.ev rfl) (by omega) (Nat.le_of_eq hnb) fun a w v F hv hgm => ?_
 replace HM := HM.grown hgm (fun r e => by cases e)
 have hnw : nb ≤ w.heap.size := Nat.le_trans (Nat.le_of_eq hnb) hgm.size
 clear hgm hnb
 refine lxv v F (Jk (F.ev rfl)) fun a F => ?_
 refine Jj ?_
 repeat first|refine et1 ?_|refine eb1 ?_|refine ws1 ?_|refine wb1 ?_|refine wk1 ?_
 refine wp_region_lit ?_
 refine lxv (.int .i64 0) F (Jk rfl) fun a F => ?_
 refine Jj ?_
 repeat first|refine et1 ?_|refine eb1 ?_|refine ws1 ?_|refine wb1 ?_|refine wk1 ?_
 refine wp_loop (fun a w => ∃ (i : Nat) (v : Value), i ≤ xs.length ∧ Fr a 29 [(4, .int .i64 (i : Nat)), (3, v), (0, .slice pl xs.length cl)] [] ∧ Mem w0.heap.size w0 w [] ∧ nb ≤ w.heap.size ∧ NR nb w v (xs.take i))
  (fun a _ => xs.length - (intOf (a.tmps.getD 4 undef)).toNat) ⟨0, _, Nat.zero_le _, F.sub [4, 3, 0], HM, hnw, hv⟩ ?_
 clear F HM hnw hv
 rintro aS wS ⟨i, v, hi, FS, HM, hnw, n0⟩
 have F := FS
 by_cases hlt : i < xs.length
 ·repeat first|refine et1 ?_|refine eb1 ?_|refine ws1 ?_|refine wb1 ?_|refine wk1 ?_
  refine wp_region_lit ?_
  refine lxv (.int .i64 (i : Nat)) F (Jg (F.ev rfl)) fun a F => ?_
  refine lxv (.slice pl xs.length cl) F (Jg (F.ev rfl)) fun a F => ?_
  refine lxv (.int .i64 (xs.length : Nat)) F (Vs (F.ev rfl)) fun a F => ?_
  refine lxv (.bool true) F (Kh (u := .int .i64 (i : Nat)) (v := .int .i64 (xs.length : Nat)) (fun ρ hx hy => by simp only [execOp, hx, hy]; simp [go_sem]; omega) (F.ev rfl) (F.ev rfl)) fun a F => ?_
  refine Jj ?_
  repeat first|refine et1 ?_|refine eb1 ?_|refine ws1 ?_|refine wb1 ?_|refine wk1 ?_
  refine wp_cond_true (F.ev rfl) ?_
  obtain ⟨gl, ol, hpl, hc⟩ := sL.c4 hlt rfl
  subst hpl
  have tk : xs.take (i + 1) = xs.take i ++ [xs[i]] := by rw [List.take_succ_eq_append_getElem hlt]
  generalize xs[i] = z at *
  have hln : (xs.take i).length < 1000 := by rw [List.length_take]; omega
  repeat first|refine et1 ?_|refine eb1 ?_|refine ws1 ?_|refine wb1 ?_|refine wk1 ?_
  refine wp_region_lit ?_
  refine lxv v F (Jg (F.ev rfl)) fun a F => ?_
  refine lxv (.slice (some ⟨gl, ol, none⟩) xs.length cl) F (Jg (F.ev rfl)) fun a F => ?_
  refine lxv (.int .i64 (i : Nat)) F (Jg (F.ev rfl)) fun a F => ?_
  refine lxv (.pointer (some ⟨gl, ol + i * 4, none⟩)) F (Jbe hlt (F.ev rfl) (F.ev rfl)) fun a F => ?_
  refine lxv (num z) F (Xi (F.ev rfl) (hc _ HM.bel)) fun a F => ?_
  refine lx_row F (Ja rfl _) rfl (by rfl) (o_slice1 (F.ev rfl)) fun a w gt F hat zz => ?_
  replace HM := HM.on zz
  replace hnw := Nat.le_trans hnw zz.size
  replace n0 := n0.on zz
  clear zz
  refine lx_append (base := nb) (X := z) (xs := xs.take i) F rfl rfl rfl (by rfl) n0 (F.ev rfl) (F.ev rfl) hat hln hnw fun a w vn F nn hg ho hex => ?_
  replace HM := HM.row n0 hg (fun x hx => by cases hx) hn0
  replace hnw := Nat.le_trans hnw hg.size
  clear n0 ho hg hat
  have n0 := nn
  clear nn
  refine lxv vn F (Jk (F.ev rfl)) fun a F => ?_
  refine Jj ?_
  repeat first|refine et1 ?_|refine eb1 ?_|refine ws1 ?_|refine wb1 ?_|refine wk1 ?_
  refine wp_region_lit ?_
  refine lxv (.int .i64 (i : Nat)) F (Jg (F.ev rfl)) fun a F => ?_
  refine lxv (.int .i64 ((i + 1 : Nat) : Int)) F (Jdf (m := i) (k := 1) (by omega) (F.ev rfl) rfl) fun a F => ?_
  refine lxv (.int .i64 ((i + 1 : Nat) : Int)) F (Jk (F.ev rfl)) fun a F => ?_
  refine Jj ?_
  refine Kv ?_
  refine ⟨⟨i + 1, vn, by omega, F.sub [4, 3, 0], HM, hnw, by rw [tk]; exact n0⟩, ?_⟩
  show xs.length - (intOf (a.tmps.getD 4 undef)).toNat < xs.length - (intOf (aS.tmps.getD 4 undef)).toNat
  rw [F.get 4 _ rfl, FS.get 4 _ rfl]
  show xs.length - ((i + 1 : Nat) : Int).toNat < xs.length - ((i : Nat) : Int).toNat
  omega
 ·repeat first|refine et1 ?_|refine eb1 ?_|refine ws1 ?_|refine wb1 ?_|refine wk1 ?_
  refine wp_region_lit ?_
  refine lxv (.int .i64 (i : Nat)) F (Jg (F.ev rfl)) fun a F => ?_
  refine lxv (.slice pl xs.length cl) F (Jg (F.ev rfl)) fun a F => ?_
  refine lxv (.int .i64 (xs.length : Nat)) F (Vs (F.ev rfl)) fun a F => ?_
  refine lxv (.bool false) F (Kh (u := .int .i64 (i : Nat)) (v := .int .i64 (xs.length : Nat)) (fun ρ hx hy => by simp only [execOp, hx, hy]; simp [go_sem]; omega) (F.ev rfl) (F.ev rfl)) fun a F => ?_
  refine Jj ?_
  repeat first|refine et1 ?_|refine eb1 ?_|refine ws1 ?_|refine wb1 ?_|refine wk1 ?_
  refine wp_cond_false (F.ev rfl) ?_
  repeat first|refine et1 ?_|refine eb1 ?_|refine ws1 ?_|refine wb1 ?_|refine wk1 ?_
  refine wp_exit ?_
  repeat (first | refine Wz ?_ | refine Wf ?_)
  obtain rfl : i = xs.length := by omega
  clear FS hlt hi
  rw [List.take_length] at n0
  repeat first|refine et1 ?_|refine eb1 ?_|refine ws1 ?_|refine wb1 ?_|refine wk1 ?_
  refine wp_region_lit ?_
  refine lxv v F (Jg (F.ev rfl)) fun a F => ?_
  refine lxv (num 77) F (o_b77 rfl) fun a F => ?_
  refine lx_row F (Ja rfl _) rfl (by rfl) (o_slice1 (F.ev rfl)) fun a w gt F hat zz => ?_
  replace HM := HM.on zz
  replace hnw := Nat.le_trans hnw zz.size
  replace n0 := n0.on zz
  clear zz
  refine lx_append (base := nb) (X := 77) (xs := xs) F rfl rfl rfl (by rfl) n0 (F.ev rfl) (F.ev rfl) hat (by omega) hnw fun a w vn F nn hg ho hex => ?_
  replace HM := HM.row n0 hg (fun x hx => by cases hx) hn0
  replace hnw := Nat.le_trans hnw hg.size
  clear n0 ho hg hat
  have n0 := nn
  clear nn
  clear hex
  obtain ⟨pa, ca, rfl, hS⟩ := n0.sl (fun x hx => by rcases List.mem_append.1 hx with hx | hx; exact sL.2.2.1 x hx; rw [List.mem_singleton.1 hx]; decide)
  have hca := hS.1
  rw [List.length_append] at hca
  have hca2 : xs.length + 1 ≤ ca := hca
  obtain ⟨gg, go, rfl⟩ : ∃ gg go, pa = some ⟨gg, go, none⟩ := by
   rcases hS.2.2.2 with h | ⟨g, o, ha, _⟩
   ·simp at h
   ·exact ⟨g, o, ha⟩
  refine lxv (.slice pl xs.length cl) F (Jg (F.ev rfl)) fun a F => ?_
  refine lxv (.int .i64 (xs.length : Nat)) F (Vs (F.ev rfl)) fun a F => ?_
  refine lxv (.slice (some ⟨gg, go, none⟩) xs.length ca) F (o_cut (k := xs.length) (by omega) (by omega) (F.ev rfl) (F.ev rfl)) fun a F => ?_
  refine lxv (.slice (some ⟨gg, go, none⟩) xs.length ca) F (Jk (F.ev rfl)) fun a F => ?_
  refine Jj ?_
  repeat first|refine et1 ?_|refine eb1 ?_|refine ws1 ?_|refine wb1 ?_|refine wk1 ?_
  refine wp_ret ?_
  repeat (first | refine Jt ?_ | refine Jp ?_)
  exact bodyPost_ret (Kf F rfl (s := 2) rfl) F.defers ⟨_, rfl, ⟨gg, go, ca, rfl, hS⟩, HM.bel⟩
theorem leftN_w (xs : List Nat) (gt ot ct : Nat) (pl : Option Addr) (cl : Nat) (w0 : World) (hn : xs.length ≤ 100) (sT : NSl w0.heap.size w0 (some ⟨gt, ot, none⟩) ct (xs ++ [77])) (sL : NSl w0.heap.size w0 pl cl xs) : Calls Tryz.prog 10 #[.slice (some ⟨gt, ot, none⟩) xs.length ct, .slice pl xs.length cl] w0 fun e w' => e = .returned (.bool true) ∧ Below w0.heap.size w0 w' := by
 have hct := sT.1
 rw [List.length_append] at hct
 have hct2 : xs.length + 1 ≤ ct := hct
 refine Kk (args := [.slice (some ⟨gt, ot, none⟩) xs.length ct, .slice pl xs.length cl]) Tryz.func10 rfl Tryz.ntmps10 (by rfl) fun a F HM => ?_
 repeat first|refine et1 ?_|refine eb1 ?_|refine ws1 ?_|refine wb1 ?_|refine wk1 ?_
 refine wp_region_lit ?_
 refine lxv (.bool false) F (Jk rfl) fun a F => ?_
 refine Jj ?_
 repeat first|refine et1 ?_|refine eb1 ?_|refine ws1 ?_|refine wb1 ?_|refine wk1 ?_
 refine wp_region_lit ?_
 refine lxv (.slice (some ⟨gt, ot, none⟩) xs.length ct) F (Jg (F.ev rfl)) fun a F => ?_
 refine lxv (.int .i64 (xs.length : Nat)) F (Vs (F.ev rfl)) fun a F => ?_
 refine lxv (.slice pl xs.length cl) F (Jg (F.ev rfl)) fun a F => ?_
 refine lxv (.int .i64 (xs.length : Nat)) F (Vs (F.ev rfl)) fun a F => ?_
 refine lxv (.bool false) F (Kh (u := .int .i64 (xs.length : Nat)) (v := .int .i64 (xs.length : Nat)) (fun ρ hx hy => by simp only [execOp, hx, hy]; simp [go_sem]) (F.ev rfl) (F.ev rfl)) fun a F => ?_
 refine lxv (.bool false) F (Jg (F.ev rfl)) fun a F => ?_
 refine lxw 12 false (.slice (some ⟨gt, ot, none⟩) xs.length ct) F (Jg (F.ev rfl)) fun a F => ?_
 refine lxw 12 false (.int .i64 (ct : Nat)) F (o_cap (F.ev rfl)) fun a F => ?_
 refine lxw 12 false (.slice pl xs.length cl) F (Jg (F.ev rfl)) fun a F => ?_
 refine lxw 12 false (.int .i64 (xs.length : Nat)) F (Vs (F.ev rfl)) fun a F => ?_
 refine lxw 12 false (.bool false) F (Kh (u := .int .i64 (ct : Nat)) (v := .int .i64 (xs.length : Nat)) (fun ρ hx hy => by simp only [execOp, hx, hy]; simp [go_sem]; omega) (F.ev rfl) (F.ev rfl)) fun a F => ?_
 refine lxv (.bool false) F (Js (b := false) (r := .bool false) (F.ev rfl) rfl (F.ev rfl) rfl) fun a F => ?_
 refine Jj ?_
 repeat first|refine et1 ?_|refine eb1 ?_|refine ws1 ?_|refine wb1 ?_|refine wk1 ?_
 refine wp_cond_false (F.ev rfl) ?_
 repeat first|refine et1 ?_|refine eb1 ?_|refine ws1 ?_|refine wb1 ?_|refine wk1 ?_
 refine wp_region_lit ?_
 refine lxv (.int .i64 0) F (Jk rfl) fun a F => ?_
 refine Jj ?_
 repeat first|refine et1 ?_|refine eb1 ?_|refine ws1 ?_|refine wb1 ?_|refine wk1 ?_
 refine wp_loop (fun a w => ∃ i : Nat, i ≤ xs.length ∧ Fr a 46 [(5, .int .i64 (i : Nat)), (0, .slice (some ⟨gt, ot, none⟩) xs.length ct), (1, .slice pl xs.length cl)] [] ∧ Mem w0.heap.size w0 w [])
  (fun a _ => xs.length - (intOf (a.tmps.getD 5 undef)).toNat) ⟨0, Nat.zero_le _, F.sub [5, 0, 1], HM⟩ ?_
 clear F HM
 rintro aS wS ⟨i, hi, FS, HM⟩
 have F := FS
 by_cases hlt : i < xs.length
 ·repeat first|refine et1 ?_|refine eb1 ?_|refine ws1 ?_|refine wb1 ?_|refine wk1 ?_
  refine wp_region_lit ?_
  refine lxv (.int .i64 (i : Nat)) F (Jg (F.ev rfl)) fun a F => ?_
  refine lxv (.slice pl xs.length cl) F (Jg (F.ev rfl)) fun a F => ?_
  refine lxv (.int .i64 (xs.length : Nat)) F (Vs (F.ev rfl)) fun a F => ?_
  refine lxv (.bool true) F (Kh (u := .int .i64 (i : Nat)) (v := .int .i64 (xs.length : Nat)) (fun ρ hx hy => by simp only [execOp, hx, hy]; simp [go_sem]; omega) (F.ev rfl) (F.ev rfl)) fun a F => ?_
  refine Jj ?_
  repeat first|refine et1 ?_|refine eb1 ?_|refine ws1 ?_|refine wb1 ?_|refine wk1 ?_
  refine wp_cond_true (F.ev rfl) ?_
  obtain ⟨gl, ol, hpl, hc⟩ := sL.c4 hlt rfl
  obtain ⟨g2, o2, hp2, hd⟩ := sT.pre.c4 hlt rfl
  obtain ⟨rfl, rfl⟩ : gt = g2 ∧ ot = o2 := by cases hp2; exact ⟨rfl, rfl⟩
  subst hpl
  clear hp2
  generalize xs[i] = z at *
  repeat first|refine et1 ?_|refine eb1 ?_|refine ws1 ?_|refine wb1 ?_|refine wk1 ?_
  try simp only [List.append_eq, List.cons_append, List.nil_append]
  refine Kl [⟨0, 25, [], .val (.slice (some ⟨gt, ot, none⟩) xs.length ct), true⟩,
   ⟨1, 26, [0], .val (.int .i64 (i : Nat)), true⟩,
   ⟨2, 27, [0, 1], .val (.pointer (some ⟨gt, ot + i * 4, none⟩)), true⟩,
   ⟨3, 28, [2], .val (num z), true⟩,
   ⟨4, 29, [3], .val (.slice (some ⟨gl, ol, none⟩) xs.length cl), true⟩,
   ⟨5, 30, [4], .val (.int .i64 (i : Nat)), true⟩,
   ⟨6, 31, [4, 5], .val (.pointer (some ⟨gl, ol + i * 4, none⟩)), true⟩,
   ⟨7, 32, [6], .val (num z), true⟩,
   ⟨8, 33, [3, 7], .val (.bool false), true⟩] 0 F HM (by kernel_rfl) (by rfl) (by rfl) ?_ ?_ ?_ ?_ ?_ ?_ ?_
  ·kernel_rfl
  ·exact of_decide_eq_true (by kernel_rfl)
  ·(repeat refine all_cons ⟨_, by rfl, by rfl⟩ ?_); exact Je
  ·kernel_rfl
  ·(repeat (refine all_cons ?_ ?_; rotate_left)); exact Je
   ·exact Jz _ _ _ _ _ _ _ (by rfl) (by rfl) (Jc) (fun ρ w kn hs => Jg (kn _ _ (F.old (by rfl) rfl)))
   ·exact Jz _ _ _ _ _ _ _ (by rfl) (by rfl) (Jc) (fun ρ w kn hs => Jg (kn _ _ (F.old (by rfl) rfl)))
   ·exact Jz _ _ _ _ _ _ _ (by rfl) (by rfl) (Jc) (fun ρ w kn hs => Jbe hlt (kn _ _ (kc 0 25)) (kn _ _ (kc 1 26)))
   ·exact Jz _ _ _ _ _ _ _ (by rfl) (by rfl) (Jc) (fun ρ w kn hs => Xi (kn _ _ (kc 2 27)) (hd _ hs.bel))
   ·exact Jz _ _ _ _ _ _ _ (by rfl) (by rfl) (Jc) (fun ρ w kn hs => Jg (kn _ _ (F.old (by rfl) rfl)))
   ·exact Jz _ _ _ _ _ _ _ (by rfl) (by rfl) (Jc) (fun ρ w kn hs => Jg (kn _ _ (F.old (by rfl) rfl)))
   ·exact Jz _ _ _ _ _ _ _ (by rfl) (by rfl) (Jc) (fun ρ w kn hs => Jbe hlt (kn _ _ (kc 4 29)) (kn _ _ (kc 5 30)))
   ·exact Jz _ _ _ _ _ _ _ (by rfl) (by rfl) (Jc) (fun ρ w kn hs => Xi (kn _ _ (kc 6 31)) (hc _ hs.bel))
   ·exact Jz _ _ _ _ _ _ _ (by rfl) (by rfl) (Jc) (fun ρ w kn hs => o_neqS (kn _ _ (kc 3 28)) (kn _ _ (kc 7 32)))
  ·(repeat (refine all_cons ?_ ?_; rotate_left)); exact Je
   all_goals try exact sA
  intro gs rs a w hgs hrs F HM
  obtain rfl := nl0 rs hrs
  clear hrs
  obtain rfl := nl0 gs hgs
  clear hgs
  refine Kn (by kernel_rfl) ?_ _
  repeat first|refine et1 ?_|refine eb1 ?_|refine ws1 ?_|refine wb1 ?_|refine wk1 ?_
  refine wp_cond_false (F.ev rfl) ?_
  repeat first|refine et1 ?_|refine eb1 ?_|refine ws1 ?_|refine wb1 ?_|refine wk1 ?_
  refine wp_region_lit ?_
  refine lxv (.int .i64 (i : Nat)) F (Jg (F.ev rfl)) fun a F => ?_
  refine lxv (.int .i64 ((i + 1 : Nat) : Int)) F (Jdf (m := i) (k := 1) (by omega) (F.ev rfl) rfl) fun a F => ?_
  refine lxv (.int .i64 ((i + 1 : Nat) : Int)) F (Jk (F.ev rfl)) fun a F => ?_
  refine Jj ?_
  refine Kv ?_
  refine ⟨⟨i + 1, by omega, F.sub [5, 0, 1], HM⟩, ?_⟩
  show xs.length - (intOf (a.tmps.getD 5 undef)).toNat < xs.length - (intOf (aS.tmps.getD 5 undef)).toNat
  rw [F.get 5 _ rfl, FS.get 5 _ rfl]
  show xs.length - ((i + 1 : Nat) : Int).toNat < xs.length - ((i : Nat) : Int).toNat
  omega
 ·repeat first|refine et1 ?_|refine eb1 ?_|refine ws1 ?_|refine wb1 ?_|refine wk1 ?_
  refine wp_region_lit ?_
  refine lxv (.int .i64 (i : Nat)) F (Jg (F.ev rfl)) fun a F => ?_
  refine lxv (.slice pl xs.length cl) F (Jg (F.ev rfl)) fun a F => ?_
  refine lxv (.int .i64 (xs.length : Nat)) F (Vs (F.ev rfl)) fun a F => ?_
  refine lxv (.bool false) F (Kh (u := .int .i64 (i : Nat)) (v := .int .i64 (xs.length : Nat)) (fun ρ hx hy => by simp only [execOp, hx, hy]; simp [go_sem]; omega) (F.ev rfl) (F.ev rfl)) fun a F => ?_
  refine Jj ?_
  repeat first|refine et1 ?_|refine eb1 ?_|refine ws1 ?_|refine wb1 ?_|refine wk1 ?_
  refine wp_cond_false (F.ev rfl) ?_
  repeat first|refine et1 ?_|refine eb1 ?_|refine ws1 ?_|refine wb1 ?_|refine wk1 ?_
  refine wp_exit ?_
  repeat (first | refine Wz ?_ | refine Wf ?_)
  clear FS hlt hi
  obtain ⟨g2, o2, hp2, hd⟩ := sT.c4 (i := xs.length) (x := 77) (by simp) (by simp)
  obtain ⟨rfl, rfl⟩ : gt = g2 ∧ ot = o2 := by cases hp2; exact ⟨rfl, rfl⟩
  clear hp2
  repeat first|refine et1 ?_|refine eb1 ?_|refine ws1 ?_|refine wb1 ?_|refine wk1 ?_
  refine wp_region_lit ?_
  refine lxv (.slice (some ⟨gt, ot, none⟩) xs.length ct) F (Jg (F.ev rfl)) fun a F => ?_
  refine lxv (.slice pl xs.length cl) F (Jg (F.ev rfl)) fun a F => ?_
  refine lxv (.int .i64 (xs.length : Nat)) F (Vs (F.ev rfl)) fun a F => ?_
  refine lxv (.int .i64 ((xs.length + 1 : Nat) : Int)) F (Jdf (m := xs.length) (k := 1) (by omega) (F.ev rfl) rfl) fun a F => ?_
  refine lxv (.slice (some ⟨gt, ot, none⟩) (xs.length + 1) ct) F (o_cut (k := xs.length + 1) (by omega) (by omega) (F.ev rfl) (F.ev rfl)) fun a F => ?_
  refine lxv (.slice pl xs.length cl) F (Jg (F.ev rfl)) fun a F => ?_
  refine lxv (.int .i64 (xs.length : Nat)) F (Vs (F.ev rfl)) fun a F => ?_
  refine lxv (.pointer (some ⟨gt, ot + xs.length * 4, none⟩)) F (Jbe (i := xs.length) (l := xs.length + 1) (by omega) (F.ev rfl) (F.ev rfl)) fun a F => ?_
  refine lxv (num 77) F (Xi (F.ev rfl) (hd _ HM.bel)) fun a F => ?_
  refine Jw F HM (Ja rfl _) rfl (by rfl) (Jy) fun a w gx F HM => ?_
  refine Kd F HM (Ja rfl _) rfl (k := 0) rfl (Ju (F.ev rfl) (F.ev rfl) (HM.get 0 rfl)) (M2 := [(gx, 24, ncs 77)]) rfl fun w HM => ?_
  refine Jj ?_
  repeat first|refine et1 ?_|refine eb1 ?_|refine ws1 ?_|refine wb1 ?_|refine wk1 ?_
  refine wp_region_lit ?_
  refine lxv (num 77) F (Jn (F.ev rfl) (HM.get 0 rfl)) fun a F => ?_
  refine lxv (num 77) F (o_b77 rfl) fun a F => ?_
  refine lxv (.bool true) F (o_eqlS (F.ev rfl) (F.ev rfl)) fun a F => ?_
  refine lxv (.bool true) F (Jk (F.ev rfl)) fun a F => ?_
  refine Jj ?_
  repeat first|refine et1 ?_|refine eb1 ?_|refine ws1 ?_|refine wb1 ?_|refine wk1 ?_
  refine wp_ret ?_
  repeat (first | refine Jt ?_ | refine Jp ?_)
  exact Ki F HM (Kf F rfl (s := 4) rfl)
theorem leftN_any (xs : List Nat) (v : Value) (pl : Option Addr) (cl : Nat) (w0 : World) (hn : xs.length ≤ 100) (sT : TwN w0.heap.size w0 v xs) (sL : NSl w0.heap.size w0 pl cl xs) : Calls Tryz.prog 10 #[v, .slice pl xs.length cl] w0 fun e w' => e = .returned (.bool true) ∧ Below w0.heap.size w0 w' := by
 obtain ⟨g, o, cap, rfl, h⟩ := sT
 exact leftN_w xs g o cap pl cl w0 hn h sL
end Go.Proofs.YtodlpmepoakdlaaGreat
