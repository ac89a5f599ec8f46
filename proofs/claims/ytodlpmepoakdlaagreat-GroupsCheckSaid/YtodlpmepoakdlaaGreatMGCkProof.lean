import Derived.Test.YtodlpmepoakdlaaGreatMAdd
import Derived.Test.YtodlpmepoakdlaaGreatMGCk
import Derived.Test.YtodlpmepoakdlaaGreatMGCk0
import Derived.Test.YtodlpmepoakdlaaGreatMRng
import Derived.Test.YtodlpmepoakdlaaGreatMSmall
namespace Go.Proofs.YtodlpmepoakdlaaGreat
set_option maxRecDepth 100000
set_option linter.unusedSimpArgs false
set_option linter.unusedVariables false
open Go.RowKit Go.WideShapes Go.ChangeShapes Go.ChangeAt

theorem Tryz.cellsR2 : Tryz.prog.cellsOf 30 = 18 := by kernel_rfl
theorem Tryz.cellsN2 : Tryz.prog.cellsOf 32 = 2 := by kernel_rfl
theorem Tryz.cellsSN : Tryz.prog.cellsOf 31 = 1 := by kernel_rfl
section
variable {H : Type} {enc : TypeId × Value → H} {w : World} {held : Bool}
theorem open_rs2 {base : Nat} {v : Value} {d : DataW H} {p : List MemPlace} (hv : Value.okWide Tryz.prog w .any base 30 v) (h : DataW.Trod enc Tryz.prog w 0 (fun _ => true) held 30 v d p) :
  ∃ (r1 r2 : Pr.Rsn) (pr ps : Option Addr) (cr cs : Nat), v = r2v r1.n r1.w (.slice pr r1.ps.length cr) r2.n r2.w (.slice ps r2.ps.length cs) ∧ r1.n < 2 ^ 256 ∧ r2.n < 2 ^ 256 ∧ r1.w < 2 ^ 256 ∧ r2.w < 2 ^ 256 ∧ Sl w pr cr r1.ps ∧ Sl w ps cs r2.ps := by
 obtain ⟨cs, rfl, hsz⟩ := okWide_arr Tryz.underlying30 hv
 obtain ⟨fuel, hf⟩ := h
 obtain ⟨xs, m, rfl, hx, hl, hn, he⟩ := DataW.trod_array Tryz.underlying30 hf
 rw [Tryz.cellsR2] at hsz
 rw [Tryz.cells28] at he
 match xs, hn with
 | [x0, x1], _ =>
  have e0 := he 0 (by omega)
  have e1 := he 1 (by omega)
  obtain ⟨cs⟩ := cs
  match cs, hsz with
  | [c0, c1, c2, c3, c4, c5, c6, c7, c8, c9, c10, c11, c12, c13, c14, c15, c16, c17], _ =>
   simp [Value.cells] at e0 e1
   obtain ⟨n, y, a, cap, ps, hc, hn, hy, hs⟩ := open_rsn _ e0
   obtain ⟨n2, y2, a2, cap2, ps2, hc2, hn2, hy2, hs2⟩ := open_rsn _ e1
   simp only [List.cons.injEq, and_true] at hc hc2
   obtain ⟨rfl, rfl, rfl, rfl, rfl, rfl, rfl, rfl, rfl⟩ := hc
   obtain ⟨rfl, rfl, rfl, rfl, rfl, rfl, rfl, rfl, rfl⟩ := hc2
   exact ⟨.mk n y ps, .mk n2 y2 ps2, a, a2, cap, cap2, rfl, hn, hn2, hy, hy2, hs, hs2⟩
theorem choose_n {n : Nat} {R : Nat → Nat → Prop} (h : ∀ i, i < n → ∃ p, R i p) : ∃ l : List Nat, l.length = n ∧ ∀ i (hi : i < l.length), R i (l[i]) := by
 induction n with
 | zero => exact ⟨[], rfl, fun i hi => absurd hi (Nat.not_lt_zero _)⟩
 | succ n ih =>
  obtain ⟨l, hl, hR⟩ := ih fun i hi => h i (by omega)
  obtain ⟨p, hp⟩ := h n (by omega)
  refine ⟨l ++ [p], by simp [hl], fun i hi => ?_⟩
  by_cases e : i < l.length
  ·rw [List.getElem_append_left e]; exact hR i e
  ·have : i = n := by simp at hi; omega
   subst this
   rw [List.getElem_append_right (by omega)]
   simp [hl]; exact hp
theorem open_nums {fuel : Nat} {v : Value} {x : DataW H × List MemPlace} (hf : DataW.trod enc Tryz.prog w 0 (fun _ => true) held fuel 31 [v] = some x) :
  ∃ (zs : List Nat) (a : Option Addr) (cap : Nat), v = .slice a zs.length cap ∧ NSl w.heap.size w a cap zs := by
 rcases DataW.trod_slice Tryz.underlying31 hf with ⟨hc', _⟩ | ⟨a, len, cap, elems, rest, k, hk, hc', _, _, hlc, hcm, hel, hget, _⟩
 ·obtain rfl : v = .slice none 0 0 := by simpa using hc'
  exact ⟨[], none, 0, rfl, Nat.le_refl _, by decide, (fun x hx => by cases hx), Or.inl rfl⟩
 ·obtain rfl : v = .slice (some a) len cap := by simpa using hc'
  rw [Tryz.cells24] at hget
  have sp0 : 0 < len → a.spot = none := by
   intro hi
   have hg := hget 0 hi
   rw [List.getElem?_eq_getElem (by omega)] at hg
   obtain ⟨ci, hci, ht⟩ := Option.bind_eq_some_iff.1 hg
   obtain ⟨_, hcl, hcell⟩ := World.cells?_some hci
   have h0 := hcell 0 (by omega)
   rw [List.getElem?_eq_getElem (by omega)] at h0
   simpa [Addr.add] using World.cell?_spot h0
  have each : ∀ i, i < len → ∃ X : Nat, X < 2 ^ 256 ∧ a.spot = none ∧ a.block < w.heap.size ∧ ∀ k, k < 4 → w.cell? ⟨a.block, a.off + i * 4 + k, none⟩ = some (.int .u64 (wd X k)) := by
   intro i hi
   have hg := hget i hi
   rw [List.getElem?_eq_getElem (by omega)] at hg
   obtain ⟨ci, hci, ht⟩ := Option.bind_eq_some_iff.1 hg
   obtain ⟨_, hcl, hcell⟩ := World.cells?_some hci
   match ci, hcl with
   | [c0, c1, c2, c3], _ =>
    obtain ⟨X, hX, rfl, rfl, rfl, rfl⟩ := Vy ht
    have sp : a.spot = none := sp0 (by omega)
    have cell : ∀ j (hj : j < 4), w.cell? ⟨a.block, a.off + i * 4 + j, none⟩ = [Value.int .u64 (wd X 0), .int .u64 (wd X 1), .int .u64 (wd X 2), .int .u64 (wd X 3)][j]? := by
     intro j hj
     have := hcell j hj
     obtain ⟨b, off, spot⟩ := a
     simp only at sp
     subst sp
     rw [Addr.add_lit, Addr.add_lit] at this
     rw [← this]
    refine ⟨X, hX, sp, World.block_lt_of_cell? w ⟨a.block, a.off + i * 4 + 0, none⟩ (cell 0 (by omega)), fun k hk => ?_⟩
    rw [cell k (by omega)]
    match k, hk with
    | 0, _ => rfl
    | 1, _ => rfl
    | 2, _ => rfl
    | 3, _ => rfl
  obtain ⟨zs, hl, hR⟩ := choose_n each
  refine ⟨zs, some a, cap, by rw [hl], by rw [hl]; exact hlc, by unfold maxLen at hcm; omega, fun x hx => ?_, ?_⟩
  ·obtain ⟨i, hi, rfl⟩ := List.getElem_of_mem hx
   exact (hR i hi).1
  rcases Nat.eq_zero_or_pos zs.length with h0 | h0
  ·exact Or.inl (List.length_eq_zero_iff.1 h0)
  ·right
   obtain ⟨_, sp, hb, _⟩ := hR 0 h0
   obtain ⟨b, off, spot⟩ := a
   simp only at sp hb
   subst sp
   exact ⟨b, off, rfl, hb, fun i hi => (hR i hi).2.2.2⟩
theorem open_ns2 {base : Nat} {v : Value} {d : DataW H} {p : List MemPlace} (hv : Value.okWide Tryz.prog w .any base 32 v) (h : DataW.Trod enc Tryz.prog w 0 (fun _ => true) held 32 v d p) :
  ∃ (xs ys : List Nat) (pa pb : Option Addr) (ca cb : Nat), v = n2v (.slice pa xs.length ca) (.slice pb ys.length cb) ∧ NSl w.heap.size w pa ca xs ∧ NSl w.heap.size w pb cb ys := by
 obtain ⟨cs, rfl, hsz⟩ := okWide_arr Tryz.underlying32 hv
 obtain ⟨fuel, hf⟩ := h
 obtain ⟨xs, m, rfl, hx, hl, hn, he⟩ := DataW.trod_array Tryz.underlying32 hf
 rw [Tryz.cellsN2] at hsz
 rw [Tryz.cellsSN] at he
 match xs, hn with
 | [x0, x1], _ =>
  have e0 := he 0 (by omega)
  have e1 := he 1 (by omega)
  obtain ⟨cs⟩ := cs
  match cs, hsz with
  | [c0, c1], _ =>
   simp [Value.cells] at e0 e1
   obtain ⟨xs, a, ca, rfl, h1⟩ := open_nums e0
   obtain ⟨ys, b, cb, rfl, h2⟩ := open_nums e1
   exact ⟨xs, ys, a, b, ca, cb, rfl, h1, h2⟩
end
open Go.ChangeShapes Go.WideShapes Go.ChangeAt Go.RowKit
theorem groupsCheck_lifted (os : Os) (started : os.Started) (H : Type) (enc : TypeId × Value → H) :
  ReturnsInHanded {} Tryz.checked os 3 .any (Rows.groupsCheckSpec.pre6 enc Tryz.prog Tryz.f3 Rows.groupsCheckRow.domain false) (Rows.groupsCheckSpec.post enc Tryz.prog Tryz.f3 false true false false) := by
 refine returnsInHanded_of_change (C := Tryz.checked) own started (by kernel_rfl) Tryz.func3
  (ChangeSpec.witness6 (enc := enc) (C := Tryz.checked) false ⟨#[], #[.agg #[.int .u64 0, .int .u64 0, .int .u64 0, .int .u64 0, .int .u64 0, .int .u64 0, .int .u64 0, .int .u64 0, .int .u64 0, .int .u64 0, .int .u64 0, .int .u64 0, .int .u64 0, .int .u64 0, .int .u64 0, .int .u64 0], .agg #[.int .u64 0, .int .u64 0, .int .u64 0, .int .u64 0, .int .u64 0, .int .u64 0, .int .u64 0, .int .u64 0, .slice none 0 0, .int .u64 0, .int .u64 0, .int .u64 0, .int .u64 0, .int .u64 0, .int .u64 0, .int .u64 0, .int .u64 0, .slice none 0 0], .agg #[.slice none 0 0, .slice none 0 0]], []⟩ 8 (by kernel_rfl) (by kernel_rfl) (by kernel_rfl) (by kernel_rfl)) ?_
 intro W base args ds gs before hval0 hW hcnd _
 have hval : ∀ (j : Nat) t v, Tryz.f3.params[j]? = some t → args[j]? = some v → Value.okWide Tryz.prog W .any base t v := hval0
 have hW' := hW
 obtain ⟨p, q, hA0, hV, rfl, hfz, hnd⟩ := hW
 have hA : DataW.TrodAll enc Tryz.prog W 0 (fun _ => true) true Tryz.f3.params.toList args.toList ds p := hA0
 rw [Tryz.params3] at hA hval
 obtain ⟨v0, v1, v2, d0, d1, d2, p0, p1, p2, rfl, rfl, rfl, h0, h1, h2⟩ := trodAll_three hA
 obtain ⟨rfl, rfl⟩ := trodVars_none hV
 have t0 := h0
 have lt0 : ∀ x ∈ p0, x.block < W.heap.size := by obtain ⟨m, hm⟩ := t0; exact DataW.trod_lt m _ _ _ hm
 obtain ⟨P0, Q0, G0, H0, rfl, hP0, hQ0, hG0, hH0⟩ := open_group (hval 0 26 v0 rfl rfl) h0
 have t1 := h1
 have lt1 : ∀ x ∈ p1, x.block < W.heap.size := by obtain ⟨m, hm⟩ := t1; exact DataW.trod_lt m _ _ _ hm
 obtain ⟨r1, r2, pr, ps, cr, cs, rfl, q1, q2, q3, q4, q5, q6⟩ := open_rs2 (hval 1 30 v1 rfl rfl) h1
 have t2 := h2
 have lt2 : ∀ x ∈ p2, x.block < W.heap.size := by obtain ⟨m, hm⟩ := t2; exact DataW.trod_lt m _ _ _ hm
 obtain ⟨xs, ys, pa, pb, ca, cb, rfl, sA, sB⟩ := open_ns2 (hval 2 32 v2 rfl rfl) h2
 clear hA0 hval0
 refine (gck_walk P0 Q0 G0 H0 r1 r2 pr ps pa pb cr cs ca cb xs ys W hP0 hQ0 hG0 hH0 q1 q2 q3 q4 q5 q6 sA sB).mono fun e W' ⟨he, bel⟩ => ?_
 subst he
 exact ⟨_, rfl, _, _, _, [], _, [], hW', trodAll_mk1 (shut_bool Tryz.underlying4 _), (trodAll_cons_mk (Below.trod Jdr (by kernel_rfl) (of_decide_eq_true (by kernel_rfl)) t0 bel lt0) (trodAll_cons_mk (Below.trod Jdr (by kernel_rfl) (of_decide_eq_true (by kernel_rfl)) t1 bel lt1) (trodAll_cons_mk (Below.trod Jdr (by kernel_rfl) (of_decide_eq_true (by kernel_rfl)) t2 bel lt2) trodAll_mk0))), rfl, bel.frame _, fun h => by cases h⟩

theorem groupsCheck_holds : Rows.GroupsCheckSaid :=
 OpenClaim.holds_of_wide 3 Tryz.f3 rfl rfl rfl rfl rfl rfl rfl ⟨rfl, rfl, rfl, rfl, rfl⟩ rfl rfl rfl rfl rfl (by kernel_rfl) Tryz.func3 (by kernel_rfl)
  (of_decide_eq_true (by kernel_rfl)) (by unfold Func.isWrapper; first | (rw [if_pos (by decide +kernel)]; kernel_rfl) | (rw [if_neg (by decide +kernel)]; exact ⟨rfl, rfl⟩))
  (fun os started H enc _ => groupsCheck_lifted os started H enc)
#print axioms groupsCheck_holds
end Go.Proofs.YtodlpmepoakdlaaGreat
