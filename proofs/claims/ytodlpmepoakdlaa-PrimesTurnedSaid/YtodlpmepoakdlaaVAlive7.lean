/-
  primes.Check: whether a reason holds.
-/
import Derived.Deep.Cut
import Derived.Test.YtodlpmepoakdlaaVClosure
import Derived.Test.YtodlpmepoakdlaaVSmall
namespace Go.Proofs.Ytodlpmepoakdlaa
set_option maxRecDepth 100000
open Go.RowKit
set_option linter.unusedSimpArgs false
set_option linter.unusedVariables false
attribute [local go_sem ↓] Go.wp_at_zero Go.wp_at_succ

set_option maxRecDepth 100000 in
set_option maxHeartbeats 8000000 in
theorem check_any (r : Pr.Rsn) (a : Option Addr) (cap : Nat) (hN : r.n < 2 ^ 256) (hY : r.w < 2 ^ 256) (w : World) (hs : Sl w a cap r.ps) :
    Calls Try.prog 11 #[rv r.n r.w (.slice a r.ps.length cap)] w fun e w' => e = .returned (.bool r.holds) ∧ Below w.heap.size w w' := by
  obtain ⟨N, hNe⟩ : ∃ N, N = r.n := ⟨_, rfl⟩
  obtain ⟨Y, hYe⟩ : ∃ Y, Y = r.w := ⟨_, rfl⟩
  obtain ⟨l, hl⟩ : ∃ l, r.ps.length = l := ⟨_, rfl⟩
  obtain ⟨V, hV⟩ : ∃ V, V = r.holds := ⟨_, rfl⟩
  have CL := fun (gc gh : Nat) (Ec : w.heap.size ≤ gc) (hch : gc ≠ gh) (u : World) (hb : Below w.heap.size w u) => Ck.closure_any w gc gh Ec hch r.cnt r (Nat.le_refl _) a cap 32 u hN hY hs hb (Nat.le_refl _)
  rw [← hNe, ← hYe, hl] at CL
  rw [← hNe, ← hYe, hl, ← hV]
  have HCL := Lib.hid CL; have HV := Lib.hid hV
  clear CL hN hY hs hNe hYe hl hV
  go_enter Try.func11, Try.ntmps11
  have BW := Lib.hid (Below.refl w.heap.size w)
  go_upto_region 3 with fail
  have Ec : w.heap.size ≤ w.heap.size + 1 := by have := BW.out.size; omega
  have Drc : w.heap.size ≠ w.heap.size + 1 := by omega
  have Eh : w.heap.size ≤ w.heap.size + 1 + 1 := by have := BW.out.size; omega
  have Drh : w.heap.size ≠ w.heap.size + 1 + 1 := by omega
  have Dch : w.heap.size + 1 ≠ w.heap.size + 1 + 1 := by omega
  generalize hW1 : (((w.alloc (.cells #[.int .u64 (wd N 0 : Nat), .int .u64 (wd N 1 : Nat), .int .u64 (wd N 2 : Nat), .int .u64 (wd N 3 : Nat), .int .u64 (wd Y 0 : Nat), .int .u64 (wd Y 1 : Nat), .int .u64 (wd Y 2 : Nat), .int .u64 (wd Y 3 : Nat), .slice a l cap] 27)).alloc (.cells #[.int .i64 32] 3)).alloc (.cells #[.nilFunc] 30)) = W1 at *
  have Nr : At W1 (w.heap.size) _ _ := at_of hW1 (((At.at_ _ _ _ _ (by simp)).alloc _).alloc _)
  have Nc : At W1 (w.heap.size + 1) _ _ := at_of hW1 ((At.at_ _ _ _ _ (by simp)).alloc _)
  have Nh : At W1 (w.heap.size + 1 + 1) _ _ := at_of hW1 (At.at_ _ _ _ _ (by simp))
  have NB := gr_of hW1 (gr_alloc (gr_alloc (gr_alloc BW.out _) _) _)
  clear hW1 BW 
  generalize w.heap.size + 1 + 1 = gh at *
  generalize w.heap.size + 1 = gc at *
  obtain ⟨gr, hg0⟩ : ∃ g, g = w.heap.size := ⟨_, rfl⟩
  rw [← hg0] at Nr ⊢
  rw [← hg0] at Drc Drh
  have Er : w.heap.size ≤ gr := by omega
  clear hg0
  have Fr := Lib.hid Nr
  have Fc := Lib.hid Nc
  have Fh := Lib.hid Nh
  have BW := Lib.hid NB
  clear NB Nr Nc Nh
  have Lh := Fh.out.lt
  have ch0 : W1.cell? ⟨gh, 0, none⟩ = some (.nilFunc) := Fh.out.cell 0
  have fh0 : W1.frozen? ⟨gh, 0, none⟩ = false := Fh.out.frozen 0
  go_upto_region 4 with fail
  clear Lh ch0 fh0
  generalize hW2 : (W1.setCell ⟨gh, 0, none⟩ (.func (.func 29) #[] #[.pointer (some ⟨gc, 0, none⟩), .pointer (some ⟨gh, 0, none⟩)])) = W2 at *
  have Nr := at_of hW2 ((Fr.out).far1 Drh _)
  have Nc := at_of hW2 ((Fc.out).far1 Dch _)
  have Nh := at_of hW2 ((Fh.out).put1 _)
  have NB := gr_of hW2 ((BW.out).setCell Eh _)
  clear hW2 BW Fr Fc Fh
  have Fr := Lib.hid Nr
  have Fc := Lib.hid Nc
  have Fh := Lib.hid Nh
  have BW := Lib.hid NB
  clear NB Nr Nc Nh
  have Lh := Fh.out.lt
  have ch0 : W2.cell? ⟨gh, 0, none⟩ = some (.func (.func 29) #[] #[.pointer (some ⟨gc, 0, none⟩), .pointer (some ⟨gh, 0, none⟩)]) := Fh.out.cell 0
  have Lr := Fr.out.lt
  have cr0 : W2.cell? ⟨gr, 0, none⟩ = some (.int .u64 (wd N 0 : Nat)) := Fr.out.cell 0
  have cr1 : W2.cell? ⟨gr, 1, none⟩ = some (.int .u64 (wd N 1 : Nat)) := Fr.out.cell 1
  have cr2 : W2.cell? ⟨gr, 2, none⟩ = some (.int .u64 (wd N 2 : Nat)) := Fr.out.cell 2
  have cr3 : W2.cell? ⟨gr, 3, none⟩ = some (.int .u64 (wd N 3 : Nat)) := Fr.out.cell 3
  have cr4 : W2.cell? ⟨gr, 4, none⟩ = some (.int .u64 (wd Y 0 : Nat)) := Fr.out.cell 4
  have cr5 : W2.cell? ⟨gr, 5, none⟩ = some (.int .u64 (wd Y 1 : Nat)) := Fr.out.cell 5
  have cr6 : W2.cell? ⟨gr, 6, none⟩ = some (.int .u64 (wd Y 2 : Nat)) := Fr.out.cell 6
  have cr7 : W2.cell? ⟨gr, 7, none⟩ = some (.int .u64 (wd Y 3 : Nat)) := Fr.out.cell 7
  have cr8 : W2.cell? ⟨gr, 8, none⟩ = some (.slice a l cap) := Fr.out.cell 8
  go_wp2_with fail
  clear Lh ch0 Lr cr0 cr1 cr2 cr3 cr4 cr5 cr6 cr7 cr8
  refine (HCL.out gc gh Ec Dch _ BW.out Fc.out Fh.out).mono ?_
  rintro e v9 ⟨L, rfl, _, _, _, hk⟩
  have NB := Below.kept BW.out (Nat.le_refl _) hk Ec
  have hv : (decide (r.cnt ≤ 32) && r.ok) = V := by rw [HV.out]; rfl
  rw [hv]
  have BW2 := Lib.hid NB
  clear NB hk hv BW Fc Fh Fr
  go_wp2
  go_ret
  exact ⟨rfl, BW2.out⟩
end Go.Proofs.Ytodlpmepoakdlaa

/-
  alive of layer 7, and its of.
-/
namespace Go.Proofs.Ytodlpmepoakdlaa
set_option maxRecDepth 100000
open Go.RowKit
set_option linter.unusedSimpArgs false
set_option linter.unusedVariables false
attribute [local go_sem ↓] Go.wp_at_zero Go.wp_at_succ

/-- a check by halves: no number from lo on, 2 ^ k of them, divides n, but those below 2 -/
def nodiv (n : Nat) : Nat → Nat → Bool
  | 0, lo => decide (lo < 2) || n % lo != 0
  | k + 1, lo => nodiv n k lo && nodiv n k (lo + 2 ^ k)
theorem nodiv_spec (n : Nat) : ∀ (k lo : Nat), nodiv n k lo = true → ∀ d, lo ≤ d → d < lo + 2 ^ k → 2 ≤ d → n % d ≠ 0
  | 0, lo, h, d, h1, h2, h3 => by
      have : d = lo := by simp at h2; omega
      subst this
      simp only [nodiv, Bool.or_eq_true, decide_eq_true_eq, bne_iff_ne] at h
      rcases h with h | h
      · omega
      · exact h
  | k + 1, lo, h, d, h1, h2, h3 => by
      simp only [nodiv, Bool.and_eq_true] at h
      rw [Nat.pow_succ] at h2
      rcases Nat.lt_or_ge d (lo + 2 ^ k) with h4 | h4
      · exact nodiv_spec n k lo h.1 d h1 h4 h3
      · exact nodiv_spec n k (lo + 2 ^ k) h.2 d h4 (by omega) h3
theorem pri_by {n : Nat} (k : Nat) (h2 : 2 ≤ n) (hk : n < 2 ^ k * 2 ^ k) (h : nodiv n k 0 = true) : Pr.Pri n :=
  Pr.pri_of_small h2 fun d hd hdd => nodiv_spec n k 0 h d (Nat.zero_le _) (by
    apply Decidable.byContradiction; intro hc
    have : 2 ^ k * 2 ^ k ≤ d * d := Nat.mul_le_mul (by omega) (by omega)
    omega) hd
theorem pri_great : Pr.Pri 4294967291 := pri_by 16 (by decide) (by decide) (by decide +kernel)
theorem pri_2 : Pr.Pri 2 := pri_by 1 (by decide) (by decide) (by decide +kernel)
theorem pri_7 : Pr.Pri 7 := pri_by 2 (by decide) (by decide) (by decide +kernel)
theorem pri_9 : ¬ Pr.Pri 9 := Pr.not_pri_of (d := 3) (by decide) (by decide) (by decide)

theorem ofP_any (x : Nat) (hx : x < 18446744073709551616) (w : World) : Calls Try.prog 13 #[.int .u64 (x : Nat)] w fun e w' => e = .returned (num x) ∧ Below w.heap.size w w' := by
  have HO := Lib.hid (fun w => of_any x hx w)
  clear hx
  go_enter Try.func13, Try.ntmps13
  go_wp2_with fail
  have BW := Lib.hid (Below.refl w.heap.size w)
  generalize hW1 : (w.alloc (.cells #[.int .u64 0, .int .u64 0, .int .u64 0, .int .u64 0] 24)) = W1 at *
  have Nz : At W1 (w.heap.size) _ _ := at_of hW1 (At.at_ _ _ _ _ (by simp))
  have NB := gr_of hW1 (gr_alloc BW.out _)
  clear hW1 BW 
  obtain ⟨gz, hg0⟩ : ∃ g, g = w.heap.size := ⟨_, rfl⟩
  rw [← hg0] at Nz ⊢
  have Ez : w.heap.size ≤ gz := by omega
  clear hg0
  have Fz := Lib.hid Nz
  have BW := Lib.hid NB
  clear NB Nz
  refine (HO.out _).mono ?_
  rintro e v2 ⟨rfl, z2⟩
  have Nz := Lib.hid (Fz.out.on z2)
  have NB := Lib.hid (bel_tr BW.out z2)
  clear BW z2 Fz
  have Fz := Nz
  have BW := NB
  clear NB Nz
  have Lz := Fz.out.lt
  have cz0 := Fz.out.c0
  have cz1 := Fz.out.c1
  have cz2 := Fz.out.c2
  have cz3 := Fz.out.c3
  have fz0 : v2.frozen? ⟨gz, 0, none⟩ = false := Fz.out.frozen 0
  have fz1 : v2.frozen? ⟨gz, 1, none⟩ = false := Fz.out.frozen 1
  have fz2 : v2.frozen? ⟨gz, 2, none⟩ = false := Fz.out.frozen 2
  have fz3 : v2.frozen? ⟨gz, 3, none⟩ = false := Fz.out.frozen 3
  go_wp2_with fail
  clear Lz cz0 cz1 cz2 cz3 fz0 fz1 fz2 fz3
  generalize hW3 : ((((v2.setCell ⟨gz, 0, none⟩ (.int .u64 (wd x 0 : Nat))).setCell ⟨gz, 1, none⟩ (.int .u64 (wd x 1 : Nat))).setCell ⟨gz, 2, none⟩ (.int .u64 (wd x 2 : Nat))).setCell ⟨gz, 3, none⟩ (.int .u64 (wd x 3 : Nat))) = W3 at *
  have Nz := at_of hW3 ((Fz.out).put4 _ _ _ _)
  have NB := gr_of hW3 (((((BW.out).setCell Ez _).setCell Ez _).setCell Ez _).setCell Ez _)
  clear hW3 BW Fz
  have Fz := Lib.hid Nz
  have BW := Lib.hid NB
  clear NB Nz
  have Lz := Fz.out.lt
  have cz0 := Fz.out.c0
  have cz1 := Fz.out.c1
  have cz2 := Fz.out.c2
  have cz3 := Fz.out.c3
  refine bodyPost_ret (v := num x) (by simp [results, Try.results13, go_sem, *]) rfl ⟨rfl, BW.out⟩

theorem small_t {n : Nat} (h : n < 4294967296) (hp : Pr.Pri n) (w : World) : Calls Try.prog 27 #[.int .u64 (n : Nat)] w fun e w' => e = .returned (.bool true) ∧ Below w.heap.size w w' := by
  have := small_any n (by omega) w
  rwa [smallB_of h, Pr.priB_iff.mpr hp] at this
theorem small_f {n : Nat} (h : n < 18446744073709551616) (hp : ¬ (n < 4294967296 ∧ Pr.Pri n)) (w : World) : Calls Try.prog 27 #[.int .u64 (n : Nat)] w fun e w' => e = .returned (.bool false) ∧ Below w.heap.size w w' := by
  have := small_any n h w
  rwa [Bool.eq_false_iff.mpr (fun h => hp (smallB_pri.mp h))] at this
theorem chk7 (w : World) : Calls Try.prog 11 #[.agg #[.int .u64 (wd 7 0 : Nat), .int .u64 (wd 7 1 : Nat), .int .u64 (wd 7 2 : Nat), .int .u64 (wd 7 3 : Nat), .int .u64 0, .int .u64 0, .int .u64 0, .int .u64 0, .slice none 0 0]] w fun e w' => e = .returned (.bool true) ∧ Below w.heap.size w w' := by
  have h := check_any (.mk 7 0 []) none 0 (by decide) (by decide) w ⟨Nat.le_refl _, Nat.zero_le _, fun _ => rfl, Or.inl rfl⟩
  have e : (Pr.Rsn.mk 7 0 []).holds = true := by simp [Pr.Rsn.holds, Pr.Rsn.cnt, Pr.cnts, Pr.Rsn.ok, Pr.priB_iff.mpr pri_7]
  rw [e] at h
  exact h
theorem chk9 (w : World) : Calls Try.prog 11 #[.agg #[.int .u64 (wd 9 0 : Nat), .int .u64 (wd 9 1 : Nat), .int .u64 (wd 9 2 : Nat), .int .u64 (wd 9 3 : Nat), .int .u64 0, .int .u64 0, .int .u64 0, .int .u64 0, .slice none 0 0]] w fun e w' => e = .returned (.bool false) ∧ Below w.heap.size w w' := by
  have h := check_any (.mk 9 0 []) none 0 (by decide) (by decide) w ⟨Nat.le_refl _, Nat.zero_le _, fun _ => rfl, Or.inl rfl⟩
  have e : (Pr.Rsn.mk 9 0 []).holds = false := by simp [Pr.Rsn.holds, Pr.Rsn.cnt, Pr.cnts, Pr.Rsn.ok, Pr.priB_not.mpr pri_9]
  rw [e] at h
  exact h
theorem chk73 (w : World) : Calls Try.prog 11 #[.agg #[.int .u64 (wd 7 0 : Nat), .int .u64 (wd 7 1 : Nat), .int .u64 (wd 7 2 : Nat), .int .u64 (wd 7 3 : Nat), .int .u64 (wd 3 0 : Nat), .int .u64 (wd 3 1 : Nat), .int .u64 (wd 3 2 : Nat), .int .u64 (wd 3 3 : Nat), .slice none 0 0]] w fun e w' => e = .returned (.bool false) ∧ Below w.heap.size w w' := by
  have h := check_any (.mk 7 3 []) none 0 (by decide) (by decide) w ⟨Nat.le_refl _, Nat.zero_le _, fun _ => rfl, Or.inl rfl⟩
  have e : (Pr.Rsn.mk 7 3 []).holds = false := by simp [Pr.Rsn.holds, Pr.Rsn.cnt, Pr.cnts, Pr.Rsn.ok, Pr.priB_iff.mpr pri_7]
  rw [e] at h
  exact h
set_option maxRecDepth 100000 in
set_option maxHeartbeats 8000000 in
theorem alive7_any (w : World) : Calls Try.prog 9 #[] w fun e w' => e = .returned (.bool true) ∧ Below w.heap.size w w' := by
  have H1 := Lib.hid (fun w => small_t (n := 2) (by decide) pri_2 w)
  have H2 := Lib.hid (fun w => small_f (n := 1) (by decide) (fun h => by have := h.2.1; omega) w)
  have H3 := Lib.hid (fun w => small_t (n := 4294967291) (by decide) pri_great w)
  have H4 := Lib.hid (fun w => small_f (n := 4294967296) (by decide) (fun h => absurd h.1 (by decide)) w)
  have H5 := Lib.hid (fun w => ofP_any 7 (by decide) w)
  have H6 := Lib.hid (fun w => ofP_any 9 (by decide) w)
  have H7 := Lib.hid (fun w => ofP_any 3 (by decide) w)
  go_enter Try.func9, Try.ntmps9
  have BW := Lib.hid (Below.refl w.heap.size w)
  go_wp2_with fail
  refine (H1.out _).mono ?_
  rintro e v1 ⟨rfl, z1⟩
  have NB := Lib.hid (bel_tr BW.out z1)
  clear BW z1 
  have BW := NB
  clear NB 
  go_wp2_with fail
  refine (H2.out _).mono ?_
  rintro e v2 ⟨rfl, z2⟩
  have NB := Lib.hid (bel_tr BW.out z2)
  clear BW z2 
  have BW := NB
  clear NB 
  go_wp2_with fail
  refine (H3.out _).mono ?_
  rintro e v3 ⟨rfl, z3⟩
  have NB := Lib.hid (bel_tr BW.out z3)
  clear BW z3 
  have BW := NB
  clear NB 
  go_wp2_with fail
  refine (H4.out _).mono ?_
  rintro e v4 ⟨rfl, z4⟩
  have NB := Lib.hid (bel_tr BW.out z4)
  clear BW z4 
  have BW := NB
  clear NB 
  go_wp2_with fail
  refine (H5.out _).mono ?_
  rintro e v5 ⟨rfl, z5⟩
  have NB := Lib.hid (bel_tr BW.out z5)
  clear BW z5 
  have BW := NB
  clear NB 
  go_wp2_with fail
  refine (chk7 _).mono ?_
  rintro e v6 ⟨rfl, z6⟩
  have NB := Lib.hid (bel_tr BW.out z6)
  clear BW z6 
  have BW := NB
  clear NB 
  go_wp2_with fail
  refine (H6.out _).mono ?_
  rintro e v7 ⟨rfl, z7⟩
  have NB := Lib.hid (bel_tr BW.out z7)
  clear BW z7 
  have BW := NB
  clear NB 
  go_wp2_with fail
  refine (chk9 _).mono ?_
  rintro e v8 ⟨rfl, z8⟩
  have NB := Lib.hid (bel_tr BW.out z8)
  clear BW z8 
  have BW := NB
  clear NB 
  go_wp2_with fail
  refine (H5.out _).mono ?_
  rintro e v9 ⟨rfl, z9⟩
  have NB := Lib.hid (bel_tr BW.out z9)
  clear BW z9 
  have BW := NB
  clear NB 
  go_wp2_with fail
  refine (H7.out _).mono ?_
  rintro e v10 ⟨rfl, z10⟩
  have NB := Lib.hid (bel_tr BW.out z10)
  clear BW z10 
  have BW := NB
  clear NB 
  go_wp2_with fail
  refine (chk73 _).mono ?_
  rintro e v11 ⟨rfl, z11⟩
  have NB := Lib.hid (bel_tr BW.out z11)
  clear BW z11 
  have BW := NB
  clear NB 
  go_wp2
  go_ret
  exact ⟨rfl, BW.out⟩
end Go.Proofs.Ytodlpmepoakdlaa
