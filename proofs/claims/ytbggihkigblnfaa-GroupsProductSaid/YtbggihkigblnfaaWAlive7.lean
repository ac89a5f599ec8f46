/-
 primes.Check: whether a reason holds.
-/
import Derived.Deep.Cut
import Derived.Test.YtbggihkigblnfaaWClosure
import Derived.Test.YtbggihkigblnfaaWTree
namespace Go.Proofs.Ytbggihkigblnfaa
set_option maxRecDepth 100000
open Go.RowKit
set_option linter.unusedSimpArgs false
set_option linter.unusedVariables false
attribute [local go_sem ↓] Go.wp_at_zero Go.wp_at_succ

set_option maxRecDepth 100000 in
set_option maxHeartbeats 8000000 in
theorem check_any (r : Pr.Rsn) (a : Option Addr) (cap : Nat) (hN : r.n < 2 ^ 256) (hY : r.w < 2 ^ 256) (w : World) (hs : Sl w a cap r.ps) :
  Calls Try.prog 11 #[rv r.n r.w (.slice a r.ps.length cap)] w fun e w' => e = .returned (.bool r.holds) ∧ Below w.heap.size w w' := by
 obtain ⟨N, hNe⟩ : ∃ N, N = r.n := ⟨_, rfl⟩
 obtain ⟨Y, hYe⟩ : ∃ Y, Y = r.w := ⟨_, rfl⟩
 obtain ⟨l, hl⟩ : ∃ l, r.ps.length = l := ⟨_, rfl⟩
 obtain ⟨V, hV⟩ : ∃ V, V = r.holds := ⟨_, rfl⟩
 have CL := fun (gc gh : Nat) (Ec : w.heap.size ≤ gc) (hch : gc ≠ gh) (u : World) (hb : Below w.heap.size w u) => Ck.closure_any w gc gh Ec hch r.cnt r (Nat.le_refl _) a cap 32 u hN hY hs hb (Nat.le_refl _)
 rw [← hNe, ← hYe, hl] at CL
 rw [← hNe, ← hYe, hl, ← hV]
 have HCL := Lib.hid CL; have HV := Lib.hid hV
 clear CL hN hY hs hNe hYe hl hV
 go_enter Try.func11, Try.ntmps11
 have BW := Lib.hid (Below.refl w.heap.size w)
 go_upto_region 3 with fail
 have Ec : w.heap.size ≤ w.heap.size + 1 := by have := BW.out.size; omega
 have Drc : w.heap.size ≠ w.heap.size + 1 := by omega
 have Eh : w.heap.size ≤ w.heap.size + 1 + 1 := by have := BW.out.size; omega
 have Drh : w.heap.size ≠ w.heap.size + 1 + 1 := by omega
 have Dch : w.heap.size + 1 ≠ w.heap.size + 1 + 1 := by omega
 generalize hW1 : (((w.alloc (.cells #[.int .u64 (wd N 0 : Nat), .int .u64 (wd N 1 : Nat), .int .u64 (wd N 2 : Nat), .int .u64 (wd N 3 : Nat), .int .u64 (wd Y 0 : Nat), .int .u64 (wd Y 1 : Nat), .int .u64 (wd Y 2 : Nat), .int .u64 (wd Y 3 : Nat), .slice a l cap] 27)).alloc (.cells #[.int .i64 32] 3)).alloc (.cells #[.nilFunc] 30)) = W1 at *
 have Nr : At W1 (w.heap.size) _ _ := at_of hW1 (((At.at_ _ _ _ _ (by simp)).alloc _).alloc _)
 have Nc : At W1 (w.heap.size + 1) _ _ := at_of hW1 ((At.at_ _ _ _ _ (by simp)).alloc _)
 have Nh : At W1 (w.heap.size + 1 + 1) _ _ := at_of hW1 (At.at_ _ _ _ _ (by simp))
 have NB := gr_of hW1 (gr_alloc (gr_alloc (gr_alloc BW.out _) _) _)
 clear hW1 BW 
 generalize w.heap.size + 1 + 1 = gh at *
 generalize w.heap.size + 1 = gc at *
 obtain ⟨gr, hg0⟩ : ∃ g, g = w.heap.size := ⟨_, rfl⟩
 rw [← hg0] at Nr ⊢
 rw [← hg0] at Drc Drh
 have Er : w.heap.size ≤ gr := by omega
 clear hg0
 have Fr := Lib.hid Nr
 have Fc := Lib.hid Nc
 have Fh := Lib.hid Nh
 have BW := Lib.hid NB
 clear NB Nr Nc Nh
 have Lh := Fh.out.lt
 have ch0 : W1.cell? ⟨gh, 0, none⟩ = some (.nilFunc) := Fh.out.cell 0
 have fh0 : W1.frozen? ⟨gh, 0, none⟩ = false := Fh.out.frozen 0
 go_upto_region 4 with fail
 clear Lh ch0 fh0
 generalize hW2 : (W1.setCell ⟨gh, 0, none⟩ (.func (.func 33) #[] #[.pointer (some ⟨gc, 0, none⟩), .pointer (some ⟨gh, 0, none⟩)])) = W2 at *
 have Nr := at_of hW2 ((Fr.out).far1 Drh _)
 have Nc := at_of hW2 ((Fc.out).far1 Dch _)
 have Nh := at_of hW2 ((Fh.out).put1 _)
 have NB := gr_of hW2 ((BW.out).setCell Eh _)
 clear hW2 BW Fr Fc Fh
 have Fr := Lib.hid Nr
 have Fc := Lib.hid Nc
 have Fh := Lib.hid Nh
 have BW := Lib.hid NB
 clear NB Nr Nc Nh
 have Lh := Fh.out.lt
 have ch0 : W2.cell? ⟨gh, 0, none⟩ = some (.func (.func 33) #[] #[.pointer (some ⟨gc, 0, none⟩), .pointer (some ⟨gh, 0, none⟩)]) := Fh.out.cell 0
 have Lr := Fr.out.lt
 have cr0 : W2.cell? ⟨gr, 0, none⟩ = some (.int .u64 (wd N 0 : Nat)) := Fr.out.cell 0
 have cr1 : W2.cell? ⟨gr, 1, none⟩ = some (.int .u64 (wd N 1 : Nat)) := Fr.out.cell 1
 have cr2 : W2.cell? ⟨gr, 2, none⟩ = some (.int .u64 (wd N 2 : Nat)) := Fr.out.cell 2
 have cr3 : W2.cell? ⟨gr, 3, none⟩ = some (.int .u64 (wd N 3 : Nat)) := Fr.out.cell 3
 have cr4 : W2.cell? ⟨gr, 4, none⟩ = some (.int .u64 (wd Y 0 : Nat)) := Fr.out.cell 4
 have cr5 : W2.cell? ⟨gr, 5, none⟩ = some (.int .u64 (wd Y 1 : Nat)) := Fr.out.cell 5
 have cr6 : W2.cell? ⟨gr, 6, none⟩ = some (.int .u64 (wd Y 2 : Nat)) := Fr.out.cell 6
 have cr7 : W2.cell? ⟨gr, 7, none⟩ = some (.int .u64 (wd Y 3 : Nat)) := Fr.out.cell 7
 have cr8 : W2.cell? ⟨gr, 8, none⟩ = some (.slice a l cap) := Fr.out.cell 8
 go_wp2_with fail
 clear Lh ch0 Lr cr0 cr1 cr2 cr3 cr4 cr5 cr6 cr7 cr8
 refine (HCL.out gc gh Ec Dch _ BW.out Fc.out Fh.out).mono ?_
 rintro e v9 ⟨L, rfl, _, _, _, hk⟩
 have NB := Below.kept BW.out (Nat.le_refl _) hk Ec
 have hv : (decide (r.cnt ≤ 32) && r.ok) = V := by rw [HV.out]; rfl
 rw [hv]
 have BW2 := Lib.hid NB
 clear NB hk hv BW Fc Fh Fr
 go_wp2
 go_ret
 exact ⟨rfl, BW2.out⟩
end Go.Proofs.Ytbggihkigblnfaa

/-
 alive of layer 7, and its of.
-/
namespace Go.Proofs.Ytbggihkigblnfaa
set_option maxRecDepth 100000
open Go.RowKit
set_option linter.unusedSimpArgs false
set_option linter.unusedVariables false
attribute [local go_sem ↓] Go.wp_at_zero Go.wp_at_succ

/-- a check by halves: no number from lo on, 2 ^ k of them, divides n, but those below 2 -/
def nodiv (n : Nat) : Nat → Nat → Bool
 | 0, lo => decide (lo < 2) || n % lo != 0
 | k + 1, lo => nodiv n k lo && nodiv n k (lo + 2 ^ k)
theorem nodiv_spec (n : Nat) : ∀ (k lo : Nat), nodiv n k lo = true → ∀ d, lo ≤ d → d < lo + 2 ^ k → 2 ≤ d → n % d ≠ 0
 | 0, lo, h, d, h1, h2, h3 => by
   have : d = lo := by simp at h2; omega
   subst this
   simp only [nodiv, Bool.or_eq_true, decide_eq_true_eq, bne_iff_ne] at h
   rcases h with h | h
   ·omega
   ·exact h
 | k + 1, lo, h, d, h1, h2, h3 => by
   simp only [nodiv, Bool.and_eq_true] at h
   rw [Nat.pow_succ] at h2
   rcases Nat.lt_or_ge d (lo + 2 ^ k) with h4 | h4
   ·exact nodiv_spec n k lo h.1 d h1 h4 h3
   ·exact nodiv_spec n k (lo + 2 ^ k) h.2 d h4 (by omega) h3
theorem pri_by {n : Nat} (k : Nat) (h2 : 2 ≤ n) (hk : n < 2 ^ k * 2 ^ k) (h : nodiv n k 0 = true) : Pr.Pri n :=
 Pr.pri_of_small h2 fun d hd hdd => nodiv_spec n k 0 h d (Nat.zero_le _) (by
  apply Decidable.byContradiction; intro hc
  have : 2 ^ k * 2 ^ k ≤ d * d := Nat.mul_le_mul (by omega) (by omega)
  omega) hd
end Go.Proofs.Ytbggihkigblnfaa
