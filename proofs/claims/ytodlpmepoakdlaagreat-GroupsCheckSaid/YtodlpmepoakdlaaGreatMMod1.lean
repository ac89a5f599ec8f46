import Derived.WalkKit
import Derived.Test.YtodlpmepoakdlaaGreatMCell
import Derived.Test.YtodlpmepoakdlaaGreatMPowIn
import Derived.Test.YtodlpmepoakdlaaGreatMSmall
namespace Go.Proofs.YtodlpmepoakdlaaGreat
set_option maxRecDepth 100000
set_option maxHeartbeats 8000000
set_option linter.unusedSimpArgs false
set_option linter.unusedVariables false
open Go.RowKit
attribute [local go_sem ↓] Go.wp_at_zero Go.wp_at_succ

theorem newt_step (M x p S x' l c h : Int) (R : Int) (d : Int) (e1 : M * x = p + R * l) (e2 : 2 + R * c = S + p) (e3 : x * S = x' + R * h) (hR : d ∣ R) (hd : d ∣ (M * x - 1) * (M * x - 1)) : d ∣ M * x' - 1 := by
 obtain ⟨u, rfl⟩ := hR
 obtain ⟨v, hv⟩ := hd
 refine ⟨u * (M * x * (l + c) - M * h) - v, ?_⟩
 obtain rfl : p = M * x - d * u * l := by omega
 obtain rfl : S = 2 + d * u * c - (M * x - d * u * l) := by omega
 obtain rfl : x' = x * (2 + d * u * c - (M * x - d * u * l)) - d * u * h := by omega
 rw [Int.mul_sub d, ← hv]
 clear hv e1 e2 e3
 grind
theorem mod_dvd {X k : Nat} (hk : 1 < k) (h : X % k = 1) : (k : Int) ∣ (X : Int) - 1 := by
 refine ⟨((X / k : Nat) : Int), ?_⟩
 have := Nat.div_add_mod X k
 rw [h] at this
 have e : ((k * (X / k) + 1 : Nat) : Int) = (X : Int) := by rw [this]
 rw [Int.natCast_add, Int.natCast_mul] at e
 omega
theorem dvd_mod {X k : Nat} (hk : 1 < k) (h : (k : Int) ∣ (X : Int) - 1) : X % k = 1 := by
 obtain ⟨v, hv⟩ := h
 have h3 : (X : Int) % (k : Int) = 1 % (k : Int) := by
  rw [show (X : Int) = 1 + k * v by omega, Int.add_mul_emod_self_left]
 have h4 : ((X % k : Nat) : Int) = ((1 % k : Nat) : Int) := by rw [Int.natCast_emod, Int.natCast_emod]; exact h3
 have h5 : X % k = 1 % k := by omega
 rw [h5, Nat.mod_eq_of_lt hk]
theorem newt_nat (M x p S x' l c h r r' : Nat) (hr : 0 < r') (h1 : r' ≤ 2 * r) (h2 : r' ≤ 256) (h0 : M * x % 2 ^ r = 1) (e1 : M * x = p + 2 ^ 256 * l) (e2 : 2 + 2 ^ 256 * c = S + p) (e3 : x * S = x' + 2 ^ 256 * h) : M * x' % 2 ^ r' = 1 := by
 have hr0 : 0 < r := by omega
 have k1 : 1 < 2 ^ r' := Nat.one_lt_two_pow (by omega)
 have k2 : 1 < 2 ^ r := Nat.one_lt_two_pow (by omega)
 have d0 := mod_dvd k2 h0
 refine dvd_mod k1 ?_
 have hR : ((2 ^ r' : Nat) : Int) ∣ ((2 ^ 256 : Nat) : Int) := Int.natCast_dvd_natCast.2 (Nat.pow_dvd_pow 2 h2)
 have hd : ((2 ^ r' : Nat) : Int) ∣ (((M * x : Nat) : Int) - 1) * (((M * x : Nat) : Int) - 1) := by
  have : ((2 ^ r' : Nat) : Int) ∣ ((2 ^ r * 2 ^ r : Nat) : Int) := Int.natCast_dvd_natCast.2 (by rw [← Nat.pow_add]; exact Nat.pow_dvd_pow 2 (by omega))
  refine Int.dvd_trans this ?_
  rw [Int.natCast_mul]
  exact Int.mul_dvd_mul d0 d0
 generalize 2 ^ 256 = R at *
 generalize 2 ^ r' = d at *
 rw [Int.natCast_mul] at hd ⊢
 refine newt_step (M : Int) x p S x' l c h R d ?_ ?_ ?_ hR hd
 ·have := congrArg (Nat.cast (R := Int)) e1; simpa using this
 ·have := congrArg (Nat.cast (R := Int)) e2; simpa using this
 ·have := congrArg (Nat.cast (R := Int)) e3; simpa using this
theorem newt_first (M : Nat) (h : M % 2 = 1) : M * M % 2 ^ 3 = 1 := by
 rw [Nat.mul_mod]
 have : M % 2 ^ 3 = 1 ∨ M % 2 ^ 3 = 3 ∨ M % 2 ^ 3 = 5 ∨ M % 2 ^ 3 = 7 := by omega
 rcases this with e | e | e | e <;> rw [e]
theorem red_nat (M T low high often h1 off l2 : Nat) (hT : M * T % 2 ^ 256 = 1) (hM : 0 < M) (hl : low < 2 ^ 256) (e1 : low * T = often + 2 ^ 256 * h1) (ho : often < 2 ^ 256) (e2 : often * M = l2 + 2 ^ 256 * off) (hl2 : l2 < 2 ^ 256) :
  off < M ∧ often * M = low + 2 ^ 256 * off := by
 have hoff : off < M := by
  apply Decidable.byContradiction; intro hc
  have a1 : 2 ^ 256 * M ≤ 2 ^ 256 * off := Nat.mul_le_mul_left _ (by omega)
  have a2 : often * M < 2 ^ 256 * M := (Nat.mul_lt_mul_right hM).2 ho
  omega
 have hl : l2 = low := by
  have a1 : often * M % 2 ^ 256 = l2 := by rw [e2, Nat.add_mul_mod_self_left, Nat.mod_eq_of_lt hl2]
  have a2 : low * T * M % 2 ^ 256 = l2 := by rw [e1, Nat.add_mul, Nat.mul_assoc, Nat.add_mul_mod_self_left, a1]
  rw [Nat.mul_assoc, Nat.mul_comm T M, Nat.mul_mod, hT, Nat.mul_one, Nat.mod_mod, Nat.mod_eq_of_lt hl] at a2
  exact a2.symm
 subst hl
 exact ⟨hoff, e2⟩
theorem can_R (M T R k a : Int) (h : M * T = 1 + R * k) (hd : M ∣ a * R) : M ∣ a := by
 obtain ⟨v, hv⟩ := hd
 refine ⟨a * T - v * k, ?_⟩
 have : M * (v * k) = a * R * k := by rw [hv, Int.mul_assoc]
 rw [Int.mul_sub, this]
 have e : M * (a * T) = a * (M * T) := by grind
 rw [e, h]; grind
theorem eq_of_dvd (M a b : Nat) (ha : a < M) (hb : b < M) (h : (M : Int) ∣ (a : Int) - b) : a = b := by
 obtain ⟨v, hv⟩ := h
 have hM : (0 : Int) < M := by omega
 have : v < 1 := by
  apply Decidable.byContradiction; intro hc
  have : (M : Int) * 1 ≤ M * v := Int.mul_le_mul_of_nonneg_left (by omega) (by omega)
  omega
 have : -1 < v := by
  apply Decidable.byContradiction; intro hc
  have : (M : Int) * v ≤ M * (-1) := Int.mul_le_mul_of_nonneg_left (by omega) (by omega)
  omega
 have : v = 0 := by omega
 subst this; omega
theorem Jdg (X M : Nat) : ∃ q : Nat, X = M * q + X % M := ⟨X / M, (Nat.div_add_mod X M).symm⟩
theorem cst {a b : Nat} (h : a = b) : (a : Int) = b := by rw [h]
theorem mont_mul (M T R x y low high often off rest c : Nat) (hT : M * T % R = 1) (hr : rest < M) (hM : 0 < M) (e0 : (x * R % M) * (y * R % M) = low + R * high) (e2 : often * M = low + R * off) (e3 : high + M * c = rest + off) : rest = x * y % M * R % M := by
 refine eq_of_dvd M _ _ hr (Nat.mod_lt _ hM) (can_R M T R (((M * T / R : Nat)) : Int) _ ?_ ?_)
 ·have := cst (Nat.div_add_mod (M * T) R); rw [hT] at this; simp only [Int.natCast_add, Int.natCast_mul] at this ⊢; omega
 ·obtain ⟨q1, h1⟩ := Jdg (x * R) M
  obtain ⟨q2, h2⟩ := Jdg (y * R) M
  obtain ⟨q3, h3⟩ := Jdg (x * y) M
  obtain ⟨q4, h4⟩ := Jdg (x * y % M * R) M
  generalize x * R % M = f at *
  generalize y * R % M = g at *
  generalize x * y % M = p at *
  generalize p * R % M = s at *
  have h1 := cst h1; have h2 := cst h2; have h3 := cst h3; have h4 := cst h4; have e0 := cst e0; have e2 := cst e2; have e3 := cst e3
  simp only [Int.natCast_add, Int.natCast_mul] at h1 h2 h3 h4 e0 e2 e3
  clear hT hr hM
  generalize (M : Int) = M' at *
  generalize (R : Int) = R' at *
  generalize (x : Int) = x' at *
  generalize (y : Int) = y' at *
  generalize (often : Int) = o' at *
  generalize (rest : Int) = r' at *
  generalize (low : Int) = l' at *
  generalize (high : Int) = hi' at *
  generalize (off : Int) = of' at *
  generalize (c : Int) = c' at *
  generalize (f : Int) = f' at *
  generalize (g : Int) = g' at *
  generalize (p : Int) = p' at *
  generalize (s : Int) = s' at *
  generalize (q1 : Int) = q1' at *
  generalize (q2 : Int) = q2' at *
  generalize (q3 : Int) = q3' at *
  generalize (q4 : Int) = q4' at *
  -- r' R = (hi - of + M c) R = f g - o M + M c R ; s R = (p R - M q4) R ; p = x y - M q3
  obtain rfl : r' = hi' + M' * c' - of' := by omega
  obtain rfl : s' = p' * R' - M' * q4' := by omega
  obtain rfl : p' = x' * y' - M' * q3' := by omega
  obtain rfl : f' = x' * R' - M' * q1' := by omega
  obtain rfl : g' = y' * R' - M' * q2' := by omega
  obtain rfl : l' = o' * M' - R' * of' := by omega
  clear h1 h2 h3 h4 e3 e2
  refine ⟨c' * R' - o' + q3' * R' * R' + q4' * R' - x' * R' * q2' - q1' * y' * R' + M' * q1' * q2', ?_⟩
  have k : (hi' + M' * c' - of' - ((x' * y' - M' * q3') * R' - M' * q4')) * R' - M' * (c' * R' - o' + q3' * R' * R' + q4' * R' - x' * R' * q2' - q1' * y' * R' + M' * q1' * q2') = (o' * M' - R' * of' + R' * hi') - (x' * R' - M' * q1') * (y' * R' - M' * q2') := by clear e0; grind
  omega
theorem mont_back (M T R x often off rest c : Nat) (hT : M * T % R = 1) (hr : rest < M) (hx : x < M) (e2 : often * M = x * R % M + R * off) (e3 : 0 + M * c = rest + off) : rest = x := by
 refine eq_of_dvd M _ _ hr hx (can_R M T R (((M * T / R : Nat)) : Int) _ ?_ ?_)
 ·have := cst (Nat.div_add_mod (M * T) R); rw [hT] at this; simp only [Int.natCast_add, Int.natCast_mul] at this ⊢; omega
 ·obtain ⟨q1, h1⟩ := Jdg (x * R) M
  generalize x * R % M = f at *
  have h1 := cst h1; have e2 := cst e2; have e3 := cst e3
  simp only [Int.natCast_add, Int.natCast_mul] at h1 e2 e3
  clear hT hr hx
  generalize (M : Int) = M' at *
  generalize (R : Int) = R' at *
  generalize (x : Int) = x' at *
  generalize (often : Int) = o' at *
  generalize (rest : Int) = r' at *
  generalize (off : Int) = of' at *
  generalize (c : Int) = c' at *
  generalize (f : Int) = f' at *
  generalize (q1 : Int) = q1' at *
  obtain rfl : r' = M' * c' - of' := by omega
  obtain rfl : f' = x' * R' - M' * q1' := by omega
  refine ⟨c' * R' - o' - q1', ?_⟩
  grind
theorem diff_none (A B M S : Nat)
  (cs : ∀ w, Calls Tryz.prog 35 #[num A, num B] w fun e w' => e = .returned (.tuple #[num S, .int .u64 0]) ∧ Below w.heap.size w w')
  (w : World) : Calls Tryz.prog 96 #[num A, num B, num M] w fun e w' => e = .returned (.tuple #[num S, .int .i64 0]) ∧ Below w.heap.size w w' := by
 have Hcs := Jfg cs
 clear cs
 go_enter Tryz.func96, Tryz.ntmps96
 go_wp2_with fail
 have BW := Jfg (Below.refl w.heap.size w)
 have Ex : w.heap.size ≤ w.heap.size + 1 + 1 + 1 := by have := BW.out.size; omega
 have Dax : w.heap.size ≠ w.heap.size + 1 + 1 + 1 := by omega
 have Dbx : w.heap.size + 1 ≠ w.heap.size + 1 + 1 + 1 := by omega
 have Dmx : w.heap.size + 1 + 1 ≠ w.heap.size + 1 + 1 + 1 := by omega
 generalize hW1 : ((((w.alloc (.cells (ncs A) 24)).alloc (.cells (ncs B) 24)).alloc (.cells (ncs M) 24)).alloc (.cells #[.int .u64 0, .int .u64 0, .int .u64 0, .int .u64 0] 24)) = W1 at *
 have Na : At W1 (w.heap.size) _ _ := Jb hW1 ((((At.at_ _ _ _ _ (by simp)).alloc _).alloc _).alloc _)
 have Nb : At W1 (w.heap.size + 1) _ _ := Jb hW1 (((At.at_ _ _ _ _ (by simp)).alloc _).alloc _)
 have Nm : At W1 (w.heap.size + 1 + 1) _ _ := Jb hW1 ((At.at_ _ _ _ _ (by simp)).alloc _)
 have Nx : At W1 (w.heap.size + 1 + 1 + 1) _ _ := Jb hW1 (At.at_ _ _ _ _ (by simp))
 have NB := gr_of hW1 (gr_alloc (gr_alloc (gr_alloc (gr_alloc BW.out _) _) _) _)
 clear hW1 BW 
 generalize w.heap.size + 1 + 1 + 1 = gx at *
 generalize w.heap.size + 1 + 1 = gm at *
 generalize w.heap.size + 1 = gb at *
 obtain ⟨ga, hg0⟩ : ∃ g, g = w.heap.size := ⟨_, rfl⟩
 rw [← hg0] at Na ⊢
 rw [← hg0] at Dax
 clear hg0
 have Fa := Jfg Na
 have Fb := Jfg Nb
 have Fm := Jfg Nm
 have Fx := Jfg Nx
 have BW := Jfg NB
 clear NB Na Nb Nm Nx
 refine (Hcs.out _).mono ?_
 rintro e v2 ⟨rfl, z2⟩
 have Na := Jfg (Fa.out.on z2)
 have Nb := Jfg (Fb.out.on z2)
 have Nm := Jfg (Fm.out.on z2)
 have Nx := Jfg (Fx.out.on z2)
 have NB := Jfg (bel_tr BW.out z2)
 clear BW z2 Fa Fb Fm Fx
 have Fa := Na
 have Fb := Nb
 have Fm := Nm
 have Fx := Nx
 have BW := NB
 clear NB Na Nb Nm Nx
 have Lx := Fx.out.lt
 have cx0 := Fx.out.c0; have cx1 := Fx.out.c1; have cx2 := Fx.out.c2; have cx3 := Fx.out.c3
 obtain ⟨fx0, fx1, fx2, fx3⟩ := Vb Fx.out
 go_wp2_with fail
 clear Lx cx0 cx1 cx2 cx3 fx0 fx1 fx2 fx3
 generalize hW3 : ((((v2.setCell ⟨gx, 0, none⟩ (.int .u64 (wd S 0))).setCell ⟨gx, 1, none⟩ (.int .u64 (wd S 1))).setCell ⟨gx, 2, none⟩ (.int .u64 (wd S 2))).setCell ⟨gx, 3, none⟩ (.int .u64 (wd S 3))) = W3 at *
 have Na := Jb hW3 ((Fa.out).far4 Dax _ _ _ _)
 have Nb := Jb hW3 ((Fb.out).far4 Dbx _ _ _ _)
 have Nm := Jb hW3 ((Fm.out).far4 Dmx _ _ _ _)
 have Nx := Jb hW3 ((Fx.out).put4 _ _ _ _)
 have NB := gr_of hW3 (((((BW.out).setCell Ex _).setCell Ex _).setCell Ex _).setCell Ex _)
 clear hW3 BW Fa Fb Fm Fx
 have Fa := Jfg Na
 have Fb := Jfg Nb
 have Fm := Jfg Nm
 have Fx := Jfg Nx
 have BW := Jfg NB
 clear NB Na Nb Nm Nx
 have Dxs : gx ≠ W3.heap.size := by have := Fx.out.lt; omega
 generalize hW4 : (W3.alloc (.cells (ncs S) 24)) = W4 at *
 have Ns : At W4 (W3.heap.size) _ _ := Jb hW4 (At.at_ _ _ _ _ (by simp))
 have Na := Jb hW4 (Fa.out.alloc _)
 have Nb := Jb hW4 (Fb.out.alloc _)
 have Nm := Jb hW4 (Fm.out.alloc _)
 have Nx := Jb hW4 (Fx.out.alloc _)
 have NB := gr_of hW4 (gr_alloc BW.out _)
 clear hW4 BW Fa Fb Fm Fx
 generalize W3.heap.size = gs at *
 have Fa := Jfg Na
 have Fb := Jfg Nb
 have Fm := Jfg Nm
 have Fx := Jfg Nx
 have Fs := Jfg Ns
 have BW := Jfg NB
 clear NB Na Nb Nm Nx Ns
 have Lx := Fx.out.lt
 have cx0 := Fx.out.c0; have cx1 := Fx.out.c1; have cx2 := Fx.out.c2; have cx3 := Fx.out.c3
 refine bodyPost_ret (v := .tuple #[num S, .int .i64 0]) (by simp [results, Tryz.results96, go_sem, *]) rfl ⟨rfl, BW.out⟩

theorem diff_some (A B M S L c : Nat)
  (cs : ∀ w, Calls Tryz.prog 35 #[num A, num B] w fun e w' => e = .returned (.tuple #[num S, .int .u64 1]) ∧ Below w.heap.size w w')
  (ct : ∀ w, Calls Tryz.prog 82 #[num S, num M] w fun e w' => e = .returned (.tuple #[num L, .int .u64 (c : Nat)]) ∧ Below w.heap.size w w')
  (w : World) : Calls Tryz.prog 96 #[num A, num B, num M] w fun e w' => e = .returned (.tuple #[num L, .int .i64 0]) ∧ Below w.heap.size w w' := by
 have Hcs := Jfg cs
 have Hct := Jfg ct
 clear cs ct
 go_enter Tryz.func96, Tryz.ntmps96
 go_wp2_with fail
 have BW := Jfg (Below.refl w.heap.size w)
 have Ex : w.heap.size ≤ w.heap.size + 1 + 1 + 1 := by have := BW.out.size; omega
 have Dax : w.heap.size ≠ w.heap.size + 1 + 1 + 1 := by omega
 have Dbx : w.heap.size + 1 ≠ w.heap.size + 1 + 1 + 1 := by omega
 have Dmx : w.heap.size + 1 + 1 ≠ w.heap.size + 1 + 1 + 1 := by omega
 generalize hW1 : ((((w.alloc (.cells (ncs A) 24)).alloc (.cells (ncs B) 24)).alloc (.cells (ncs M) 24)).alloc (.cells #[.int .u64 0, .int .u64 0, .int .u64 0, .int .u64 0] 24)) = W1 at *
 have Na : At W1 (w.heap.size) _ _ := Jb hW1 ((((At.at_ _ _ _ _ (by simp)).alloc _).alloc _).alloc _)
 have Nb : At W1 (w.heap.size + 1) _ _ := Jb hW1 (((At.at_ _ _ _ _ (by simp)).alloc _).alloc _)
 have Nm : At W1 (w.heap.size + 1 + 1) _ _ := Jb hW1 ((At.at_ _ _ _ _ (by simp)).alloc _)
 have Nx : At W1 (w.heap.size + 1 + 1 + 1) _ _ := Jb hW1 (At.at_ _ _ _ _ (by simp))
 have NB := gr_of hW1 (gr_alloc (gr_alloc (gr_alloc (gr_alloc BW.out _) _) _) _)
 clear hW1 BW 
 generalize w.heap.size + 1 + 1 + 1 = gx at *
 generalize w.heap.size + 1 + 1 = gm at *
 generalize w.heap.size + 1 = gb at *
 obtain ⟨ga, hg0⟩ : ∃ g, g = w.heap.size := ⟨_, rfl⟩
 rw [← hg0] at Na ⊢
 rw [← hg0] at Dax
 clear hg0
 have Fa := Jfg Na
 have Fb := Jfg Nb
 have Fm := Jfg Nm
 have Fx := Jfg Nx
 have BW := Jfg NB
 clear NB Na Nb Nm Nx
 refine (Hcs.out _).mono ?_
 rintro e v2 ⟨rfl, z2⟩
 have Na := Jfg (Fa.out.on z2)
 have Nb := Jfg (Fb.out.on z2)
 have Nm := Jfg (Fm.out.on z2)
 have Nx := Jfg (Fx.out.on z2)
 have NB := Jfg (bel_tr BW.out z2)
 clear BW z2 Fa Fb Fm Fx
 have Fa := Na
 have Fb := Nb
 have Fm := Nm
 have Fx := Nx
 have BW := NB
 clear NB Na Nb Nm Nx
 have Lm := Fm.out.lt
 have cm0 := Fm.out.c0; have cm1 := Fm.out.c1; have cm2 := Fm.out.c2; have cm3 := Fm.out.c3
 go_wp2_with fail
 clear Lm cm0 cm1 cm2 cm3
 have Es : w.heap.size ≤ v2.heap.size := by have := BW.out.size; omega
 have Das : ga ≠ v2.heap.size := by have := Fa.out.lt; omega
 have Dbs : gb ≠ v2.heap.size := by have := Fb.out.lt; omega
 have Dms : gm ≠ v2.heap.size := by have := Fm.out.lt; omega
 have Dxs : gx ≠ v2.heap.size := by have := Fx.out.lt; omega
 generalize hW3 : (v2.alloc (.cells (ncs S) 24)) = W3 at *
 have Ns : At W3 (v2.heap.size) _ _ := Jb hW3 (At.at_ _ _ _ _ (by simp))
 have Na := Jb hW3 (Fa.out.alloc _)
 have Nb := Jb hW3 (Fb.out.alloc _)
 have Nm := Jb hW3 (Fm.out.alloc _)
 have Nx := Jb hW3 (Fx.out.alloc _)
 have NB := gr_of hW3 (gr_alloc BW.out _)
 clear hW3 BW Fa Fb Fm Fx
 generalize v2.heap.size = gs at *
 have Fa := Jfg Na
 have Fb := Jfg Nb
 have Fm := Jfg Nm
 have Fx := Jfg Nx
 have Fs := Jfg Ns
 have BW := Jfg NB
 clear NB Na Nb Nm Nx Ns
 refine (Hct.out _).mono ?_
 rintro e v4 ⟨rfl, z4⟩
 have Na := Jfg (Fa.out.on z4)
 have Nb := Jfg (Fb.out.on z4)
 have Nm := Jfg (Fm.out.on z4)
 have Nx := Jfg (Fx.out.on z4)
 have Ns := Jfg (Fs.out.on z4)
 have NB := Jfg (bel_tr BW.out z4)
 clear BW z4 Fa Fb Fm Fx Fs
 have Fa := Na
 have Fb := Nb
 have Fm := Nm
 have Fx := Nx
 have Fs := Ns
 have BW := NB
 clear NB Na Nb Nm Nx Ns
 have Ls := Fs.out.lt
 have cs0 := Fs.out.c0; have cs1 := Fs.out.c1; have cs2 := Fs.out.c2; have cs3 := Fs.out.c3
 obtain ⟨fs0, fs1, fs2, fs3⟩ := Vb Fs.out
 have Lx := Fx.out.lt
 have cx0 := Fx.out.c0; have cx1 := Fx.out.c1; have cx2 := Fx.out.c2; have cx3 := Fx.out.c3
 obtain ⟨fx0, fx1, fx2, fx3⟩ := Vb Fx.out
 go_wp2_with fail
 clear Ls cs0 cs1 cs2 cs3 fs0 fs1 fs2 fs3 Lx cx0 cx1 cx2 cx3 fx0 fx1 fx2 fx3
 generalize hW5 : ((((((((v4.setCell ⟨gs, 0, none⟩ (.int .u64 (wd L 0))).setCell ⟨gs, 1, none⟩ (.int .u64 (wd L 1))).setCell ⟨gs, 2, none⟩ (.int .u64 (wd L 2))).setCell ⟨gs, 3, none⟩ (.int .u64 (wd L 3))).setCell ⟨gx, 0, none⟩ (.int .u64 (wd L 0))).setCell ⟨gx, 1, none⟩ (.int .u64 (wd L 1))).setCell ⟨gx, 2, none⟩ (.int .u64 (wd L 2))).setCell ⟨gx, 3, none⟩ (.int .u64 (wd L 3))) = W5 at *
 have Na := Jb hW5 (((Fa.out).far4 Das _ _ _ _).far4 Dax _ _ _ _)
 have Nb := Jb hW5 (((Fb.out).far4 Dbs _ _ _ _).far4 Dbx _ _ _ _)
 have Nm := Jb hW5 (((Fm.out).far4 Dms _ _ _ _).far4 Dmx _ _ _ _)
 have Nx := Jb hW5 (((Fx.out).far4 Dxs _ _ _ _).put4 _ _ _ _)
 have Ns := Jb hW5 (((Fs.out).put4 _ _ _ _).far4 Dxs.symm _ _ _ _)
 have NB := gr_of hW5 (((((((((BW.out).setCell Es _).setCell Es _).setCell Es _).setCell Es _).setCell Ex _).setCell Ex _).setCell Ex _).setCell Ex _)
 clear hW5 BW Fa Fb Fm Fx Fs
 have Fa := Jfg Na
 have Fb := Jfg Nb
 have Fm := Jfg Nm
 have Fx := Jfg Nx
 have Fs := Jfg Ns
 have BW := Jfg NB
 clear NB Na Nb Nm Nx Ns
 have Lx := Fx.out.lt
 have cx0 := Fx.out.c0; have cx1 := Fx.out.c1; have cx2 := Fx.out.c2; have cx3 := Fx.out.c3
 refine bodyPost_ret (v := .tuple #[num L, .int .i64 0]) (by simp [results, Tryz.results96, go_sem, *]) rfl ⟨rfl, BW.out⟩

theorem diff_ex (A B M : Nat) (hA : A < M) (hB : B < M) (hM : M < 2 ^ 256) : ∃ L c : Nat, L < M ∧ c ≤ 1 ∧ A + M * c = L + B ∧
  ∀ w, Calls Tryz.prog 96 #[num A, num B, num M] w fun e w' => e = .returned (.tuple #[num L, .int .i64 0]) ∧ Below w.heap.size w w' := by
 obtain ⟨S, c, hS, hc, he, C⟩ := Jaj A B (by omega) (by omega)
 have h01 : c = 0 ∨ c = 1 := by omega
 rcases h01 with rfl | rfl
 ·exact ⟨S, 0, by omega, by omega, by omega, fun w => diff_none A B M S C w⟩
 ·obtain ⟨L, d, hL, hd, he2, C2⟩ := Jdl S M hS hM
  have : d = 1 := by omega
  subst this
  exact ⟨L, 1, by omega, by omega, by omega, fun w => diff_some A B M S L 1 C C2 w⟩

theorem prod_some (A B M L H r : Nat)
  (cs : ∀ w, Calls Tryz.prog 60 #[num A, num B] w fun e w' => e = .returned (.tuple #[num L, num H]) ∧ Below w.heap.size w w')
  (ct : ∀ w, Calls Tryz.prog 61 #[num L, num H, num M] w fun e w' => e = .returned (.tuple #[num r, .int .i64 0]) ∧ Below w.heap.size w w')
  (w : World) : Calls Tryz.prog 39 #[num A, num B, num M] w fun e w' => e = .returned (.tuple #[num r, .int .i64 0]) ∧ Below w.heap.size w w' := by
 have Hcs := Jfg cs
 have Hct := Jfg ct
 clear cs ct
 go_enter Tryz.func39, Tryz.ntmps39
 go_wp2_with fail
 have BW := Jfg (Below.refl w.heap.size w)
 have Ex : w.heap.size ≤ w.heap.size + 1 + 1 + 1 := by have := BW.out.size; omega
 have Dax : w.heap.size ≠ w.heap.size + 1 + 1 + 1 := by omega
 have Dbx : w.heap.size + 1 ≠ w.heap.size + 1 + 1 + 1 := by omega
 have Dmx : w.heap.size + 1 + 1 ≠ w.heap.size + 1 + 1 + 1 := by omega
 generalize hW1 : ((((w.alloc (.cells (ncs A) 24)).alloc (.cells (ncs B) 24)).alloc (.cells (ncs M) 24)).alloc (.cells #[.int .u64 0, .int .u64 0, .int .u64 0, .int .u64 0] 24)) = W1 at *
 have Na : At W1 (w.heap.size) _ _ := Jb hW1 ((((At.at_ _ _ _ _ (by simp)).alloc _).alloc _).alloc _)
 have Nb : At W1 (w.heap.size + 1) _ _ := Jb hW1 (((At.at_ _ _ _ _ (by simp)).alloc _).alloc _)
 have Nm : At W1 (w.heap.size + 1 + 1) _ _ := Jb hW1 ((At.at_ _ _ _ _ (by simp)).alloc _)
 have Nx : At W1 (w.heap.size + 1 + 1 + 1) _ _ := Jb hW1 (At.at_ _ _ _ _ (by simp))
 have NB := gr_of hW1 (gr_alloc (gr_alloc (gr_alloc (gr_alloc BW.out _) _) _) _)
 clear hW1 BW 
 generalize w.heap.size + 1 + 1 + 1 = gx at *
 generalize w.heap.size + 1 + 1 = gm at *
 generalize w.heap.size + 1 = gb at *
 obtain ⟨ga, hg0⟩ : ∃ g, g = w.heap.size := ⟨_, rfl⟩
 rw [← hg0] at Na ⊢
 rw [← hg0] at Dax
 clear hg0
 have Fa := Jfg Na
 have Fb := Jfg Nb
 have Fm := Jfg Nm
 have Fx := Jfg Nx
 have BW := Jfg NB
 clear NB Na Nb Nm Nx
 refine (Hcs.out _).mono ?_
 rintro e v2 ⟨rfl, z2⟩
 have Na := Jfg (Fa.out.on z2)
 have Nb := Jfg (Fb.out.on z2)
 have Nm := Jfg (Fm.out.on z2)
 have Nx := Jfg (Fx.out.on z2)
 have NB := Jfg (bel_tr BW.out z2)
 clear BW z2 Fa Fb Fm Fx
 have Fa := Na
 have Fb := Nb
 have Fm := Nm
 have Fx := Nx
 have BW := NB
 clear NB Na Nb Nm Nx
 have Lm := Fm.out.lt
 have cm0 := Fm.out.c0; have cm1 := Fm.out.c1; have cm2 := Fm.out.c2; have cm3 := Fm.out.c3
 go_wp2_with fail
 clear Lm cm0 cm1 cm2 cm3
 have Dxl : gx ≠ v2.heap.size := by have := Fx.out.lt; omega
 have Dxh : gx ≠ v2.heap.size + 1 := by have := Fx.out.lt; omega
 generalize hW3 : ((v2.alloc (.cells (ncs L) 24)).alloc (.cells (ncs H) 24)) = W3 at *
 have Nl : At W3 (v2.heap.size) _ _ := Jb hW3 ((At.at_ _ _ _ _ (by simp)).alloc _)
 have Nh : At W3 (v2.heap.size + 1) _ _ := Jb hW3 (At.at_ _ _ _ _ (by simp))
 have Na := Jb hW3 ((Fa.out.alloc _).alloc _)
 have Nb := Jb hW3 ((Fb.out.alloc _).alloc _)
 have Nm := Jb hW3 ((Fm.out.alloc _).alloc _)
 have Nx := Jb hW3 ((Fx.out.alloc _).alloc _)
 have NB := gr_of hW3 (gr_alloc (gr_alloc BW.out _) _)
 clear hW3 BW Fa Fb Fm Fx
 generalize v2.heap.size + 1 = gh at *
 generalize v2.heap.size = gl at *
 have Fa := Jfg Na
 have Fb := Jfg Nb
 have Fm := Jfg Nm
 have Fx := Jfg Nx
 have Fl := Jfg Nl
 have Fh := Jfg Nh
 have BW := Jfg NB
 clear NB Na Nb Nm Nx Nl Nh
 refine (Hct.out _).mono ?_
 rintro e v4 ⟨rfl, z4⟩
 have Na := Jfg (Fa.out.on z4)
 have Nb := Jfg (Fb.out.on z4)
 have Nm := Jfg (Fm.out.on z4)
 have Nx := Jfg (Fx.out.on z4)
 have Nl := Jfg (Fl.out.on z4)
 have Nh := Jfg (Fh.out.on z4)
 have NB := Jfg (bel_tr BW.out z4)
 clear BW z4 Fa Fb Fm Fx Fl Fh
 have Fa := Na
 have Fb := Nb
 have Fm := Nm
 have Fx := Nx
 have Fl := Nl
 have Fh := Nh
 have BW := NB
 clear NB Na Nb Nm Nx Nl Nh
 have Lx := Fx.out.lt
 have cx0 := Fx.out.c0; have cx1 := Fx.out.c1; have cx2 := Fx.out.c2; have cx3 := Fx.out.c3
 obtain ⟨fx0, fx1, fx2, fx3⟩ := Vb Fx.out
 go_wp2_with fail
 clear Lx cx0 cx1 cx2 cx3 fx0 fx1 fx2 fx3
 generalize hW5 : ((((v4.setCell ⟨gx, 0, none⟩ (.int .u64 (wd r 0))).setCell ⟨gx, 1, none⟩ (.int .u64 (wd r 1))).setCell ⟨gx, 2, none⟩ (.int .u64 (wd r 2))).setCell ⟨gx, 3, none⟩ (.int .u64 (wd r 3))) = W5 at *
 have Na := Jb hW5 ((Fa.out).far4 Dax _ _ _ _)
 have Nb := Jb hW5 ((Fb.out).far4 Dbx _ _ _ _)
 have Nm := Jb hW5 ((Fm.out).far4 Dmx _ _ _ _)
 have Nx := Jb hW5 ((Fx.out).put4 _ _ _ _)
 have Nl := Jb hW5 ((Fl.out).far4 Dxl.symm _ _ _ _)
 have Nh := Jb hW5 ((Fh.out).far4 Dxh.symm _ _ _ _)
 have NB := gr_of hW5 (((((BW.out).setCell Ex _).setCell Ex _).setCell Ex _).setCell Ex _)
 clear hW5 BW Fa Fb Fm Fx Fl Fh
 have Fa := Jfg Na
 have Fb := Jfg Nb
 have Fm := Jfg Nm
 have Fx := Jfg Nx
 have Fl := Jfg Nl
 have Fh := Jfg Nh
 have BW := Jfg NB
 clear NB Na Nb Nm Nx Nl Nh
 have Lx := Fx.out.lt
 have cx0 := Fx.out.c0; have cx1 := Fx.out.c1; have cx2 := Fx.out.c2; have cx3 := Fx.out.c3
 refine bodyPost_ret (v := .tuple #[num r, .int .i64 0]) (by simp [results, Tryz.results39, go_sem, *]) rfl ⟨rfl, BW.out⟩

theorem prod_any (A B M : Nat) (hA : A < 2 ^ 256) (hB : B < 2 ^ 256) (hM : M < 2 ^ 256) (h0 : M ≠ 0) :
  ∀ w, Calls Tryz.prog 39 #[num A, num B, num M] w fun e w' => e = .returned (.tuple #[num (A * B % M), .int .i64 0]) ∧ Below w.heap.size w w' := by
 obtain ⟨L, H, hL, hH, he, C⟩ := Xc A B hA hB
 obtain ⟨r, hr, er, D⟩ := wide_ex L H M hL hH hM h0
 have : r = A * B % M := by rw [er, he]; unfold wide; rw [Nat.add_comm, Nat.mul_comm]
 subst this
 exact fun w => prod_some A B M L H _ C D w

theorem Wd (M r r' : Nat) (hr : 0 < r') (h1 : r' ≤ 2 * r) (h2 : r' ≤ 256) (h : ∃ X, X < 2 ^ 256 ∧ M * X % 2 ^ r = 1) : ∃ X, X < 2 ^ 256 ∧ M * X % 2 ^ r' = 1 := by
 obtain ⟨X, hX, h⟩ := h
 obtain ⟨S, c, e⟩ : ∃ S c, 2 + 2 ^ 256 * c = S + M * X % 2 ^ 256 := by
  have : M * X % 2 ^ 256 < 2 ^ 256 := Nat.mod_lt _ (by decide)
  exact ⟨2 + 2 ^ 256 - M * X % 2 ^ 256, 1, by omega⟩
 exact ⟨X * S % 2 ^ 256, Nat.mod_lt _ (by decide), newt_nat M X (M * X % 2 ^ 256) S (X * S % 2 ^ 256) (M * X / 2 ^ 256) c (X * S / 2 ^ 256) r r' hr h1 h2 h (by omega) e (by omega)⟩
theorem inv_exists (M : Nat) (hM : M < 2 ^ 256) (h : M % 2 = 1) : ∃ X, X < 2 ^ 256 ∧ M * X % 2 ^ 256 = 1 :=
 Wd M 192 256 (by decide) (by decide) (by decide) <| Wd M 96 192 (by decide) (by decide) (by decide) <| Wd M 48 96 (by decide) (by decide) (by decide) <|
 Wd M 24 48 (by decide) (by decide) (by decide) <| Wd M 12 24 (by decide) (by decide) (by decide) <| Wd M 6 12 (by decide) (by decide) (by decide) <| Wd M 3 6 (by decide) (by decide) (by decide)
  ⟨M, hM, newt_first M h⟩
theorem inv_one (M X T R : Nat) (hX : X < R) (hT : T < R) (h : M * X % R = 1) (k : M * T % R = 1) : X = T := by
 have a : M * X * T % R = T := by rw [Nat.mul_mod, h, Nat.one_mul, Nat.mod_mod, Nat.mod_eq_of_lt hT]
 have b : M * T * X % R = X := by rw [Nat.mul_mod, k, Nat.one_mul, Nat.mod_mod, Nat.mod_eq_of_lt hX]
 rw [show M * X * T = M * T * X by rw [Nat.mul_assoc, Nat.mul_comm X, ← Nat.mul_assoc]] at a
 exact b.symm.trans a
theorem newt_round (M X p S X2 l c h r : Nat) (h3 : 3 ≤ r) (h0 : M * X % 2 ^ (min r 256) = 1) (hr : r < 256) (e1 : M * X = p + 2 ^ 256 * l) (e2 : 2 + 2 ^ 256 * c = S + p) (e3 : X * S = X2 + 2 ^ 256 * h) : M * X2 % 2 ^ (min (r * 2) 256) = 1 :=
 newt_nat M X p S X2 l c h (min r 256) (min (r * 2) 256) (by omega) (by omega) (by omega) h0 e1 e2 e3
end Go.Proofs.YtodlpmepoakdlaaGreat
