/-
 balefireref04: sums, differences, products as mods does them.
-/
import Derived.Test.YtbggihkigblnfaaMMod7
import Derived.Test.YtbggihkigblnfaaMRbits
import Derived.Test.YtbggihkigblnfaaMRefA
import Derived.Test.YtbggihkigblnfaaMTree
namespace Go.Proofs.Ytbggihkigblnfaa
set_option maxRecDepth 100000
open Go.RowKit
set_option linter.unusedSimpArgs false
set_option linter.unusedVariables false
attribute [local go_sem ↓] Go.wp_at_zero Go.wp_at_succ

theorem rs_yes (A B M : Nat) (hM : M < 2 ^ 256) (h1 : 1 < M) (hA : A < M) (hB : B < M) : ∀ w, Calls Try.prog 67 #[num A, num B, num M] w fun e w' => e = .returned (.tuple #[num ((A + M - B) % M), .int .i64 0]) ∧ Below w.heap.size w w' := by
 have MY := may_any A B M (by omega) (by omega) hM
 rw [show decide (1 < M ∧ A < M ∧ B < M) = true from decide_eq_true ⟨h1, hA, hB⟩] at MY
 obtain ⟨S, c, hS, hc, he, _⟩ := sub_ex A B (by omega) (by omega)
 have C := rsub_any A B S c (by omega) (by omega) hS hc he
 have h01 : c = 0 ∨ c = 1 := by omega
 rcases h01 with rfl | rfl
 ·rw [show (A + M - B) % M = S by rw [show A + M - B = S + M by omega, Nat.add_mod_right, Nat.mod_eq_of_lt (by omega)]]
  exact fun w => rsub4_a A B M S MY C w
 ·obtain ⟨L, d, hL, hd, he2, _⟩ := add_ex S M hS hM
  have C2 := radd_any S M L d hS hM hL hd he2
  rw [show (A + M - B) % M = L by rw [Nat.mod_eq_of_lt (by omega)]; omega]
  exact fun w => rsub4_b A B M S L d MY C C2 w
theorem w0_of (X : Nat) (h : X < 18446744073709551616) : wd X 0 = X := by unfold wd; rw [Nat.pow_zero, Nat.div_one, Nat.mod_eq_of_lt h]
theorem mul64_any (a b : Nat) (ha : a < 18446744073709551616) (hb : b < 18446744073709551616) (w : World) : Calls Try.prog 86 #[.int .u64 (a : Nat), .int .u64 (b : Nat)] w fun e w' => e = .returned (.tuple #[.int .u64 ((a * b / 18446744073709551616 : Nat) : Int), .int .u64 ((a * b % 18446744073709551616 : Nat) : Int)]) ∧ Below w.heap.size w w' := (mul64 a b ha hb w).mono fun e w' ⟨he, hw⟩ => ⟨he, by rw [← hw]; exact Below.refl _ _⟩
theorem rt_any (A B M : Nat) (hA : A < M) (hB : B < M) (hM : M < 2 ^ 256) (h1 : 1 < M) : ∀ w, Calls Try.prog 63 #[num A, num B, num M] w fun e w' => e = .returned (num (A * B % M)) ∧ Below w.heap.size w w' := by
 have W := rword_any M hM
 by_cases hm : M < 18446744073709551616
 ·rw [show decide (M < 18446744073709551616) = true from decide_eq_true hm] at W
  have X := mul64_any (wd A 0) (wd B 0) (wd_lt _ _) (wd_lt _ _)
  rw [w0_of A (by omega), w0_of B (by omega)] at X
  have hlt : A * B / 18446744073709551616 < M := by
   refine Nat.div_lt_of_lt_mul ?_
   have : A * B < M * M := Nat.mul_lt_mul'' hA hB
   have : M * M ≤ 18446744073709551616 * M := Nat.mul_le_mul_right _ (by omega)
   omega
  have D := div64_any (A * B / 18446744073709551616) (A * B % 18446744073709551616) M hlt hm (Nat.mod_lt _ (by decide))
  rw [show A * B / 18446744073709551616 * 18446744073709551616 + A * B % 18446744073709551616 = A * B by rw [Nat.mul_comm]; exact Nat.div_add_mod _ _] at D
  have R := rof1_any (A * B % M) (Nat.lt_trans (Nat.mod_lt _ (by omega)) hm)
  intro w
  refine times4_w A B M (A * B / 18446744073709551616) (A * B % 18446744073709551616) (A * B / M) (A * B % M) W (fun w => ?_) (fun w => ?_) R w
  ·rw [w0_of A (by omega), w0_of B (by omega)]; exact X w
  ·rw [w0_of M hm]; exact D w
 ·rw [show decide (M < 18446744073709551616) = false from decide_eq_false hm] at W
  obtain ⟨L, H, hL, hH, he, _⟩ := mul_ex A B (by omega) (by omega)
  have MM := rmul_any A B L H (by omega) (by omega) hL hH he
  have WD := rwide_long L H M hL hH hM (by omega) (fun w => by rw [eqZ M hM]; simp; omega) (by have W2 := rword_any M hM; rw [show decide (M < 18446744073709551616) = false from decide_eq_false hm] at W2; exact W2)
  rw [show wide H L % M = A * B % M by unfold wide; rw [he, Nat.add_comm, Nat.mul_comm]] at WD
  exact fun w => times4_l A B M L H _ W MM WD w
theorem rm_yes (A B M : Nat) (hM : M < 2 ^ 256) (h1 : 1 < M) (hA : A < M) (hB : B < M) : ∀ w, Calls Try.prog 41 #[num A, num B, num M] w fun e w' => e = .returned (.tuple #[num (A * B % M), .int .i64 0]) ∧ Below w.heap.size w w' := by
 have MY := may_any A B M (by omega) (by omega) hM
 rw [show decide (1 < M ∧ A < M ∧ B < M) = true from decide_eq_true ⟨h1, hA, hB⟩] at MY
 exact fun w => rmul4_y A B M _ MY (rt_any A B M hA hB hM h1) w
end Go.Proofs.Ytbggihkigblnfaa

/-
 balefireref04: powers.
-/
namespace Go.Proofs.Ytbggihkigblnfaa
open Go.RowKit
set_option linter.unusedSimpArgs false
set_option linter.unusedVariables false
attribute [local go_sem ↓] Go.wp_at_zero Go.wp_at_succ

set_option maxRecDepth 100000 in
set_option maxHeartbeats 8000000 in
theorem wordp_any (A N M V : Nat) (hA : A < M) (h1 : 1 < M) (hM : M < 18446744073709551616) (hN : N < 2 ^ 256) (hV : V = A ^ N % M) (w : World) : Calls Try.prog 69 #[.int .u64 (A : Nat), num N, .int .u64 (M : Nat)] w fun e w' => e = .returned (.int .u64 (V : Nat)) ∧ Below w.heap.size w w' := by
 have IB := rbits_any N hN
 obtain ⟨m, hm⟩ : ∃ m, Go.bitLen N = m := ⟨_, rfl⟩
 have hm256 : m ≤ 256 := by rw [← hm]; exact bl_le' N hN
 have hNm : N < 2 ^ m := by rw [← hm]; exact (Go.bitLen_spec N).1
 rw [hm] at IB
 have gmw : IntKind.i64.wrap ((m : Int) - 1) = (m : Int) - 1 := by rw [IntKind.wrap_i64]; omega
 have gmz : (M : Int) ≠ 0 := by omega
 have g1 : Int.tmod 1 (M : Int) = 1 := by rw [Int.tmod_eq_emod_of_nonneg (by omega)]; exact Int.emod_eq_of_lt (by omega) (by omega)
 have g1e : (1 : Int) % (M : Int) = 1 := Int.emod_eq_of_lt (by omega) (by omega)
 have HIB := Lib.hid IB; have HNM := Lib.hid hNm; have HA := Lib.hid hA; have H1 := Lib.hid h1; have HM := Lib.hid hM; have HN := Lib.hid hN; have HV := Lib.hid hV
 clear IB hNm hA h1 hM hN hV hm
 go_enter Try.func69, Try.ntmps69
 go_wp2_with fail
 have BW := Lib.hid (Below.refl w.heap.size w)
 generalize hW1 : (w.alloc (.cells #[.int .u64 (wd N 0 : Nat), .int .u64 (wd N 1 : Nat), .int .u64 (wd N 2 : Nat), .int .u64 (wd N 3 : Nat)] 24)) = W1 at *
 have Nn : At W1 (w.heap.size) _ _ := at_of hW1 (At.at_ _ _ _ _ (by simp))
 have NB := gr_of hW1 (gr_alloc BW.out _)
 clear BW
 clear hW1
 obtain ⟨gn, hg0⟩ : ∃ g, g = w.heap.size := ⟨_, rfl⟩
 rw [← hg0] at Nn ⊢
 clear hg0
 have Fn := Lib.hid Nn
 have BW := Lib.hid NB
 clear NB Nn
 refine (HIB.out _).mono ?_
 rintro e v2 ⟨rfl, z2⟩
 have Nn := Lib.hid (Fn.out.on z2)
 have NB := Lib.hid (bel_tr BW.out z2)
 clear BW z2 Fn
 have Fn := Nn
 have BW := NB
 clear NB Nn
 go_wp2_with fail
 go_loopw [7, 8] (fun a b wr => ∃ i r : Nat, i ≤ m ∧ a = .int .u64 (r : Nat) ∧ b = .int .i64 ((i : Int) - 1) ∧ Hid (At wr gn 24 #[.int .u64 (wd N 0 : Nat), .int .u64 (wd N 1 : Nat), .int .u64 (wd N 2 : Nat), .int .u64 (wd N 3 : Nat)] ∧ Below w.heap.size w wr ∧ r = A ^ (N / 2 ^ i) % M)) (fun _ b _ => (intOf b + 1).toNat)
 case atStart =>
  refine ⟨m, 1, Nat.le_refl _, rfl, rfl, Fn.out, BW.out, ?_⟩
  rw [Nat.div_eq_of_lt HNM.out, Nat.pow_zero, Nat.mod_eq_of_lt H1.out]
 case round =>
  obtain ⟨i, r, hi, rfl, rfl, hM⟩ := hrel
  clear BW Fn
  have Fn := Lib.hid hM.out.1; have BW := Lib.hid hM.out.2.1; have HR := Lib.hid hM.out.2.2
  clear hM
  by_cases h0 : i = 0
  ·subst h0
   have hr : r = V := by rw [HR.out, HV.out, Nat.pow_zero, Nat.div_one]
   subst hr
   go_wp2_with fail
   go_ret
   exact ⟨rfl, BW.out⟩
  ·obtain ⟨j, rfl⟩ : ∃ j, i = j + 1 := ⟨i - 1, by omega⟩
   have j256 : j < 256 := by omega
   have e1 : (((j + 1 : Nat) : Int) - 1) = (j : Nat) := by omega
   rw [e1]
   clear e1 h0
   have hMz : 0 < M := by have := H1.out; omega
   have hrM : r < M := by rw [HR.out]; exact Nat.mod_lt _ hMz
   have hM64 := HM.out
   have hAM := HA.out
   have M1 := mul64_any r r (by omega) (by omega)
   obtain ⟨ph, hph⟩ : ∃ p, p = r * r / 18446744073709551616 := ⟨_, rfl⟩
   obtain ⟨pl, hpl⟩ : ∃ p, p = r * r % 18446744073709551616 := ⟨_, rfl⟩
   rw [← hph, ← hpl] at M1
   have hlt : ph < M := by
    rw [hph]; refine Nat.div_lt_of_lt_mul ?_
    have a1 : r * r < M * M := Nat.mul_lt_mul'' hrM hrM
    have a2 : M * M ≤ 18446744073709551616 * M := Nat.mul_le_mul_right _ (by omega)
    omega
   have D1 := div64_any ph pl M hlt hM64 (by rw [hpl]; exact Nat.mod_lt _ (by decide))
   rw [show ph * 18446744073709551616 + pl = r * r by rw [hph, hpl, Nat.mul_comm]; exact Nat.div_add_mod _ _] at D1
   obtain ⟨q1, hq1⟩ : ∃ q, q = r * r / M := ⟨_, rfl⟩
   obtain ⟨r1, hr1⟩ : ∃ q, q = r * r % M := ⟨_, rfl⟩
   rw [← hq1, ← hr1] at D1
   have hr1M : r1 < M := by rw [hr1]; exact Nat.mod_lt _ hMz
   have M2 := mul64_any r1 A (by omega) (by omega)
   obtain ⟨sh, hsh⟩ : ∃ p, p = r1 * A / 18446744073709551616 := ⟨_, rfl⟩
   obtain ⟨sl, hsl⟩ : ∃ p, p = r1 * A % 18446744073709551616 := ⟨_, rfl⟩
   rw [← hsh, ← hsl] at M2
   have hlt2 : sh < M := by
    rw [hsh]; refine Nat.div_lt_of_lt_mul ?_
    have a1 : r1 * A < M * M := Nat.mul_lt_mul'' hr1M hAM
    have a2 : M * M ≤ 18446744073709551616 * M := Nat.mul_le_mul_right _ (by omega)
    omega
   have D2 := div64_any sh sl M hlt2 hM64 (by rw [hsl]; exact Nat.mod_lt _ (by decide))
   rw [show sh * 18446744073709551616 + sl = r1 * A by rw [hsh, hsl, Nat.mul_comm]; exact Nat.div_add_mod _ _] at D2
   obtain ⟨q2, hq2⟩ : ∃ q, q = r1 * A / M := ⟨_, rfl⟩
   obtain ⟨r2, hr2⟩ : ∃ q, q = r1 * A % M := ⟨_, rfl⟩
   rw [← hq2, ← hr2] at D2
   obtain ⟨k, hk⟩ : ∃ k, k = j / 64 := ⟨_, rfl⟩
   obtain ⟨jb, hjb⟩ : ∃ k, k = j % 64 := ⟨_, rfl⟩
   have k4 : k < 4 := by omega
   have jb64 : jb < 64 := by omega
   obtain ⟨wn, hwn⟩ : ∃ x, x = wd N k := ⟨_, rfl⟩
   have wl : wn < 18446744073709551616 := by rw [hwn]; exact wd_lt _ _
   obtain ⟨ws, hws⟩ : ∃ x, x = wn / 2 ^ jb := ⟨_, rfl⟩
   have wsl : ws < 18446744073709551616 := by rw [hws]; exact Nat.lt_of_le_of_lt (Nat.div_le_self _ _) wl
   have hbit : ws % 2 = N / 2 ^ j % 2 := by rw [hws, hwn, wd_bit N k jb jb64, show 64 * k + jb = j by omega]
   have cnk : wr.cell? ⟨gn, k, none⟩ = some (.int .u64 (wn : Nat)) := by rw [hwn]; exact Fn.out.word k4
   have Ln := Fn.out.lt
   have gd : Int.tdiv (j : Int) 64 = (k : Nat) := by rw [Int.tdiv_eq_ediv_of_nonneg (by omega)]; omega
   have gd2 : (j : Int) / 64 = (k : Nat) := by omega
   have gm : Int.tmod (j : Int) 64 = (jb : Nat) := by rw [Int.tmod_eq_emod_of_nonneg (by omega)]; omega
   have gm2 : (j : Int) % 64 = (jb : Nat) := by omega
   have gw : IntKind.i64.wrap (k : Int) = (k : Nat) := by rw [IntKind.wrap_i64]; omega
   have gwj : IntKind.i64.wrap (jb : Int) = (jb : Nat) := by rw [IntKind.wrap_i64]; omega
   have j0 : (0 : Int) ≤ (j : Int) := by omega
   have k0 : (0 : Int) ≤ (k : Int) := by omega
   have k4i : (k : Int) < 4 := by omega
   have jb0 : (0 : Int) ≤ (jb : Int) := by omega
   have jb64i : (jb : Int) < 64 := by omega
   have gsh : (wn : Int) / 2 ^ jb = (ws : Nat) := by rw [hws, show ((2 : Int) ^ jb) = ((2 ^ jb : Nat) : Int) by simp]; exact (Int.natCast_ediv _ _).symm
   have gan : bits BinOp.and IntKind.u64 (ws : Int) 1 = ((ws % 2 : Nat) : Int) := by rw [show (1 : Int) = ((1 : Nat) : Int) from rfl, u64_and_nat _ _ wsl (by decide), nat_mask1]
   have hE : r1 = A ^ (2 * (N / 2 ^ (j + 1))) % M := by rw [hr1, HR.out, pw_square]
   have HM1 := Lib.hid M1; have HD1 := Lib.hid D1; have HM2 := Lib.hid M2; have HD2 := Lib.hid D2; have HE := Lib.hid hE; have HR2 := Lib.hid hr2; have HJ := Lib.hid j256
   have hhalf := wide_half N j
   have h01 : N / 2 ^ j % 2 = 0 ∨ N / 2 ^ j % 2 = 1 := by omega
   have HWN := Lib.hid hwn
   clear M1 D1 M2 D2 hE hr2 hph hpl hlt hq1 hr1 hsh hsl hlt2 hq2 hk hjb hwn wl hws wsl hMz hrM hM64 hAM hr1M
   rcases h01 with hb | hb
   ·rw [hb] at hbit
    rw [hbit] at gan
    have HB := Lib.hid hb; have HH := Lib.hid hhalf
    clear hb hbit hhalf
    go_wp2_with fail
    clear cnk Ln
    refine (HM1.out _).mono ?_
    rintro e v3 ⟨rfl, z3⟩
    have Nn := Lib.hid (Fn.out.on z3); have NB := Lib.hid (bel_tr BW.out z3)
    clear Fn BW z3
    have Fn := Nn; have BW := NB
    clear Nn NB
    go_wp2_with fail
    refine (HD1.out _).mono ?_
    rintro e v4 ⟨rfl, z4⟩
    have Nn := Lib.hid (Fn.out.on z4); have NB := Lib.hid (bel_tr BW.out z4)
    clear Fn BW z4
    have Fn := Nn; have BW := NB
    clear Nn NB
    have cnk : v4.cell? ⟨gn, k, none⟩ = some (.int .u64 (wn : Nat)) := by have := Fn.out.word k4; rw [← HWN.out] at this; exact this
    have Ln := Fn.out.lt
    go_wp2_with fail
    clear cnk Ln
    go_roundw
    case rel =>
     have hrel : r1 = A ^ (N / 2 ^ j) % M := by have e := HH.out; rw [HB.out] at e; rw [HE.out, e]; rfl
     first
      | exact ⟨j, r1, by omega, rfl, by go_num, Fn.out, BW.out, hrel⟩
      | ((repeat apply Exists.intro); exact ⟨⟨j, r1, by omega, rfl, by go_num, Fn.out, BW.out, hrel⟩, rfl⟩)
    case measure => (simp [intOf] <;> omega)
   ·rw [hb] at hbit
    rw [hbit] at gan
    have HB := Lib.hid hb; have HH := Lib.hid hhalf
    clear hb hbit hhalf
    go_wp2_with fail
    clear cnk Ln
    refine (HM1.out _).mono ?_
    rintro e v3 ⟨rfl, z3⟩
    have Nn := Lib.hid (Fn.out.on z3); have NB := Lib.hid (bel_tr BW.out z3)
    clear Fn BW z3
    have Fn := Nn; have BW := NB
    clear Nn NB
    go_wp2_with fail
    refine (HD1.out _).mono ?_
    rintro e v4 ⟨rfl, z4⟩
    have Nn := Lib.hid (Fn.out.on z4); have NB := Lib.hid (bel_tr BW.out z4)
    clear Fn BW z4
    have Fn := Nn; have BW := NB
    clear Nn NB
    have cnk : v4.cell? ⟨gn, k, none⟩ = some (.int .u64 (wn : Nat)) := by have := Fn.out.word k4; rw [← HWN.out] at this; exact this
    have Ln := Fn.out.lt
    go_wp2_with fail
    clear cnk Ln
    refine (HM2.out _).mono ?_
    rintro e v5 ⟨rfl, z5⟩
    have Nn := Lib.hid (Fn.out.on z5); have NB := Lib.hid (bel_tr BW.out z5)
    clear Fn BW z5
    have Fn := Nn; have BW := NB
    clear Nn NB
    go_wp2_with fail
    refine (HD2.out _).mono ?_
    rintro e v6 ⟨rfl, z6⟩
    have Nn := Lib.hid (Fn.out.on z6); have NB := Lib.hid (bel_tr BW.out z6)
    clear Fn BW z6
    have Fn := Nn; have BW := NB
    clear Nn NB
    go_wp2_with fail
    go_roundw
    case rel =>
     have hrel : r2 = A ^ (N / 2 ^ j) % M := by have e := HH.out; rw [HB.out] at e; rw [HR2.out, HE.out, pw_more _ _ _ HA.out, e]
     first
      | exact ⟨j, r2, by omega, rfl, by go_num, Fn.out, BW.out, hrel⟩
      | ((repeat apply Exists.intro); exact ⟨⟨j, r2, by omega, rfl, by go_num, Fn.out, BW.out, hrel⟩, rfl⟩)
    case measure => (simp [intOf] <;> omega)

end Go.Proofs.Ytbggihkigblnfaa
